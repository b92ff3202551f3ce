/- Runs of the program at a seat. -/
import Derived.Test.YtadmpiidofncpaaAtshareH
namespace Go.Proofs.Ytadmpiidofncpaa.atshareDrawn
open Go Go.Eng
set_option linter.unusedVariables false
set_option linter.unusedSectionVars false
set_option linter.unusedSimpArgs false
set_option maxRecDepth 100000 in
theorem c9_6_9 : chkR (anyDrew false ls178) dR (.three 12348 (pointQ 4 4) (pointQ 4 4) (pointQ 4 4)) [(8203, 9, 9), (4103, 6, 6), (10, 9, 9)] = true := by kernel_rfl
set_option maxRecDepth 100000 in
theorem c5_6_10 : chkR (anyDrew false ls59) dR (.three 12348 (pointQ 4 4) (pointQ 4 4) (pointQ 4 4)) [(8203, 10, 10), (4103, 6, 6), (10, 5, 5)] = true := by kernel_rfl
set_option maxRecDepth 100000 in
theorem c7_6_7 : chkR (anyDrew false ls116) dR (.three 12348 (pointQ 4 4) (pointQ 4 4) (pointQ 4 4)) [(8203, 7, 7), (4103, 6, 6), (10, 7, 7)] = true := by kernel_rfl
set_option maxRecDepth 100000 in
theorem c7_6_6 : chkR (anyDrew false ls115) dR (.three 12348 (pointQ 4 4) (pointQ 4 4) (pointQ 4 4)) [(8203, 6, 6), (4103, 6, 6), (10, 7, 7)] = true := by kernel_rfl
set_option maxRecDepth 100000 in
theorem c5_6_7 : chkR (anyDrew false ls56) dR (.three 12348 (pointQ 4 4) (pointQ 4 4) (pointQ 4 4)) [(8203, 7, 7), (4103, 6, 6), (10, 5, 5)] = true := by kernel_rfl
set_option maxRecDepth 100000 in
theorem c1_6_10 : chkR (anyDrew false ls59) dR (.three 12348 (pointQ 4 4) (pointQ 4 4) (pointQ 4 4)) [(8203, 10, 10), (4103, 6, 6), (10, 1, 1)] = true := by kernel_rfl
set_option maxRecDepth 100000 in
theorem c7_6_4 : chkR (anyDrew false ls113) dR (.three 12348 (pointQ 4 4) (pointQ 4 4) (pointQ 4 4)) [(8203, 4, 4), (4103, 6, 6), (10, 7, 7)] = true := by kernel_rfl
set_option maxRecDepth 100000 in
theorem c2_6_8 : chkR (anyDrew false ls87) dR (.three 12348 (pointQ 4 4) (pointQ 4 4) (pointQ 4 4)) [(8203, 8, 8), (4103, 6, 6), (10, 2, 2)] = true := by kernel_rfl
set_option maxRecDepth 100000 in
theorem c7_6_3 : chkR (anyDrew false ls112) dR (.three 12348 (pointQ 4 4) (pointQ 4 4) (pointQ 4 4)) [(8203, 3, 3), (4103, 6, 6), (10, 7, 7)] = true := by kernel_rfl
set_option maxRecDepth 100000 in
theorem c1_6_8 : chkR (anyDrew false ls57) dR (.three 12348 (pointQ 4 4) (pointQ 4 4) (pointQ 4 4)) [(8203, 8, 8), (4103, 6, 6), (10, 1, 1)] = true := by kernel_rfl
set_option maxRecDepth 100000 in
theorem c6_6_3 : chkR (anyDrew false ls82) dR (.three 12348 (pointQ 4 4) (pointQ 4 4) (pointQ 4 4)) [(8203, 3, 3), (4103, 6, 6), (10, 6, 6)] = true := by kernel_rfl
set_option maxRecDepth 100000 in
theorem c9_5_1 : chkR (anyDrew false ls163) dR (.three 12348 (pointQ 4 4) (pointQ 4 4) (pointQ 4 4)) [(8199, 1, 1), (4103, 5, 5), (10, 9, 9)] = true := by kernel_rfl
set_option maxRecDepth 100000 in
theorem c4_6_4 : chkR (anyDrew false ls23) dR (.three 12348 (pointQ 4 4) (pointQ 4 4) (pointQ 4 4)) [(8203, 4, 4), (4103, 6, 6), (10, 4, 4)] = true := by kernel_rfl
set_option maxRecDepth 100000 in
theorem c7_6_1 : chkR (anyDrew false ls110) dR (.three 12348 (pointQ 4 4) (pointQ 4 4) (pointQ 4 4)) [(8203, 1, 1), (4103, 6, 6), (10, 7, 7)] = true := by kernel_rfl
set_option maxRecDepth 100000 in
theorem c1_6_6 : chkR (anyDrew false ls55) dR (.three 12348 (pointQ 4 4) (pointQ 4 4) (pointQ 4 4)) [(8203, 6, 6), (4103, 6, 6), (10, 1, 1)] = true := by kernel_rfl
set_option maxRecDepth 100000 in
theorem c5_5_3 : chkR (anyDrew false ls45) dR (.three 12348 (pointQ 4 4) (pointQ 4 4) (pointQ 4 4)) [(8199, 3, 3), (4103, 5, 5), (10, 5, 5)] = true := by kernel_rfl
set_option maxRecDepth 100000 in
theorem c8_3_2 : chkR (anyDrew false ls126) dR (.three 12348 (pointQ 4 4) (pointQ 4 4) (pointQ 4 4)) [(8195, 2, 2), (4103, 3, 3), (10, 8, 8)] = true := by kernel_rfl
set_option maxRecDepth 100000 in
theorem c2_5_5 : chkR (anyDrew false ls77) dR (.three 12348 (pointQ 4 4) (pointQ 4 4) (pointQ 4 4)) [(8199, 5, 5), (4103, 5, 5), (10, 2, 2)] = true := by kernel_rfl
set_option maxRecDepth 100000 in
theorem c5_5_2 : chkR (anyDrew false ls44) dR (.three 12348 (pointQ 4 4) (pointQ 4 4) (pointQ 4 4)) [(8199, 2, 2), (4103, 5, 5), (10, 5, 5)] = true := by kernel_rfl
set_option maxRecDepth 100000 in
theorem c8_3_1 : chkR (anyDrew false ls125) dR (.three 12348 (pointQ 4 4) (pointQ 4 4) (pointQ 4 4)) [(8195, 1, 1), (4103, 3, 3), (10, 8, 8)] = true := by kernel_rfl
set_option maxRecDepth 100000 in
theorem c2_5_4 : chkR (anyDrew false ls76) dR (.three 12348 (pointQ 4 4) (pointQ 4 4) (pointQ 4 4)) [(8199, 4, 4), (4103, 5, 5), (10, 2, 2)] = true := by kernel_rfl
set_option maxRecDepth 100000 in
theorem c5_4_2 : chkR (anyDrew false ls39) dR (.three 12348 (pointQ 4 4) (pointQ 4 4) (pointQ 4 4)) [(8197, 2, 2), (4103, 4, 4), (10, 5, 5)] = true := by kernel_rfl
set_option maxRecDepth 100000 in
theorem c8_2_1 : chkR (anyDrew false ls123) dR (.three 12348 (pointQ 4 4) (pointQ 4 4) (pointQ 4 4)) [(8194, 1, 1), (4103, 2, 2), (10, 8, 8)] = true := by kernel_rfl
set_option maxRecDepth 100000 in
theorem c2_5_3 : chkR (anyDrew false ls75) dR (.three 12348 (pointQ 4 4) (pointQ 4 4) (pointQ 4 4)) [(8199, 3, 3), (4103, 5, 5), (10, 2, 2)] = true := by kernel_rfl
set_option maxRecDepth 100000 in
theorem c5_3_2 : chkR (anyDrew false ls36) dR (.three 12348 (pointQ 4 4) (pointQ 4 4) (pointQ 4 4)) [(8195, 2, 2), (4103, 3, 3), (10, 5, 5)] = true := by kernel_rfl
set_option maxRecDepth 100000 in
theorem c9_1_0 : chkR (anyDrew false ls151) dR (.three 12348 (pointQ 4 4) (pointQ 4 4) (pointQ 4 4)) [(4103, 1, 1), (10, 9, 9)] = true := by kernel_rfl
set_option maxRecDepth 100000 in
theorem c2_6_1 : chkR (anyDrew false ls80) dR (.three 12348 (pointQ 4 4) (pointQ 4 4) (pointQ 4 4)) [(8203, 1, 1), (4103, 6, 6), (10, 2, 2)] = true := by kernel_rfl
set_option maxRecDepth 100000 in
theorem c5_4_0 : chkR (anyDrew false ls37) dR (.three 12348 (pointQ 4 4) (pointQ 4 4) (pointQ 4 4)) [(8197, 0, 0), (4103, 4, 4), (10, 5, 5)] = true := by kernel_rfl
set_option maxRecDepth 100000 in
theorem c0_6_2 : chkR (anyDrew false ls21) dR (.three 12348 (pointQ 4 4) (pointQ 4 4) (pointQ 4 4)) [(8203, 2, 2), (4103, 6, 6), (10, 0, 0)] = true := by kernel_rfl
set_option maxRecDepth 100000 in
theorem c3_4_1 : chkR (anyDrew false ls98) dR (.three 12348 (pointQ 4 4) (pointQ 4 4) (pointQ 4 4)) [(8197, 1, 1), (4103, 4, 4), (10, 3, 3)] = true := by kernel_rfl
set_option maxRecDepth 100000 in
theorem c8_0_0 : chkR (anyDrew false ls120) dR (.three 12348 (pointQ 4 4) (pointQ 4 4) (pointQ 4 4)) [(4103, 0, 0), (10, 8, 8)] = true := by kernel_rfl
set_option maxRecDepth 100000 in
theorem c2_4_1 : chkR (anyDrew false ls68) dR (.three 12348 (pointQ 4 4) (pointQ 4 4) (pointQ 4 4)) [(8197, 1, 1), (4103, 4, 4), (10, 2, 2)] = true := by kernel_rfl
set_option maxRecDepth 100000 in
theorem c7_0_0 : chkR (anyDrew false ls90) dR (.three 12348 (pointQ 4 4) (pointQ 4 4) (pointQ 4 4)) [(4103, 0, 0), (10, 7, 7)] = true := by kernel_rfl
set_option maxRecDepth 100000 in
theorem c2_4_0 : chkR (anyDrew false ls67) dR (.three 12348 (pointQ 4 4) (pointQ 4 4) (pointQ 4 4)) [(8197, 0, 0), (4103, 4, 4), (10, 2, 2)] = true := by kernel_rfl
set_option maxRecDepth 100000 in
theorem c0_5_0 : chkR (anyDrew false ls12) dR (.three 12348 (pointQ 4 4) (pointQ 4 4) (pointQ 4 4)) [(8199, 0, 0), (4103, 5, 5), (10, 0, 0)] = true := by kernel_rfl
set_option maxRecDepth 100000 in
theorem c0_3_1 : chkR (anyDrew false ls5) dR (.three 12348 (pointQ 4 4) (pointQ 4 4) (pointQ 4 4)) [(8195, 1, 1), (4103, 3, 3), (10, 0, 0)] = true := by kernel_rfl
set_option maxRecDepth 100000 in
theorem c0_3_0 : chkR (anyDrew false ls4) dR (.three 12348 (pointQ 4 4) (pointQ 4 4) (pointQ 4 4)) [(8195, 0, 0), (4103, 3, 3), (10, 0, 0)] = true := by kernel_rfl
set_option maxRecDepth 100000 in
theorem c1_0_0 : chkR (anyDrew false ls30) dR (.three 12348 (pointQ 4 4) (pointQ 4 4) (pointQ 4 4)) [(4103, 0, 0), (10, 1, 1)] = true := by kernel_rfl
end Go.Proofs.Ytadmpiidofncpaa.atshareDrawn
