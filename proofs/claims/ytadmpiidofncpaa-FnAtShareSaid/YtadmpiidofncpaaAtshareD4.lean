/- Runs of the program at a seat. -/
import Derived.Test.YtadmpiidofncpaaAtshareH
namespace Go.Proofs.Ytadmpiidofncpaa.atshareDrawn
open Go Go.Eng
set_option linter.unusedVariables false
set_option linter.unusedSectionVars false
set_option linter.unusedSimpArgs false
set_option maxRecDepth 100000 in
theorem c8_6_9 : chkR (anyDrew false ls148) dR (.three 12348 (pointQ 4 4) (pointQ 4 4) (pointQ 4 4)) [(8203, 9, 9), (4103, 6, 6), (10, 8, 8)] = true := by kernel_rfl
set_option maxRecDepth 100000 in
theorem c7_6_8 : chkR (anyDrew false ls117) dR (.three 12348 (pointQ 4 4) (pointQ 4 4) (pointQ 4 4)) [(8203, 8, 8), (4103, 6, 6), (10, 7, 7)] = true := by kernel_rfl
set_option maxRecDepth 100000 in
theorem c9_5_6 : chkR (anyDrew false ls168) dR (.three 12348 (pointQ 4 4) (pointQ 4 4) (pointQ 4 4)) [(8199, 6, 6), (4103, 5, 5), (10, 9, 9)] = true := by kernel_rfl
set_option maxRecDepth 100000 in
theorem c8_6_5 : chkR (anyDrew false ls144) dR (.three 12348 (pointQ 4 4) (pointQ 4 4) (pointQ 4 4)) [(8203, 5, 5), (4103, 6, 6), (10, 8, 8)] = true := by kernel_rfl
set_option maxRecDepth 100000 in
theorem c7_5_6 : chkR (anyDrew false ls108) dR (.three 12348 (pointQ 4 4) (pointQ 4 4) (pointQ 4 4)) [(8199, 6, 6), (4103, 5, 5), (10, 7, 7)] = true := by kernel_rfl
set_option maxRecDepth 100000 in
theorem c3_6_8 : chkR (anyDrew false ls117) dR (.three 12348 (pointQ 4 4) (pointQ 4 4) (pointQ 4 4)) [(8203, 8, 8), (4103, 6, 6), (10, 3, 3)] = true := by kernel_rfl
set_option maxRecDepth 100000 in
theorem c8_6_3 : chkR (anyDrew false ls142) dR (.three 12348 (pointQ 4 4) (pointQ 4 4) (pointQ 4 4)) [(8203, 3, 3), (4103, 6, 6), (10, 8, 8)] = true := by kernel_rfl
set_option maxRecDepth 100000 in
theorem c4_6_6 : chkR (anyDrew false ls25) dR (.three 12348 (pointQ 4 4) (pointQ 4 4) (pointQ 4 4)) [(8203, 6, 6), (4103, 6, 6), (10, 4, 4)] = true := by kernel_rfl
set_option maxRecDepth 100000 in
theorem c8_5_3 : chkR (anyDrew false ls135) dR (.three 12348 (pointQ 4 4) (pointQ 4 4) (pointQ 4 4)) [(8199, 3, 3), (4103, 5, 5), (10, 8, 8)] = true := by kernel_rfl
set_option maxRecDepth 100000 in
theorem c3_6_6 : chkR (anyDrew false ls115) dR (.three 12348 (pointQ 4 4) (pointQ 4 4) (pointQ 4 4)) [(8203, 6, 6), (4103, 6, 6), (10, 3, 3)] = true := by kernel_rfl
set_option maxRecDepth 100000 in
theorem c7_5_3 : chkR (anyDrew false ls105) dR (.three 12348 (pointQ 4 4) (pointQ 4 4) (pointQ 4 4)) [(8199, 3, 3), (4103, 5, 5), (10, 7, 7)] = true := by kernel_rfl
set_option maxRecDepth 100000 in
theorem c0_6_8 : chkR (anyDrew false ls27) dR (.three 12348 (pointQ 4 4) (pointQ 4 4) (pointQ 4 4)) [(8203, 8, 8), (4103, 6, 6), (10, 0, 0)] = true := by kernel_rfl
set_option maxRecDepth 100000 in
theorem c5_6_3 : chkR (anyDrew false ls52) dR (.three 12348 (pointQ 4 4) (pointQ 4 4) (pointQ 4 4)) [(8203, 3, 3), (4103, 6, 6), (10, 5, 5)] = true := by kernel_rfl
set_option maxRecDepth 100000 in
theorem c8_5_1 : chkR (anyDrew false ls133) dR (.three 12348 (pointQ 4 4) (pointQ 4 4) (pointQ 4 4)) [(8199, 1, 1), (4103, 5, 5), (10, 8, 8)] = true := by kernel_rfl
set_option maxRecDepth 100000 in
theorem c2_6_5 : chkR (anyDrew false ls84) dR (.three 12348 (pointQ 4 4) (pointQ 4 4) (pointQ 4 4)) [(8203, 5, 5), (4103, 6, 6), (10, 2, 2)] = true := by kernel_rfl
set_option maxRecDepth 100000 in
theorem c6_4_3 : chkR (anyDrew false ls70) dR (.three 12348 (pointQ 4 4) (pointQ 4 4) (pointQ 4 4)) [(8197, 3, 3), (4103, 4, 4), (10, 6, 6)] = true := by kernel_rfl
set_option maxRecDepth 100000 in
theorem c8_5_0 : chkR (anyDrew false ls132) dR (.three 12348 (pointQ 4 4) (pointQ 4 4) (pointQ 4 4)) [(8199, 0, 0), (4103, 5, 5), (10, 8, 8)] = true := by kernel_rfl
set_option maxRecDepth 100000 in
theorem c3_5_4 : chkR (anyDrew false ls106) dR (.three 12348 (pointQ 4 4) (pointQ 4 4) (pointQ 4 4)) [(8199, 4, 4), (4103, 5, 5), (10, 3, 3)] = true := by kernel_rfl
set_option maxRecDepth 100000 in
theorem c6_4_2 : chkR (anyDrew false ls69) dR (.three 12348 (pointQ 4 4) (pointQ 4 4) (pointQ 4 4)) [(8197, 2, 2), (4103, 4, 4), (10, 6, 6)] = true := by kernel_rfl
set_option maxRecDepth 100000 in
theorem c9_2_1 : chkR (anyDrew false ls153) dR (.three 12348 (pointQ 4 4) (pointQ 4 4) (pointQ 4 4)) [(8194, 1, 1), (4103, 2, 2), (10, 9, 9)] = true := by kernel_rfl
set_option maxRecDepth 100000 in
theorem c3_4_4 : chkR (anyDrew false ls101) dR (.three 12348 (pointQ 4 4) (pointQ 4 4) (pointQ 4 4)) [(8197, 4, 4), (4103, 4, 4), (10, 3, 3)] = true := by kernel_rfl
set_option maxRecDepth 100000 in
theorem c5_6_0 : chkR (anyDrew false ls49) dR (.three 12348 (pointQ 4 4) (pointQ 4 4) (pointQ 4 4)) [(8203, 0, 0), (4103, 6, 6), (10, 5, 5)] = true := by kernel_rfl
set_option maxRecDepth 100000 in
theorem c9_2_0 : chkR (anyDrew false ls152) dR (.three 12348 (pointQ 4 4) (pointQ 4 4) (pointQ 4 4)) [(8194, 0, 0), (4103, 2, 2), (10, 9, 9)] = true := by kernel_rfl
set_option maxRecDepth 100000 in
theorem c3_4_3 : chkR (anyDrew false ls100) dR (.three 12348 (pointQ 4 4) (pointQ 4 4) (pointQ 4 4)) [(8197, 3, 3), (4103, 4, 4), (10, 3, 3)] = true := by kernel_rfl
set_option maxRecDepth 100000 in
theorem c5_5_0 : chkR (anyDrew false ls42) dR (.three 12348 (pointQ 4 4) (pointQ 4 4) (pointQ 4 4)) [(8199, 0, 0), (4103, 5, 5), (10, 5, 5)] = true := by kernel_rfl
set_option maxRecDepth 100000 in
theorem c0_6_3 : chkR (anyDrew false ls22) dR (.three 12348 (pointQ 4 4) (pointQ 4 4) (pointQ 4 4)) [(8203, 3, 3), (4103, 6, 6), (10, 0, 0)] = true := by kernel_rfl
set_option maxRecDepth 100000 in
theorem c3_5_1 : chkR (anyDrew false ls103) dR (.three 12348 (pointQ 4 4) (pointQ 4 4) (pointQ 4 4)) [(8199, 1, 1), (4103, 5, 5), (10, 3, 3)] = true := by kernel_rfl
set_option maxRecDepth 100000 in
theorem c6_3_0 : chkR (anyDrew false ls64) dR (.three 12348 (pointQ 4 4) (pointQ 4 4) (pointQ 4 4)) [(8195, 0, 0), (4103, 3, 3), (10, 6, 6)] = true := by kernel_rfl
set_option maxRecDepth 100000 in
theorem c1_5_2 : chkR (anyDrew false ls44) dR (.three 12348 (pointQ 4 4) (pointQ 4 4) (pointQ 4 4)) [(8199, 2, 2), (4103, 5, 5), (10, 1, 1)] = true := by kernel_rfl
set_option maxRecDepth 100000 in
theorem c4_3_1 : chkR (anyDrew false ls5) dR (.three 12348 (pointQ 4 4) (pointQ 4 4) (pointQ 4 4)) [(8195, 1, 1), (4103, 3, 3), (10, 4, 4)] = true := by kernel_rfl
set_option maxRecDepth 100000 in
theorem c0_5_2 : chkR (anyDrew false ls14) dR (.three 12348 (pointQ 4 4) (pointQ 4 4) (pointQ 4 4)) [(8199, 2, 2), (4103, 5, 5), (10, 0, 0)] = true := by kernel_rfl
set_option maxRecDepth 100000 in
theorem c3_3_1 : chkR (anyDrew false ls95) dR (.three 12348 (pointQ 4 4) (pointQ 4 4) (pointQ 4 4)) [(8195, 1, 1), (4103, 3, 3), (10, 3, 3)] = true := by kernel_rfl
set_option maxRecDepth 100000 in
theorem c0_5_1 : chkR (anyDrew false ls13) dR (.three 12348 (pointQ 4 4) (pointQ 4 4) (pointQ 4 4)) [(8199, 1, 1), (4103, 5, 5), (10, 0, 0)] = true := by kernel_rfl
set_option maxRecDepth 100000 in
theorem c3_3_0 : chkR (anyDrew false ls94) dR (.three 12348 (pointQ 4 4) (pointQ 4 4) (pointQ 4 4)) [(8195, 0, 0), (4103, 3, 3), (10, 3, 3)] = true := by kernel_rfl
set_option maxRecDepth 100000 in
theorem c1_4_0 : chkR (anyDrew false ls37) dR (.three 12348 (pointQ 4 4) (pointQ 4 4) (pointQ 4 4)) [(8197, 0, 0), (4103, 4, 4), (10, 1, 1)] = true := by kernel_rfl
set_option maxRecDepth 100000 in
theorem c1_2_1 : chkR (anyDrew false ls33) dR (.three 12348 (pointQ 4 4) (pointQ 4 4) (pointQ 4 4)) [(8194, 1, 1), (4103, 2, 2), (10, 1, 1)] = true := by kernel_rfl
set_option maxRecDepth 100000 in
theorem c2_1_0 : chkR (anyDrew false ls61) dR (.three 12348 (pointQ 4 4) (pointQ 4 4) (pointQ 4 4)) [(4103, 1, 1), (10, 2, 2)] = true := by kernel_rfl
end Go.Proofs.Ytadmpiidofncpaa.atshareDrawn
