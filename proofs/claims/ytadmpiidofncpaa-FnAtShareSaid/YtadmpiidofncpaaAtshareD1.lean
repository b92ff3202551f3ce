/- Runs of the program at a seat. -/
import Derived.Test.YtadmpiidofncpaaAtshareH
namespace Go.Proofs.Ytadmpiidofncpaa.atshareDrawn
open Go Go.Eng
set_option linter.unusedVariables false
set_option linter.unusedSectionVars false
set_option linter.unusedSimpArgs false
set_option maxRecDepth 100000 in
theorem c8_6_10 : chkR (anyDrew false ls149) dR (.three 12348 (pointQ 4 4) (pointQ 4 4) (pointQ 4 4)) [(8203, 10, 10), (4103, 6, 6), (10, 8, 8)] = true := by kernel_rfl
set_option maxRecDepth 100000 in
theorem c9_6_7 : chkR (anyDrew false ls176) dR (.three 12348 (pointQ 4 4) (pointQ 4 4) (pointQ 4 4)) [(8203, 7, 7), (4103, 6, 6), (10, 9, 9)] = true := by kernel_rfl
set_option maxRecDepth 100000 in
theorem c6_6_8 : chkR (anyDrew false ls87) dR (.three 12348 (pointQ 4 4) (pointQ 4 4) (pointQ 4 4)) [(8203, 8, 8), (4103, 6, 6), (10, 6, 6)] = true := by kernel_rfl
set_option maxRecDepth 100000 in
theorem c6_6_7 : chkR (anyDrew false ls86) dR (.three 12348 (pointQ 4 4) (pointQ 4 4) (pointQ 4 4)) [(8203, 7, 7), (4103, 6, 6), (10, 6, 6)] = true := by kernel_rfl
set_option maxRecDepth 100000 in
theorem c4_6_8 : chkR (anyDrew false ls27) dR (.three 12348 (pointQ 4 4) (pointQ 4 4) (pointQ 4 4)) [(8203, 8, 8), (4103, 6, 6), (10, 4, 4)] = true := by kernel_rfl
set_option maxRecDepth 100000 in
theorem c9_6_3 : chkR (anyDrew false ls172) dR (.three 12348 (pointQ 4 4) (pointQ 4 4) (pointQ 4 4)) [(8203, 3, 3), (4103, 6, 6), (10, 9, 9)] = true := by kernel_rfl
set_option maxRecDepth 100000 in
theorem c7_5_5 : chkR (anyDrew false ls107) dR (.three 12348 (pointQ 4 4) (pointQ 4 4) (pointQ 4 4)) [(8199, 5, 5), (4103, 5, 5), (10, 7, 7)] = true := by kernel_rfl
set_option maxRecDepth 100000 in
theorem c1_6_9 : chkR (anyDrew false ls58) dR (.three 12348 (pointQ 4 4) (pointQ 4 4) (pointQ 4 4)) [(8203, 9, 9), (4103, 6, 6), (10, 1, 1)] = true := by kernel_rfl
set_option maxRecDepth 100000 in
theorem c7_5_4 : chkR (anyDrew false ls106) dR (.three 12348 (pointQ 4 4) (pointQ 4 4) (pointQ 4 4)) [(8199, 4, 4), (4103, 5, 5), (10, 7, 7)] = true := by kernel_rfl
set_option maxRecDepth 100000 in
theorem c0_6_9 : chkR (anyDrew false ls28) dR (.three 12348 (pointQ 4 4) (pointQ 4 4) (pointQ 4 4)) [(8203, 9, 9), (4103, 6, 6), (10, 0, 0)] = true := by kernel_rfl
set_option maxRecDepth 100000 in
theorem c6_5_4 : chkR (anyDrew false ls76) dR (.three 12348 (pointQ 4 4) (pointQ 4 4) (pointQ 4 4)) [(8199, 4, 4), (4103, 5, 5), (10, 6, 6)] = true := by kernel_rfl
set_option maxRecDepth 100000 in
theorem c9_4_2 : chkR (anyDrew false ls159) dR (.three 12348 (pointQ 4 4) (pointQ 4 4) (pointQ 4 4)) [(8197, 2, 2), (4103, 4, 4), (10, 9, 9)] = true := by kernel_rfl
set_option maxRecDepth 100000 in
theorem c4_5_5 : chkR (anyDrew false ls17) dR (.three 12348 (pointQ 4 4) (pointQ 4 4) (pointQ 4 4)) [(8199, 5, 5), (4103, 5, 5), (10, 4, 4)] = true := by kernel_rfl
set_option maxRecDepth 100000 in
theorem c7_5_2 : chkR (anyDrew false ls104) dR (.three 12348 (pointQ 4 4) (pointQ 4 4) (pointQ 4 4)) [(8199, 2, 2), (4103, 5, 5), (10, 7, 7)] = true := by kernel_rfl
set_option maxRecDepth 100000 in
theorem c0_6_7 : chkR (anyDrew false ls26) dR (.three 12348 (pointQ 4 4) (pointQ 4 4) (pointQ 4 4)) [(8203, 7, 7), (4103, 6, 6), (10, 0, 0)] = true := by kernel_rfl
set_option maxRecDepth 100000 in
theorem c5_4_4 : chkR (anyDrew false ls41) dR (.three 12348 (pointQ 4 4) (pointQ 4 4) (pointQ 4 4)) [(8197, 4, 4), (4103, 4, 4), (10, 5, 5)] = true := by kernel_rfl
set_option maxRecDepth 100000 in
theorem c7_6_0 : chkR (anyDrew false ls109) dR (.three 12348 (pointQ 4 4) (pointQ 4 4) (pointQ 4 4)) [(8203, 0, 0), (4103, 6, 6), (10, 7, 7)] = true := by kernel_rfl
set_option maxRecDepth 100000 in
theorem c1_6_5 : chkR (anyDrew false ls54) dR (.three 12348 (pointQ 4 4) (pointQ 4 4) (pointQ 4 4)) [(8203, 5, 5), (4103, 6, 6), (10, 1, 1)] = true := by kernel_rfl
set_option maxRecDepth 100000 in
theorem c5_4_3 : chkR (anyDrew false ls40) dR (.three 12348 (pointQ 4 4) (pointQ 4 4) (pointQ 4 4)) [(8197, 3, 3), (4103, 4, 4), (10, 5, 5)] = true := by kernel_rfl
set_option maxRecDepth 100000 in
theorem c7_5_0 : chkR (anyDrew false ls102) dR (.three 12348 (pointQ 4 4) (pointQ 4 4) (pointQ 4 4)) [(8199, 0, 0), (4103, 5, 5), (10, 7, 7)] = true := by kernel_rfl
set_option maxRecDepth 100000 in
theorem c1_6_4 : chkR (anyDrew false ls53) dR (.three 12348 (pointQ 4 4) (pointQ 4 4) (pointQ 4 4)) [(8203, 4, 4), (4103, 6, 6), (10, 1, 1)] = true := by kernel_rfl
set_option maxRecDepth 100000 in
theorem c4_6_1 : chkR (anyDrew false ls20) dR (.three 12348 (pointQ 4 4) (pointQ 4 4) (pointQ 4 4)) [(8203, 1, 1), (4103, 6, 6), (10, 4, 4)] = true := by kernel_rfl
set_option maxRecDepth 100000 in
theorem c7_4_0 : chkR (anyDrew false ls97) dR (.three 12348 (pointQ 4 4) (pointQ 4 4) (pointQ 4 4)) [(8197, 0, 0), (4103, 4, 4), (10, 7, 7)] = true := by kernel_rfl
set_option maxRecDepth 100000 in
theorem c2_4_4 : chkR (anyDrew false ls71) dR (.three 12348 (pointQ 4 4) (pointQ 4 4) (pointQ 4 4)) [(8197, 4, 4), (4103, 4, 4), (10, 2, 2)] = true := by kernel_rfl
set_option maxRecDepth 100000 in
theorem c4_6_0 : chkR (anyDrew false ls19) dR (.three 12348 (pointQ 4 4) (pointQ 4 4) (pointQ 4 4)) [(8203, 0, 0), (4103, 6, 6), (10, 4, 4)] = true := by kernel_rfl
set_option maxRecDepth 100000 in
theorem c8_2_0 : chkR (anyDrew false ls122) dR (.three 12348 (pointQ 4 4) (pointQ 4 4) (pointQ 4 4)) [(8194, 0, 0), (4103, 2, 2), (10, 8, 8)] = true := by kernel_rfl
set_option maxRecDepth 100000 in
theorem c2_5_2 : chkR (anyDrew false ls74) dR (.three 12348 (pointQ 4 4) (pointQ 4 4) (pointQ 4 4)) [(8199, 2, 2), (4103, 5, 5), (10, 2, 2)] = true := by kernel_rfl
set_option maxRecDepth 100000 in
theorem c5_3_1 : chkR (anyDrew false ls35) dR (.three 12348 (pointQ 4 4) (pointQ 4 4) (pointQ 4 4)) [(8195, 1, 1), (4103, 3, 3), (10, 5, 5)] = true := by kernel_rfl
set_option maxRecDepth 100000 in
theorem c0_5_3 : chkR (anyDrew false ls15) dR (.three 12348 (pointQ 4 4) (pointQ 4 4) (pointQ 4 4)) [(8199, 3, 3), (4103, 5, 5), (10, 0, 0)] = true := by kernel_rfl
set_option maxRecDepth 100000 in
theorem c3_3_2 : chkR (anyDrew false ls96) dR (.three 12348 (pointQ 4 4) (pointQ 4 4) (pointQ 4 4)) [(8195, 2, 2), (4103, 3, 3), (10, 3, 3)] = true := by kernel_rfl
set_option maxRecDepth 100000 in
theorem c7_1_0 : chkR (anyDrew false ls91) dR (.three 12348 (pointQ 4 4) (pointQ 4 4) (pointQ 4 4)) [(4103, 1, 1), (10, 7, 7)] = true := by kernel_rfl
set_option maxRecDepth 100000 in
theorem c2_3_2 : chkR (anyDrew false ls66) dR (.three 12348 (pointQ 4 4) (pointQ 4 4) (pointQ 4 4)) [(8195, 2, 2), (4103, 3, 3), (10, 2, 2)] = true := by kernel_rfl
set_option maxRecDepth 100000 in
theorem c6_1_0 : chkR (anyDrew false ls61) dR (.three 12348 (pointQ 4 4) (pointQ 4 4) (pointQ 4 4)) [(4103, 1, 1), (10, 6, 6)] = true := by kernel_rfl
set_option maxRecDepth 100000 in
theorem c2_3_1 : chkR (anyDrew false ls65) dR (.three 12348 (pointQ 4 4) (pointQ 4 4) (pointQ 4 4)) [(8195, 1, 1), (4103, 3, 3), (10, 2, 2)] = true := by kernel_rfl
set_option maxRecDepth 100000 in
theorem c0_4_1 : chkR (anyDrew false ls8) dR (.three 12348 (pointQ 4 4) (pointQ 4 4) (pointQ 4 4)) [(8197, 1, 1), (4103, 4, 4), (10, 0, 0)] = true := by kernel_rfl
set_option maxRecDepth 100000 in
theorem c5_0_0 : chkR (anyDrew false ls30) dR (.three 12348 (pointQ 4 4) (pointQ 4 4) (pointQ 4 4)) [(4103, 0, 0), (10, 5, 5)] = true := by kernel_rfl
set_option maxRecDepth 100000 in
theorem c0_2_1 : chkR (anyDrew false ls3) dR (.three 12348 (pointQ 4 4) (pointQ 4 4) (pointQ 4 4)) [(8194, 1, 1), (4103, 2, 2), (10, 0, 0)] = true := by kernel_rfl
set_option maxRecDepth 100000 in
theorem c0_1_0 : chkR (anyDrew false ls1) dR (.three 12348 (pointQ 4 4) (pointQ 4 4) (pointQ 4 4)) [(4103, 1, 1), (10, 0, 0)] = true := by kernel_rfl
end Go.Proofs.Ytadmpiidofncpaa.atshareDrawn
