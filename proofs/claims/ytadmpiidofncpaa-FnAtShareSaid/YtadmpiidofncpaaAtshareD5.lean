/- Runs of the program at a seat. -/
import Derived.Test.YtadmpiidofncpaaAtshareH
namespace Go.Proofs.Ytadmpiidofncpaa.atshareDrawn
open Go Go.Eng
set_option linter.unusedVariables false
set_option linter.unusedSectionVars false
set_option linter.unusedSimpArgs false
set_option maxRecDepth 100000 in
theorem c9_6_8 : chkR (anyDrew false ls177) dR (.three 12348 (pointQ 4 4) (pointQ 4 4) (pointQ 4 4)) [(8203, 8, 8), (4103, 6, 6), (10, 9, 9)] = true := by kernel_rfl
set_option maxRecDepth 100000 in
theorem c8_6_7 : chkR (anyDrew false ls146) dR (.three 12348 (pointQ 4 4) (pointQ 4 4) (pointQ 4 4)) [(8203, 7, 7), (4103, 6, 6), (10, 8, 8)] = true := by kernel_rfl
set_option maxRecDepth 100000 in
theorem c9_6_5 : chkR (anyDrew false ls174) dR (.three 12348 (pointQ 4 4) (pointQ 4 4) (pointQ 4 4)) [(8203, 5, 5), (4103, 6, 6), (10, 9, 9)] = true := by kernel_rfl
set_option maxRecDepth 100000 in
theorem c9_5_5 : chkR (anyDrew false ls167) dR (.three 12348 (pointQ 4 4) (pointQ 4 4) (pointQ 4 4)) [(8199, 5, 5), (4103, 5, 5), (10, 9, 9)] = true := by kernel_rfl
set_option maxRecDepth 100000 in
theorem c7_6_5 : chkR (anyDrew false ls114) dR (.three 12348 (pointQ 4 4) (pointQ 4 4) (pointQ 4 4)) [(8203, 5, 5), (4103, 6, 6), (10, 7, 7)] = true := by kernel_rfl
set_option maxRecDepth 100000 in
theorem c4_6_7 : chkR (anyDrew false ls26) dR (.three 12348 (pointQ 4 4) (pointQ 4 4) (pointQ 4 4)) [(8203, 7, 7), (4103, 6, 6), (10, 4, 4)] = true := by kernel_rfl
set_option maxRecDepth 100000 in
theorem c9_4_4 : chkR (anyDrew false ls161) dR (.three 12348 (pointQ 4 4) (pointQ 4 4) (pointQ 4 4)) [(8197, 4, 4), (4103, 4, 4), (10, 9, 9)] = true := by kernel_rfl
set_option maxRecDepth 100000 in
theorem c5_5_6 : chkR (anyDrew false ls48) dR (.three 12348 (pointQ 4 4) (pointQ 4 4) (pointQ 4 4)) [(8199, 6, 6), (4103, 5, 5), (10, 5, 5)] = true := by kernel_rfl
set_option maxRecDepth 100000 in
theorem c8_6_2 : chkR (anyDrew false ls141) dR (.three 12348 (pointQ 4 4) (pointQ 4 4) (pointQ 4 4)) [(8203, 2, 2), (4103, 6, 6), (10, 8, 8)] = true := by kernel_rfl
set_option maxRecDepth 100000 in
theorem c4_5_6 : chkR (anyDrew false ls18) dR (.three 12348 (pointQ 4 4) (pointQ 4 4) (pointQ 4 4)) [(8199, 6, 6), (4103, 5, 5), (10, 4, 4)] = true := by kernel_rfl
set_option maxRecDepth 100000 in
theorem c7_6_2 : chkR (anyDrew false ls111) dR (.three 12348 (pointQ 4 4) (pointQ 4 4) (pointQ 4 4)) [(8203, 2, 2), (4103, 6, 6), (10, 7, 7)] = true := by kernel_rfl
set_option maxRecDepth 100000 in
theorem c1_6_7 : chkR (anyDrew false ls56) dR (.three 12348 (pointQ 4 4) (pointQ 4 4) (pointQ 4 4)) [(8203, 7, 7), (4103, 6, 6), (10, 1, 1)] = true := by kernel_rfl
set_option maxRecDepth 100000 in
theorem c6_4_4 : chkR (anyDrew false ls71) dR (.three 12348 (pointQ 4 4) (pointQ 4 4) (pointQ 4 4)) [(8197, 4, 4), (4103, 4, 4), (10, 6, 6)] = true := by kernel_rfl
set_option maxRecDepth 100000 in
theorem c8_6_0 : chkR (anyDrew false ls139) dR (.three 12348 (pointQ 4 4) (pointQ 4 4) (pointQ 4 4)) [(8203, 0, 0), (4103, 6, 6), (10, 8, 8)] = true := by kernel_rfl
set_option maxRecDepth 100000 in
theorem c3_5_5 : chkR (anyDrew false ls107) dR (.three 12348 (pointQ 4 4) (pointQ 4 4) (pointQ 4 4)) [(8199, 5, 5), (4103, 5, 5), (10, 3, 3)] = true := by kernel_rfl
set_option maxRecDepth 100000 in
theorem c6_5_2 : chkR (anyDrew false ls74) dR (.three 12348 (pointQ 4 4) (pointQ 4 4) (pointQ 4 4)) [(8199, 2, 2), (4103, 5, 5), (10, 6, 6)] = true := by kernel_rfl
set_option maxRecDepth 100000 in
theorem c9_3_1 : chkR (anyDrew false ls155) dR (.three 12348 (pointQ 4 4) (pointQ 4 4) (pointQ 4 4)) [(8195, 1, 1), (4103, 3, 3), (10, 9, 9)] = true := by kernel_rfl
set_option maxRecDepth 100000 in
theorem c3_6_3 : chkR (anyDrew false ls112) dR (.three 12348 (pointQ 4 4) (pointQ 4 4) (pointQ 4 4)) [(8203, 3, 3), (4103, 6, 6), (10, 3, 3)] = true := by kernel_rfl
set_option maxRecDepth 100000 in
theorem c6_5_1 : chkR (anyDrew false ls73) dR (.three 12348 (pointQ 4 4) (pointQ 4 4) (pointQ 4 4)) [(8199, 1, 1), (4103, 5, 5), (10, 6, 6)] = true := by kernel_rfl
set_option maxRecDepth 100000 in
theorem c9_3_0 : chkR (anyDrew false ls154) dR (.three 12348 (pointQ 4 4) (pointQ 4 4) (pointQ 4 4)) [(8195, 0, 0), (4103, 3, 3), (10, 9, 9)] = true := by kernel_rfl
set_option maxRecDepth 100000 in
theorem c3_5_3 : chkR (anyDrew false ls105) dR (.three 12348 (pointQ 4 4) (pointQ 4 4) (pointQ 4 4)) [(8199, 3, 3), (4103, 5, 5), (10, 3, 3)] = true := by kernel_rfl
set_option maxRecDepth 100000 in
theorem c6_3_2 : chkR (anyDrew false ls66) dR (.three 12348 (pointQ 4 4) (pointQ 4 4) (pointQ 4 4)) [(8195, 2, 2), (4103, 3, 3), (10, 6, 6)] = true := by kernel_rfl
set_option maxRecDepth 100000 in
theorem c0_5_5 : chkR (anyDrew false ls17) dR (.three 12348 (pointQ 4 4) (pointQ 4 4) (pointQ 4 4)) [(8199, 5, 5), (4103, 5, 5), (10, 0, 0)] = true := by kernel_rfl
set_option maxRecDepth 100000 in
theorem c3_5_2 : chkR (anyDrew false ls104) dR (.three 12348 (pointQ 4 4) (pointQ 4 4) (pointQ 4 4)) [(8199, 2, 2), (4103, 5, 5), (10, 3, 3)] = true := by kernel_rfl
set_option maxRecDepth 100000 in
theorem c6_3_1 : chkR (anyDrew false ls65) dR (.three 12348 (pointQ 4 4) (pointQ 4 4) (pointQ 4 4)) [(8195, 1, 1), (4103, 3, 3), (10, 6, 6)] = true := by kernel_rfl
set_option maxRecDepth 100000 in
theorem c1_4_4 : chkR (anyDrew false ls41) dR (.three 12348 (pointQ 4 4) (pointQ 4 4) (pointQ 4 4)) [(8197, 4, 4), (4103, 4, 4), (10, 1, 1)] = true := by kernel_rfl
set_option maxRecDepth 100000 in
theorem c3_6_0 : chkR (anyDrew false ls109) dR (.three 12348 (pointQ 4 4) (pointQ 4 4) (pointQ 4 4)) [(8203, 0, 0), (4103, 6, 6), (10, 3, 3)] = true := by kernel_rfl
set_option maxRecDepth 100000 in
theorem c7_2_0 : chkR (anyDrew false ls92) dR (.three 12348 (pointQ 4 4) (pointQ 4 4) (pointQ 4 4)) [(8194, 0, 0), (4103, 2, 2), (10, 7, 7)] = true := by kernel_rfl
set_option maxRecDepth 100000 in
theorem c1_6_1 : chkR (anyDrew false ls50) dR (.three 12348 (pointQ 4 4) (pointQ 4 4) (pointQ 4 4)) [(8203, 1, 1), (4103, 6, 6), (10, 1, 1)] = true := by kernel_rfl
set_option maxRecDepth 100000 in
theorem c4_4_0 : chkR (anyDrew false ls7) dR (.three 12348 (pointQ 4 4) (pointQ 4 4) (pointQ 4 4)) [(8197, 0, 0), (4103, 4, 4), (10, 4, 4)] = true := by kernel_rfl
set_option maxRecDepth 100000 in
theorem c0_6_1 : chkR (anyDrew false ls20) dR (.three 12348 (pointQ 4 4) (pointQ 4 4) (pointQ 4 4)) [(8203, 1, 1), (4103, 6, 6), (10, 0, 0)] = true := by kernel_rfl
set_option maxRecDepth 100000 in
theorem c3_4_0 : chkR (anyDrew false ls97) dR (.three 12348 (pointQ 4 4) (pointQ 4 4) (pointQ 4 4)) [(8197, 0, 0), (4103, 4, 4), (10, 3, 3)] = true := by kernel_rfl
set_option maxRecDepth 100000 in
theorem c0_6_0 : chkR (anyDrew false ls19) dR (.three 12348 (pointQ 4 4) (pointQ 4 4) (pointQ 4 4)) [(8203, 0, 0), (4103, 6, 6), (10, 0, 0)] = true := by kernel_rfl
set_option maxRecDepth 100000 in
theorem c4_2_0 : chkR (anyDrew false ls2) dR (.three 12348 (pointQ 4 4) (pointQ 4 4) (pointQ 4 4)) [(8194, 0, 0), (4103, 2, 2), (10, 4, 4)] = true := by kernel_rfl
set_option maxRecDepth 100000 in
theorem c2_2_1 : chkR (anyDrew false ls63) dR (.three 12348 (pointQ 4 4) (pointQ 4 4) (pointQ 4 4)) [(8194, 1, 1), (4103, 2, 2), (10, 2, 2)] = true := by kernel_rfl
set_option maxRecDepth 100000 in
theorem c1_3_0 : chkR (anyDrew false ls34) dR (.three 12348 (pointQ 4 4) (pointQ 4 4) (pointQ 4 4)) [(8195, 0, 0), (4103, 3, 3), (10, 1, 1)] = true := by kernel_rfl
set_option maxRecDepth 100000 in
theorem c3_0_0 : chkR (anyDrew false ls90) dR (.three 12348 (pointQ 4 4) (pointQ 4 4) (pointQ 4 4)) [(4103, 0, 0), (10, 3, 3)] = true := by kernel_rfl
end Go.Proofs.Ytadmpiidofncpaa.atshareDrawn
