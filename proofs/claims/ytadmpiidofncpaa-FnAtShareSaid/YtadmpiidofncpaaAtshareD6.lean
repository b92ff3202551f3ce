/- Runs of the program at a seat. -/
import Derived.Test.YtadmpiidofncpaaAtshareH
namespace Go.Proofs.Ytadmpiidofncpaa.atshareDrawn
open Go Go.Eng
set_option linter.unusedVariables false
set_option linter.unusedSectionVars false
set_option linter.unusedSimpArgs false
set_option maxRecDepth 100000 in
theorem c6_6_10 : chkR (anyDrew false ls89) dR (.three 12348 (pointQ 4 4) (pointQ 4 4) (pointQ 4 4)) [(8203, 10, 10), (4103, 6, 6), (10, 6, 6)] = true := by kernel_rfl
set_option maxRecDepth 100000 in
theorem c9_6_6 : chkR (anyDrew false ls175) dR (.three 12348 (pointQ 4 4) (pointQ 4 4) (pointQ 4 4)) [(8203, 6, 6), (4103, 6, 6), (10, 9, 9)] = true := by kernel_rfl
set_option maxRecDepth 100000 in
theorem c3_6_10 : chkR (anyDrew false ls119) dR (.three 12348 (pointQ 4 4) (pointQ 4 4) (pointQ 4 4)) [(8203, 10, 10), (4103, 6, 6), (10, 3, 3)] = true := by kernel_rfl
set_option maxRecDepth 100000 in
theorem c9_6_4 : chkR (anyDrew false ls173) dR (.three 12348 (pointQ 4 4) (pointQ 4 4) (pointQ 4 4)) [(8203, 4, 4), (4103, 6, 6), (10, 9, 9)] = true := by kernel_rfl
set_option maxRecDepth 100000 in
theorem c8_5_5 : chkR (anyDrew false ls137) dR (.three 12348 (pointQ 4 4) (pointQ 4 4) (pointQ 4 4)) [(8199, 5, 5), (4103, 5, 5), (10, 8, 8)] = true := by kernel_rfl
set_option maxRecDepth 100000 in
theorem c5_6_6 : chkR (anyDrew false ls55) dR (.three 12348 (pointQ 4 4) (pointQ 4 4) (pointQ 4 4)) [(8203, 6, 6), (4103, 6, 6), (10, 5, 5)] = true := by kernel_rfl
set_option maxRecDepth 100000 in
theorem c9_5_3 : chkR (anyDrew false ls165) dR (.three 12348 (pointQ 4 4) (pointQ 4 4) (pointQ 4 4)) [(8199, 3, 3), (4103, 5, 5), (10, 9, 9)] = true := by kernel_rfl
set_option maxRecDepth 100000 in
theorem c5_6_5 : chkR (anyDrew false ls54) dR (.three 12348 (pointQ 4 4) (pointQ 4 4) (pointQ 4 4)) [(8203, 5, 5), (4103, 6, 6), (10, 5, 5)] = true := by kernel_rfl
set_option maxRecDepth 100000 in
theorem c9_4_3 : chkR (anyDrew false ls160) dR (.three 12348 (pointQ 4 4) (pointQ 4 4) (pointQ 4 4)) [(8197, 3, 3), (4103, 4, 4), (10, 9, 9)] = true := by kernel_rfl
set_option maxRecDepth 100000 in
theorem c4_6_5 : chkR (anyDrew false ls24) dR (.three 12348 (pointQ 4 4) (pointQ 4 4) (pointQ 4 4)) [(8203, 5, 5), (4103, 6, 6), (10, 4, 4)] = true := by kernel_rfl
set_option maxRecDepth 100000 in
theorem c8_4_3 : chkR (anyDrew false ls130) dR (.three 12348 (pointQ 4 4) (pointQ 4 4) (pointQ 4 4)) [(8197, 3, 3), (4103, 4, 4), (10, 8, 8)] = true := by kernel_rfl
set_option maxRecDepth 100000 in
theorem c2_6_6 : chkR (anyDrew false ls85) dR (.three 12348 (pointQ 4 4) (pointQ 4 4) (pointQ 4 4)) [(8203, 6, 6), (4103, 6, 6), (10, 2, 2)] = true := by kernel_rfl
set_option maxRecDepth 100000 in
theorem c6_5_3 : chkR (anyDrew false ls75) dR (.three 12348 (pointQ 4 4) (pointQ 4 4) (pointQ 4 4)) [(8199, 3, 3), (4103, 5, 5), (10, 6, 6)] = true := by kernel_rfl
set_option maxRecDepth 100000 in
theorem c9_3_2 : chkR (anyDrew false ls156) dR (.three 12348 (pointQ 4 4) (pointQ 4 4) (pointQ 4 4)) [(8195, 2, 2), (4103, 3, 3), (10, 9, 9)] = true := by kernel_rfl
set_option maxRecDepth 100000 in
theorem c3_6_4 : chkR (anyDrew false ls113) dR (.three 12348 (pointQ 4 4) (pointQ 4 4) (pointQ 4 4)) [(8203, 4, 4), (4103, 6, 6), (10, 3, 3)] = true := by kernel_rfl
set_option maxRecDepth 100000 in
theorem c6_6_1 : chkR (anyDrew false ls80) dR (.three 12348 (pointQ 4 4) (pointQ 4 4) (pointQ 4 4)) [(8203, 1, 1), (4103, 6, 6), (10, 6, 6)] = true := by kernel_rfl
set_option maxRecDepth 100000 in
theorem c9_4_0 : chkR (anyDrew false ls157) dR (.three 12348 (pointQ 4 4) (pointQ 4 4) (pointQ 4 4)) [(8197, 0, 0), (4103, 4, 4), (10, 9, 9)] = true := by kernel_rfl
set_option maxRecDepth 100000 in
theorem c4_4_4 : chkR (anyDrew false ls11) dR (.three 12348 (pointQ 4 4) (pointQ 4 4) (pointQ 4 4)) [(8197, 4, 4), (4103, 4, 4), (10, 4, 4)] = true := by kernel_rfl
set_option maxRecDepth 100000 in
theorem c6_6_0 : chkR (anyDrew false ls79) dR (.three 12348 (pointQ 4 4) (pointQ 4 4) (pointQ 4 4)) [(8203, 0, 0), (4103, 6, 6), (10, 6, 6)] = true := by kernel_rfl
set_option maxRecDepth 100000 in
theorem c0_5_6 : chkR (anyDrew false ls18) dR (.three 12348 (pointQ 4 4) (pointQ 4 4) (pointQ 4 4)) [(8199, 6, 6), (4103, 5, 5), (10, 0, 0)] = true := by kernel_rfl
set_option maxRecDepth 100000 in
theorem c3_6_2 : chkR (anyDrew false ls111) dR (.three 12348 (pointQ 4 4) (pointQ 4 4) (pointQ 4 4)) [(8203, 2, 2), (4103, 6, 6), (10, 3, 3)] = true := by kernel_rfl
set_option maxRecDepth 100000 in
theorem c6_4_1 : chkR (anyDrew false ls68) dR (.three 12348 (pointQ 4 4) (pointQ 4 4) (pointQ 4 4)) [(8197, 1, 1), (4103, 4, 4), (10, 6, 6)] = true := by kernel_rfl
set_option maxRecDepth 100000 in
theorem c0_6_4 : chkR (anyDrew false ls23) dR (.three 12348 (pointQ 4 4) (pointQ 4 4) (pointQ 4 4)) [(8203, 4, 4), (4103, 6, 6), (10, 0, 0)] = true := by kernel_rfl
set_option maxRecDepth 100000 in
theorem c3_6_1 : chkR (anyDrew false ls110) dR (.three 12348 (pointQ 4 4) (pointQ 4 4) (pointQ 4 4)) [(8203, 1, 1), (4103, 6, 6), (10, 3, 3)] = true := by kernel_rfl
set_option maxRecDepth 100000 in
theorem c6_4_0 : chkR (anyDrew false ls67) dR (.three 12348 (pointQ 4 4) (pointQ 4 4) (pointQ 4 4)) [(8197, 0, 0), (4103, 4, 4), (10, 6, 6)] = true := by kernel_rfl
set_option maxRecDepth 100000 in
theorem c1_5_3 : chkR (anyDrew false ls45) dR (.three 12348 (pointQ 4 4) (pointQ 4 4) (pointQ 4 4)) [(8199, 3, 3), (4103, 5, 5), (10, 1, 1)] = true := by kernel_rfl
set_option maxRecDepth 100000 in
theorem c4_3_2 : chkR (anyDrew false ls6) dR (.three 12348 (pointQ 4 4) (pointQ 4 4) (pointQ 4 4)) [(8195, 2, 2), (4103, 3, 3), (10, 4, 4)] = true := by kernel_rfl
set_option maxRecDepth 100000 in
theorem c8_1_0 : chkR (anyDrew false ls121) dR (.three 12348 (pointQ 4 4) (pointQ 4 4) (pointQ 4 4)) [(4103, 1, 1), (10, 8, 8)] = true := by kernel_rfl
set_option maxRecDepth 100000 in
theorem c2_4_2 : chkR (anyDrew false ls69) dR (.three 12348 (pointQ 4 4) (pointQ 4 4) (pointQ 4 4)) [(8197, 2, 2), (4103, 4, 4), (10, 2, 2)] = true := by kernel_rfl
set_option maxRecDepth 100000 in
theorem c5_2_1 : chkR (anyDrew false ls33) dR (.three 12348 (pointQ 4 4) (pointQ 4 4) (pointQ 4 4)) [(8194, 1, 1), (4103, 2, 2), (10, 5, 5)] = true := by kernel_rfl
set_option maxRecDepth 100000 in
theorem c1_4_2 : chkR (anyDrew false ls39) dR (.three 12348 (pointQ 4 4) (pointQ 4 4) (pointQ 4 4)) [(8197, 2, 2), (4103, 4, 4), (10, 1, 1)] = true := by kernel_rfl
set_option maxRecDepth 100000 in
theorem c4_2_1 : chkR (anyDrew false ls3) dR (.three 12348 (pointQ 4 4) (pointQ 4 4) (pointQ 4 4)) [(8194, 1, 1), (4103, 2, 2), (10, 4, 4)] = true := by kernel_rfl
set_option maxRecDepth 100000 in
theorem c1_3_2 : chkR (anyDrew false ls36) dR (.three 12348 (pointQ 4 4) (pointQ 4 4) (pointQ 4 4)) [(8195, 2, 2), (4103, 3, 3), (10, 1, 1)] = true := by kernel_rfl
set_option maxRecDepth 100000 in
theorem c5_1_0 : chkR (anyDrew false ls31) dR (.three 12348 (pointQ 4 4) (pointQ 4 4) (pointQ 4 4)) [(4103, 1, 1), (10, 5, 5)] = true := by kernel_rfl
set_option maxRecDepth 100000 in
theorem c2_3_0 : chkR (anyDrew false ls64) dR (.three 12348 (pointQ 4 4) (pointQ 4 4) (pointQ 4 4)) [(8195, 0, 0), (4103, 3, 3), (10, 2, 2)] = true := by kernel_rfl
set_option maxRecDepth 100000 in
theorem c2_2_0 : chkR (anyDrew false ls62) dR (.three 12348 (pointQ 4 4) (pointQ 4 4) (pointQ 4 4)) [(8194, 0, 0), (4103, 2, 2), (10, 2, 2)] = true := by kernel_rfl
set_option maxRecDepth 100000 in
theorem c0_2_0 : chkR (anyDrew false ls2) dR (.three 12348 (pointQ 4 4) (pointQ 4 4) (pointQ 4 4)) [(8194, 0, 0), (4103, 2, 2), (10, 0, 0)] = true := by kernel_rfl
end Go.Proofs.Ytadmpiidofncpaa.atshareDrawn
