/- Runs of the program at a seat. -/
import Derived.Test.YtadmpiidofncpaaAtshareH
namespace Go.Proofs.Ytadmpiidofncpaa.atshareDrawn
open Go Go.Eng
set_option linter.unusedVariables false
set_option linter.unusedSectionVars false
set_option linter.unusedSimpArgs false
set_option maxRecDepth 100000 in
theorem c9_6_10 : chkR (anyDrew false ls179) dR (.three 12348 (pointQ 4 4) (pointQ 4 4) (pointQ 4 4)) [(8203, 10, 10), (4103, 6, 6), (10, 9, 9)] = true := by kernel_rfl
set_option maxRecDepth 100000 in
theorem c8_6_8 : chkR (anyDrew false ls147) dR (.three 12348 (pointQ 4 4) (pointQ 4 4) (pointQ 4 4)) [(8203, 8, 8), (4103, 6, 6), (10, 8, 8)] = true := by kernel_rfl
set_option maxRecDepth 100000 in
theorem c5_6_9 : chkR (anyDrew false ls58) dR (.three 12348 (pointQ 4 4) (pointQ 4 4) (pointQ 4 4)) [(8203, 9, 9), (4103, 6, 6), (10, 5, 5)] = true := by kernel_rfl
set_option maxRecDepth 100000 in
theorem c5_6_8 : chkR (anyDrew false ls57) dR (.three 12348 (pointQ 4 4) (pointQ 4 4) (pointQ 4 4)) [(8203, 8, 8), (4103, 6, 6), (10, 5, 5)] = true := by kernel_rfl
set_option maxRecDepth 100000 in
theorem c3_6_9 : chkR (anyDrew false ls118) dR (.three 12348 (pointQ 4 4) (pointQ 4 4) (pointQ 4 4)) [(8203, 9, 9), (4103, 6, 6), (10, 3, 3)] = true := by kernel_rfl
set_option maxRecDepth 100000 in
theorem c9_5_4 : chkR (anyDrew false ls166) dR (.three 12348 (pointQ 4 4) (pointQ 4 4) (pointQ 4 4)) [(8199, 4, 4), (4103, 5, 5), (10, 9, 9)] = true := by kernel_rfl
set_option maxRecDepth 100000 in
theorem c6_6_5 : chkR (anyDrew false ls84) dR (.three 12348 (pointQ 4 4) (pointQ 4 4) (pointQ 4 4)) [(8203, 5, 5), (4103, 6, 6), (10, 6, 6)] = true := by kernel_rfl
set_option maxRecDepth 100000 in
theorem c0_6_10 : chkR (anyDrew false ls29) dR (.three 12348 (pointQ 4 4) (pointQ 4 4) (pointQ 4 4)) [(8203, 10, 10), (4103, 6, 6), (10, 0, 0)] = true := by kernel_rfl
set_option maxRecDepth 100000 in
theorem c6_6_4 : chkR (anyDrew false ls83) dR (.three 12348 (pointQ 4 4) (pointQ 4 4) (pointQ 4 4)) [(8203, 4, 4), (4103, 6, 6), (10, 6, 6)] = true := by kernel_rfl
set_option maxRecDepth 100000 in
theorem c9_6_1 : chkR (anyDrew false ls170) dR (.three 12348 (pointQ 4 4) (pointQ 4 4) (pointQ 4 4)) [(8203, 1, 1), (4103, 6, 6), (10, 9, 9)] = true := by kernel_rfl
set_option maxRecDepth 100000 in
theorem c5_6_4 : chkR (anyDrew false ls53) dR (.three 12348 (pointQ 4 4) (pointQ 4 4) (pointQ 4 4)) [(8203, 4, 4), (4103, 6, 6), (10, 5, 5)] = true := by kernel_rfl
set_option maxRecDepth 100000 in
theorem c8_6_1 : chkR (anyDrew false ls140) dR (.three 12348 (pointQ 4 4) (pointQ 4 4) (pointQ 4 4)) [(8203, 1, 1), (4103, 6, 6), (10, 8, 8)] = true := by kernel_rfl
set_option maxRecDepth 100000 in
theorem c3_6_5 : chkR (anyDrew false ls114) dR (.three 12348 (pointQ 4 4) (pointQ 4 4) (pointQ 4 4)) [(8203, 5, 5), (4103, 6, 6), (10, 3, 3)] = true := by kernel_rfl
set_option maxRecDepth 100000 in
theorem c7_4_3 : chkR (anyDrew false ls100) dR (.three 12348 (pointQ 4 4) (pointQ 4 4) (pointQ 4 4)) [(8197, 3, 3), (4103, 4, 4), (10, 7, 7)] = true := by kernel_rfl
set_option maxRecDepth 100000 in
theorem c9_5_0 : chkR (anyDrew false ls162) dR (.three 12348 (pointQ 4 4) (pointQ 4 4) (pointQ 4 4)) [(8199, 0, 0), (4103, 5, 5), (10, 9, 9)] = true := by kernel_rfl
set_option maxRecDepth 100000 in
theorem c4_6_3 : chkR (anyDrew false ls22) dR (.three 12348 (pointQ 4 4) (pointQ 4 4) (pointQ 4 4)) [(8203, 3, 3), (4103, 6, 6), (10, 4, 4)] = true := by kernel_rfl
set_option maxRecDepth 100000 in
theorem c7_5_1 : chkR (anyDrew false ls103) dR (.three 12348 (pointQ 4 4) (pointQ 4 4) (pointQ 4 4)) [(8199, 1, 1), (4103, 5, 5), (10, 7, 7)] = true := by kernel_rfl
set_option maxRecDepth 100000 in
theorem c1_5_6 : chkR (anyDrew false ls48) dR (.three 12348 (pointQ 4 4) (pointQ 4 4) (pointQ 4 4)) [(8199, 6, 6), (4103, 5, 5), (10, 1, 1)] = true := by kernel_rfl
set_option maxRecDepth 100000 in
theorem c4_6_2 : chkR (anyDrew false ls21) dR (.three 12348 (pointQ 4 4) (pointQ 4 4) (pointQ 4 4)) [(8203, 2, 2), (4103, 6, 6), (10, 4, 4)] = true := by kernel_rfl
set_option maxRecDepth 100000 in
theorem c7_4_1 : chkR (anyDrew false ls98) dR (.three 12348 (pointQ 4 4) (pointQ 4 4) (pointQ 4 4)) [(8197, 1, 1), (4103, 4, 4), (10, 7, 7)] = true := by kernel_rfl
set_option maxRecDepth 100000 in
theorem c1_5_5 : chkR (anyDrew false ls47) dR (.three 12348 (pointQ 4 4) (pointQ 4 4) (pointQ 4 4)) [(8199, 5, 5), (4103, 5, 5), (10, 1, 1)] = true := by kernel_rfl
set_option maxRecDepth 100000 in
theorem c4_5_2 : chkR (anyDrew false ls14) dR (.three 12348 (pointQ 4 4) (pointQ 4 4) (pointQ 4 4)) [(8199, 2, 2), (4103, 5, 5), (10, 4, 4)] = true := by kernel_rfl
set_option maxRecDepth 100000 in
theorem c7_3_1 : chkR (anyDrew false ls95) dR (.three 12348 (pointQ 4 4) (pointQ 4 4) (pointQ 4 4)) [(8195, 1, 1), (4103, 3, 3), (10, 7, 7)] = true := by kernel_rfl
set_option maxRecDepth 100000 in
theorem c1_6_3 : chkR (anyDrew false ls52) dR (.three 12348 (pointQ 4 4) (pointQ 4 4) (pointQ 4 4)) [(8203, 3, 3), (4103, 6, 6), (10, 1, 1)] = true := by kernel_rfl
set_option maxRecDepth 100000 in
theorem c4_5_1 : chkR (anyDrew false ls13) dR (.three 12348 (pointQ 4 4) (pointQ 4 4) (pointQ 4 4)) [(8199, 1, 1), (4103, 5, 5), (10, 4, 4)] = true := by kernel_rfl
set_option maxRecDepth 100000 in
theorem c7_3_0 : chkR (anyDrew false ls94) dR (.three 12348 (pointQ 4 4) (pointQ 4 4) (pointQ 4 4)) [(8195, 0, 0), (4103, 3, 3), (10, 7, 7)] = true := by kernel_rfl
set_option maxRecDepth 100000 in
theorem c2_4_3 : chkR (anyDrew false ls70) dR (.three 12348 (pointQ 4 4) (pointQ 4 4) (pointQ 4 4)) [(8197, 3, 3), (4103, 4, 4), (10, 2, 2)] = true := by kernel_rfl
set_option maxRecDepth 100000 in
theorem c4_5_0 : chkR (anyDrew false ls12) dR (.three 12348 (pointQ 4 4) (pointQ 4 4) (pointQ 4 4)) [(8199, 0, 0), (4103, 5, 5), (10, 4, 4)] = true := by kernel_rfl
set_option maxRecDepth 100000 in
theorem c0_4_4 : chkR (anyDrew false ls11) dR (.three 12348 (pointQ 4 4) (pointQ 4 4) (pointQ 4 4)) [(8197, 4, 4), (4103, 4, 4), (10, 0, 0)] = true := by kernel_rfl
set_option maxRecDepth 100000 in
theorem c2_6_0 : chkR (anyDrew false ls79) dR (.three 12348 (pointQ 4 4) (pointQ 4 4) (pointQ 4 4)) [(8203, 0, 0), (4103, 6, 6), (10, 2, 2)] = true := by kernel_rfl
set_option maxRecDepth 100000 in
theorem c6_2_0 : chkR (anyDrew false ls62) dR (.three 12348 (pointQ 4 4) (pointQ 4 4) (pointQ 4 4)) [(8194, 0, 0), (4103, 2, 2), (10, 6, 6)] = true := by kernel_rfl
set_option maxRecDepth 100000 in
theorem c1_6_0 : chkR (anyDrew false ls49) dR (.three 12348 (pointQ 4 4) (pointQ 4 4) (pointQ 4 4)) [(8203, 0, 0), (4103, 6, 6), (10, 1, 1)] = true := by kernel_rfl
set_option maxRecDepth 100000 in
theorem c5_2_0 : chkR (anyDrew false ls32) dR (.three 12348 (pointQ 4 4) (pointQ 4 4) (pointQ 4 4)) [(8194, 0, 0), (4103, 2, 2), (10, 5, 5)] = true := by kernel_rfl
set_option maxRecDepth 100000 in
theorem c1_5_0 : chkR (anyDrew false ls42) dR (.three 12348 (pointQ 4 4) (pointQ 4 4) (pointQ 4 4)) [(8199, 0, 0), (4103, 5, 5), (10, 1, 1)] = true := by kernel_rfl
set_option maxRecDepth 100000 in
theorem c0_3_2 : chkR (anyDrew false ls6) dR (.three 12348 (pointQ 4 4) (pointQ 4 4) (pointQ 4 4)) [(8195, 2, 2), (4103, 3, 3), (10, 0, 0)] = true := by kernel_rfl
set_option maxRecDepth 100000 in
theorem c4_1_0 : chkR (anyDrew false ls1) dR (.three 12348 (pointQ 4 4) (pointQ 4 4) (pointQ 4 4)) [(4103, 1, 1), (10, 4, 4)] = true := by kernel_rfl
set_option maxRecDepth 100000 in
theorem c4_0_0 : chkR (anyDrew false ls0) dR (.three 12348 (pointQ 4 4) (pointQ 4 4) (pointQ 4 4)) [(4103, 0, 0), (10, 4, 4)] = true := by kernel_rfl
set_option maxRecDepth 100000 in
theorem c2_0_0 : chkR (anyDrew false ls60) dR (.three 12348 (pointQ 4 4) (pointQ 4 4) (pointQ 4 4)) [(4103, 0, 0), (10, 2, 2)] = true := by kernel_rfl
end Go.Proofs.Ytadmpiidofncpaa.atshareDrawn
