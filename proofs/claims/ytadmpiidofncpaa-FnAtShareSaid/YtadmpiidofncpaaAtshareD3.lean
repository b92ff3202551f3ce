/- Runs of the program at a seat. -/
import Derived.Test.YtadmpiidofncpaaAtshareH
namespace Go.Proofs.Ytadmpiidofncpaa.atshareDrawn
open Go Go.Eng
set_option linter.unusedVariables false
set_option linter.unusedSectionVars false
set_option linter.unusedSimpArgs false
set_option maxRecDepth 100000 in
theorem c7_6_10 : chkR (anyDrew false ls119) dR (.three 12348 (pointQ 4 4) (pointQ 4 4) (pointQ 4 4)) [(8203, 10, 10), (4103, 6, 6), (10, 7, 7)] = true := by kernel_rfl
set_option maxRecDepth 100000 in
theorem c6_6_9 : chkR (anyDrew false ls88) dR (.three 12348 (pointQ 4 4) (pointQ 4 4) (pointQ 4 4)) [(8203, 9, 9), (4103, 6, 6), (10, 6, 6)] = true := by kernel_rfl
set_option maxRecDepth 100000 in
theorem c8_6_6 : chkR (anyDrew false ls145) dR (.three 12348 (pointQ 4 4) (pointQ 4 4) (pointQ 4 4)) [(8203, 6, 6), (4103, 6, 6), (10, 8, 8)] = true := by kernel_rfl
set_option maxRecDepth 100000 in
theorem c8_5_6 : chkR (anyDrew false ls138) dR (.three 12348 (pointQ 4 4) (pointQ 4 4) (pointQ 4 4)) [(8199, 6, 6), (4103, 5, 5), (10, 8, 8)] = true := by kernel_rfl
set_option maxRecDepth 100000 in
theorem c6_6_6 : chkR (anyDrew false ls85) dR (.three 12348 (pointQ 4 4) (pointQ 4 4) (pointQ 4 4)) [(8203, 6, 6), (4103, 6, 6), (10, 6, 6)] = true := by kernel_rfl
set_option maxRecDepth 100000 in
theorem c2_6_9 : chkR (anyDrew false ls88) dR (.three 12348 (pointQ 4 4) (pointQ 4 4) (pointQ 4 4)) [(8203, 9, 9), (4103, 6, 6), (10, 2, 2)] = true := by kernel_rfl
set_option maxRecDepth 100000 in
theorem c8_5_4 : chkR (anyDrew false ls136) dR (.three 12348 (pointQ 4 4) (pointQ 4 4) (pointQ 4 4)) [(8199, 4, 4), (4103, 5, 5), (10, 8, 8)] = true := by kernel_rfl
set_option maxRecDepth 100000 in
theorem c3_6_7 : chkR (anyDrew false ls116) dR (.three 12348 (pointQ 4 4) (pointQ 4 4) (pointQ 4 4)) [(8203, 7, 7), (4103, 6, 6), (10, 3, 3)] = true := by kernel_rfl
set_option maxRecDepth 100000 in
theorem c8_4_4 : chkR (anyDrew false ls131) dR (.three 12348 (pointQ 4 4) (pointQ 4 4) (pointQ 4 4)) [(8197, 4, 4), (4103, 4, 4), (10, 8, 8)] = true := by kernel_rfl
set_option maxRecDepth 100000 in
theorem c2_6_7 : chkR (anyDrew false ls86) dR (.three 12348 (pointQ 4 4) (pointQ 4 4) (pointQ 4 4)) [(8203, 7, 7), (4103, 6, 6), (10, 2, 2)] = true := by kernel_rfl
set_option maxRecDepth 100000 in
theorem c7_4_4 : chkR (anyDrew false ls101) dR (.three 12348 (pointQ 4 4) (pointQ 4 4) (pointQ 4 4)) [(8197, 4, 4), (4103, 4, 4), (10, 7, 7)] = true := by kernel_rfl
set_option maxRecDepth 100000 in
theorem c9_6_0 : chkR (anyDrew false ls169) dR (.three 12348 (pointQ 4 4) (pointQ 4 4) (pointQ 4 4)) [(8203, 0, 0), (4103, 6, 6), (10, 9, 9)] = true := by kernel_rfl
set_option maxRecDepth 100000 in
theorem c5_5_4 : chkR (anyDrew false ls46) dR (.three 12348 (pointQ 4 4) (pointQ 4 4) (pointQ 4 4)) [(8199, 4, 4), (4103, 5, 5), (10, 5, 5)] = true := by kernel_rfl
set_option maxRecDepth 100000 in
theorem c8_4_2 : chkR (anyDrew false ls129) dR (.three 12348 (pointQ 4 4) (pointQ 4 4) (pointQ 4 4)) [(8197, 2, 2), (4103, 4, 4), (10, 8, 8)] = true := by kernel_rfl
set_option maxRecDepth 100000 in
theorem c2_5_6 : chkR (anyDrew false ls78) dR (.three 12348 (pointQ 4 4) (pointQ 4 4) (pointQ 4 4)) [(8199, 6, 6), (4103, 5, 5), (10, 2, 2)] = true := by kernel_rfl
set_option maxRecDepth 100000 in
theorem c5_6_2 : chkR (anyDrew false ls51) dR (.three 12348 (pointQ 4 4) (pointQ 4 4) (pointQ 4 4)) [(8203, 2, 2), (4103, 6, 6), (10, 5, 5)] = true := by kernel_rfl
set_option maxRecDepth 100000 in
theorem c8_4_1 : chkR (anyDrew false ls128) dR (.three 12348 (pointQ 4 4) (pointQ 4 4) (pointQ 4 4)) [(8197, 1, 1), (4103, 4, 4), (10, 8, 8)] = true := by kernel_rfl
set_option maxRecDepth 100000 in
theorem c2_6_4 : chkR (anyDrew false ls83) dR (.three 12348 (pointQ 4 4) (pointQ 4 4) (pointQ 4 4)) [(8203, 4, 4), (4103, 6, 6), (10, 2, 2)] = true := by kernel_rfl
set_option maxRecDepth 100000 in
theorem c5_6_1 : chkR (anyDrew false ls50) dR (.three 12348 (pointQ 4 4) (pointQ 4 4) (pointQ 4 4)) [(8203, 1, 1), (4103, 6, 6), (10, 5, 5)] = true := by kernel_rfl
set_option maxRecDepth 100000 in
theorem c8_4_0 : chkR (anyDrew false ls127) dR (.three 12348 (pointQ 4 4) (pointQ 4 4) (pointQ 4 4)) [(8197, 0, 0), (4103, 4, 4), (10, 8, 8)] = true := by kernel_rfl
set_option maxRecDepth 100000 in
theorem c2_6_3 : chkR (anyDrew false ls82) dR (.three 12348 (pointQ 4 4) (pointQ 4 4) (pointQ 4 4)) [(8203, 3, 3), (4103, 6, 6), (10, 2, 2)] = true := by kernel_rfl
set_option maxRecDepth 100000 in
theorem c5_5_1 : chkR (anyDrew false ls43) dR (.three 12348 (pointQ 4 4) (pointQ 4 4) (pointQ 4 4)) [(8199, 1, 1), (4103, 5, 5), (10, 5, 5)] = true := by kernel_rfl
set_option maxRecDepth 100000 in
theorem c8_3_0 : chkR (anyDrew false ls124) dR (.three 12348 (pointQ 4 4) (pointQ 4 4) (pointQ 4 4)) [(8195, 0, 0), (4103, 3, 3), (10, 8, 8)] = true := by kernel_rfl
set_option maxRecDepth 100000 in
theorem c2_6_2 : chkR (anyDrew false ls81) dR (.three 12348 (pointQ 4 4) (pointQ 4 4) (pointQ 4 4)) [(8203, 2, 2), (4103, 6, 6), (10, 2, 2)] = true := by kernel_rfl
set_option maxRecDepth 100000 in
theorem c5_4_1 : chkR (anyDrew false ls38) dR (.three 12348 (pointQ 4 4) (pointQ 4 4) (pointQ 4 4)) [(8197, 1, 1), (4103, 4, 4), (10, 5, 5)] = true := by kernel_rfl
set_option maxRecDepth 100000 in
theorem c0_5_4 : chkR (anyDrew false ls16) dR (.three 12348 (pointQ 4 4) (pointQ 4 4) (pointQ 4 4)) [(8199, 4, 4), (4103, 5, 5), (10, 0, 0)] = true := by kernel_rfl
set_option maxRecDepth 100000 in
theorem c3_4_2 : chkR (anyDrew false ls99) dR (.three 12348 (pointQ 4 4) (pointQ 4 4) (pointQ 4 4)) [(8197, 2, 2), (4103, 4, 4), (10, 3, 3)] = true := by kernel_rfl
set_option maxRecDepth 100000 in
theorem c6_2_1 : chkR (anyDrew false ls63) dR (.three 12348 (pointQ 4 4) (pointQ 4 4) (pointQ 4 4)) [(8194, 1, 1), (4103, 2, 2), (10, 6, 6)] = true := by kernel_rfl
set_option maxRecDepth 100000 in
theorem c1_4_3 : chkR (anyDrew false ls40) dR (.three 12348 (pointQ 4 4) (pointQ 4 4) (pointQ 4 4)) [(8197, 3, 3), (4103, 4, 4), (10, 1, 1)] = true := by kernel_rfl
set_option maxRecDepth 100000 in
theorem c3_5_0 : chkR (anyDrew false ls102) dR (.three 12348 (pointQ 4 4) (pointQ 4 4) (pointQ 4 4)) [(8199, 0, 0), (4103, 5, 5), (10, 3, 3)] = true := by kernel_rfl
set_option maxRecDepth 100000 in
theorem c0_4_3 : chkR (anyDrew false ls10) dR (.three 12348 (pointQ 4 4) (pointQ 4 4) (pointQ 4 4)) [(8197, 3, 3), (4103, 4, 4), (10, 0, 0)] = true := by kernel_rfl
set_option maxRecDepth 100000 in
theorem c2_5_0 : chkR (anyDrew false ls72) dR (.three 12348 (pointQ 4 4) (pointQ 4 4) (pointQ 4 4)) [(8199, 0, 0), (4103, 5, 5), (10, 2, 2)] = true := by kernel_rfl
set_option maxRecDepth 100000 in
theorem c0_4_2 : chkR (anyDrew false ls9) dR (.three 12348 (pointQ 4 4) (pointQ 4 4) (pointQ 4 4)) [(8197, 2, 2), (4103, 4, 4), (10, 0, 0)] = true := by kernel_rfl
set_option maxRecDepth 100000 in
theorem c3_2_1 : chkR (anyDrew false ls93) dR (.three 12348 (pointQ 4 4) (pointQ 4 4) (pointQ 4 4)) [(8194, 1, 1), (4103, 2, 2), (10, 3, 3)] = true := by kernel_rfl
set_option maxRecDepth 100000 in
theorem c1_3_1 : chkR (anyDrew false ls35) dR (.three 12348 (pointQ 4 4) (pointQ 4 4) (pointQ 4 4)) [(8195, 1, 1), (4103, 3, 3), (10, 1, 1)] = true := by kernel_rfl
set_option maxRecDepth 100000 in
theorem c0_4_0 : chkR (anyDrew false ls7) dR (.three 12348 (pointQ 4 4) (pointQ 4 4) (pointQ 4 4)) [(8197, 0, 0), (4103, 4, 4), (10, 0, 0)] = true := by kernel_rfl
set_option maxRecDepth 100000 in
theorem c1_2_0 : chkR (anyDrew false ls32) dR (.three 12348 (pointQ 4 4) (pointQ 4 4) (pointQ 4 4)) [(8194, 0, 0), (4103, 2, 2), (10, 1, 1)] = true := by kernel_rfl
set_option maxRecDepth 100000 in
theorem c0_0_0 : chkR (anyDrew false ls0) dR (.three 12348 (pointQ 4 4) (pointQ 4 4) (pointQ 4 4)) [(4103, 0, 0), (10, 0, 0)] = true := by kernel_rfl
end Go.Proofs.Ytadmpiidofncpaa.atshareDrawn
