/- Runs of the program at a seat. -/
import Derived.Test.YtadmpiidofncpaaAtshareH
namespace Go.Proofs.Ytadmpiidofncpaa.atshareDrawn
open Go Go.Eng
set_option linter.unusedVariables false
set_option linter.unusedSectionVars false
set_option linter.unusedSimpArgs false
set_option maxRecDepth 100000 in
theorem c7_6_9 : chkR (anyDrew false ls118) dR (.three 12348 (pointQ 4 4) (pointQ 4 4) (pointQ 4 4)) [(8203, 9, 9), (4103, 6, 6), (10, 7, 7)] = true := by kernel_rfl
set_option maxRecDepth 100000 in
theorem c4_6_10 : chkR (anyDrew false ls29) dR (.three 12348 (pointQ 4 4) (pointQ 4 4) (pointQ 4 4)) [(8203, 10, 10), (4103, 6, 6), (10, 4, 4)] = true := by kernel_rfl
set_option maxRecDepth 100000 in
theorem c4_6_9 : chkR (anyDrew false ls28) dR (.three 12348 (pointQ 4 4) (pointQ 4 4) (pointQ 4 4)) [(8203, 9, 9), (4103, 6, 6), (10, 4, 4)] = true := by kernel_rfl
set_option maxRecDepth 100000 in
theorem c2_6_10 : chkR (anyDrew false ls89) dR (.three 12348 (pointQ 4 4) (pointQ 4 4) (pointQ 4 4)) [(8203, 10, 10), (4103, 6, 6), (10, 2, 2)] = true := by kernel_rfl
set_option maxRecDepth 100000 in
theorem c8_6_4 : chkR (anyDrew false ls143) dR (.three 12348 (pointQ 4 4) (pointQ 4 4) (pointQ 4 4)) [(8203, 4, 4), (4103, 6, 6), (10, 8, 8)] = true := by kernel_rfl
set_option maxRecDepth 100000 in
theorem c6_5_6 : chkR (anyDrew false ls78) dR (.three 12348 (pointQ 4 4) (pointQ 4 4) (pointQ 4 4)) [(8199, 6, 6), (4103, 5, 5), (10, 6, 6)] = true := by kernel_rfl
set_option maxRecDepth 100000 in
theorem c9_6_2 : chkR (anyDrew false ls171) dR (.three 12348 (pointQ 4 4) (pointQ 4 4) (pointQ 4 4)) [(8203, 2, 2), (4103, 6, 6), (10, 9, 9)] = true := by kernel_rfl
set_option maxRecDepth 100000 in
theorem c6_5_5 : chkR (anyDrew false ls77) dR (.three 12348 (pointQ 4 4) (pointQ 4 4) (pointQ 4 4)) [(8199, 5, 5), (4103, 5, 5), (10, 6, 6)] = true := by kernel_rfl
set_option maxRecDepth 100000 in
theorem c9_5_2 : chkR (anyDrew false ls164) dR (.three 12348 (pointQ 4 4) (pointQ 4 4) (pointQ 4 4)) [(8199, 2, 2), (4103, 5, 5), (10, 9, 9)] = true := by kernel_rfl
set_option maxRecDepth 100000 in
theorem c5_5_5 : chkR (anyDrew false ls47) dR (.three 12348 (pointQ 4 4) (pointQ 4 4) (pointQ 4 4)) [(8199, 5, 5), (4103, 5, 5), (10, 5, 5)] = true := by kernel_rfl
set_option maxRecDepth 100000 in
theorem c8_5_2 : chkR (anyDrew false ls134) dR (.three 12348 (pointQ 4 4) (pointQ 4 4) (pointQ 4 4)) [(8199, 2, 2), (4103, 5, 5), (10, 8, 8)] = true := by kernel_rfl
set_option maxRecDepth 100000 in
theorem c3_5_6 : chkR (anyDrew false ls108) dR (.three 12348 (pointQ 4 4) (pointQ 4 4) (pointQ 4 4)) [(8199, 6, 6), (4103, 5, 5), (10, 3, 3)] = true := by kernel_rfl
set_option maxRecDepth 100000 in
theorem c6_6_2 : chkR (anyDrew false ls81) dR (.three 12348 (pointQ 4 4) (pointQ 4 4) (pointQ 4 4)) [(8203, 2, 2), (4103, 6, 6), (10, 6, 6)] = true := by kernel_rfl
set_option maxRecDepth 100000 in
theorem c9_4_1 : chkR (anyDrew false ls158) dR (.three 12348 (pointQ 4 4) (pointQ 4 4) (pointQ 4 4)) [(8197, 1, 1), (4103, 4, 4), (10, 9, 9)] = true := by kernel_rfl
set_option maxRecDepth 100000 in
theorem c4_5_4 : chkR (anyDrew false ls16) dR (.three 12348 (pointQ 4 4) (pointQ 4 4) (pointQ 4 4)) [(8199, 4, 4), (4103, 5, 5), (10, 4, 4)] = true := by kernel_rfl
set_option maxRecDepth 100000 in
theorem c7_4_2 : chkR (anyDrew false ls99) dR (.three 12348 (pointQ 4 4) (pointQ 4 4) (pointQ 4 4)) [(8197, 2, 2), (4103, 4, 4), (10, 7, 7)] = true := by kernel_rfl
set_option maxRecDepth 100000 in
theorem c0_6_6 : chkR (anyDrew false ls25) dR (.three 12348 (pointQ 4 4) (pointQ 4 4) (pointQ 4 4)) [(8203, 6, 6), (4103, 6, 6), (10, 0, 0)] = true := by kernel_rfl
set_option maxRecDepth 100000 in
theorem c4_5_3 : chkR (anyDrew false ls15) dR (.three 12348 (pointQ 4 4) (pointQ 4 4) (pointQ 4 4)) [(8199, 3, 3), (4103, 5, 5), (10, 4, 4)] = true := by kernel_rfl
set_option maxRecDepth 100000 in
theorem c7_3_2 : chkR (anyDrew false ls96) dR (.three 12348 (pointQ 4 4) (pointQ 4 4) (pointQ 4 4)) [(8195, 2, 2), (4103, 3, 3), (10, 7, 7)] = true := by kernel_rfl
set_option maxRecDepth 100000 in
theorem c0_6_5 : chkR (anyDrew false ls24) dR (.three 12348 (pointQ 4 4) (pointQ 4 4) (pointQ 4 4)) [(8203, 5, 5), (4103, 6, 6), (10, 0, 0)] = true := by kernel_rfl
set_option maxRecDepth 100000 in
theorem c4_4_3 : chkR (anyDrew false ls10) dR (.three 12348 (pointQ 4 4) (pointQ 4 4) (pointQ 4 4)) [(8197, 3, 3), (4103, 4, 4), (10, 4, 4)] = true := by kernel_rfl
set_option maxRecDepth 100000 in
theorem c6_5_0 : chkR (anyDrew false ls72) dR (.three 12348 (pointQ 4 4) (pointQ 4 4) (pointQ 4 4)) [(8199, 0, 0), (4103, 5, 5), (10, 6, 6)] = true := by kernel_rfl
set_option maxRecDepth 100000 in
theorem c1_5_4 : chkR (anyDrew false ls46) dR (.three 12348 (pointQ 4 4) (pointQ 4 4) (pointQ 4 4)) [(8199, 4, 4), (4103, 5, 5), (10, 1, 1)] = true := by kernel_rfl
set_option maxRecDepth 100000 in
theorem c4_4_2 : chkR (anyDrew false ls9) dR (.three 12348 (pointQ 4 4) (pointQ 4 4) (pointQ 4 4)) [(8197, 2, 2), (4103, 4, 4), (10, 4, 4)] = true := by kernel_rfl
set_option maxRecDepth 100000 in
theorem c7_2_1 : chkR (anyDrew false ls93) dR (.three 12348 (pointQ 4 4) (pointQ 4 4) (pointQ 4 4)) [(8194, 1, 1), (4103, 2, 2), (10, 7, 7)] = true := by kernel_rfl
set_option maxRecDepth 100000 in
theorem c1_6_2 : chkR (anyDrew false ls51) dR (.three 12348 (pointQ 4 4) (pointQ 4 4) (pointQ 4 4)) [(8203, 2, 2), (4103, 6, 6), (10, 1, 1)] = true := by kernel_rfl
set_option maxRecDepth 100000 in
theorem c4_4_1 : chkR (anyDrew false ls8) dR (.three 12348 (pointQ 4 4) (pointQ 4 4) (pointQ 4 4)) [(8197, 1, 1), (4103, 4, 4), (10, 4, 4)] = true := by kernel_rfl
set_option maxRecDepth 100000 in
theorem c9_0_0 : chkR (anyDrew false ls150) dR (.three 12348 (pointQ 4 4) (pointQ 4 4) (pointQ 4 4)) [(4103, 0, 0), (10, 9, 9)] = true := by kernel_rfl
set_option maxRecDepth 100000 in
theorem c2_5_1 : chkR (anyDrew false ls73) dR (.three 12348 (pointQ 4 4) (pointQ 4 4) (pointQ 4 4)) [(8199, 1, 1), (4103, 5, 5), (10, 2, 2)] = true := by kernel_rfl
set_option maxRecDepth 100000 in
theorem c5_3_0 : chkR (anyDrew false ls34) dR (.three 12348 (pointQ 4 4) (pointQ 4 4) (pointQ 4 4)) [(8195, 0, 0), (4103, 3, 3), (10, 5, 5)] = true := by kernel_rfl
set_option maxRecDepth 100000 in
theorem c1_5_1 : chkR (anyDrew false ls43) dR (.three 12348 (pointQ 4 4) (pointQ 4 4) (pointQ 4 4)) [(8199, 1, 1), (4103, 5, 5), (10, 1, 1)] = true := by kernel_rfl
set_option maxRecDepth 100000 in
theorem c4_3_0 : chkR (anyDrew false ls4) dR (.three 12348 (pointQ 4 4) (pointQ 4 4) (pointQ 4 4)) [(8195, 0, 0), (4103, 3, 3), (10, 4, 4)] = true := by kernel_rfl
set_option maxRecDepth 100000 in
theorem c1_4_1 : chkR (anyDrew false ls38) dR (.three 12348 (pointQ 4 4) (pointQ 4 4) (pointQ 4 4)) [(8197, 1, 1), (4103, 4, 4), (10, 1, 1)] = true := by kernel_rfl
set_option maxRecDepth 100000 in
theorem c6_0_0 : chkR (anyDrew false ls60) dR (.three 12348 (pointQ 4 4) (pointQ 4 4) (pointQ 4 4)) [(4103, 0, 0), (10, 6, 6)] = true := by kernel_rfl
set_option maxRecDepth 100000 in
theorem c3_2_0 : chkR (anyDrew false ls92) dR (.three 12348 (pointQ 4 4) (pointQ 4 4) (pointQ 4 4)) [(8194, 0, 0), (4103, 2, 2), (10, 3, 3)] = true := by kernel_rfl
set_option maxRecDepth 100000 in
theorem c3_1_0 : chkR (anyDrew false ls91) dR (.three 12348 (pointQ 4 4) (pointQ 4 4) (pointQ 4 4)) [(4103, 1, 1), (10, 3, 3)] = true := by kernel_rfl
set_option maxRecDepth 100000 in
theorem c1_1_0 : chkR (anyDrew false ls31) dR (.three 12348 (pointQ 4 4) (pointQ 4 4) (pointQ 4 4)) [(4103, 1, 1), (10, 1, 1)] = true := by kernel_rfl
end Go.Proofs.Ytadmpiidofncpaa.atshareDrawn
