/- Runs of the program at a seat. -/
import Derived.Test.YthcdiaahpodkoabWaysH
namespace Go.Proofs.Ythcdiaahpodkoab.waysDrawn
open Go Go.Eng
set_option linter.unusedVariables false
set_option linter.unusedSectionVars false
set_option linter.unusedSimpArgs false
set_option maxRecDepth 100000 in
theorem c6_9_5 : chkR (anyDrew false ls173) dR (.three 8252 (.of 400) (.of 400) (.of 400)) [(12294, 5, 5), (4107, 9, 9), (7, 6, 6)] = true := by kernel_rfl
set_option maxRecDepth 100000 in
theorem c6_10_3 : chkR (anyDrew false ls177) dR (.three 8252 (.of 400) (.of 400) (.of 400)) [(12294, 3, 3), (4107, 10, 10), (7, 6, 6)] = true := by kernel_rfl
set_option maxRecDepth 100000 in
theorem c6_10_2 : chkR (anyDrew false ls176) dR (.three 8252 (.of 400) (.of 400) (.of 400)) [(12294, 2, 2), (4107, 10, 10), (7, 6, 6)] = true := by kernel_rfl
set_option maxRecDepth 100000 in
theorem c6_9_2 : chkR (anyDrew false ls170) dR (.three 8252 (.of 400) (.of 400) (.of 400)) [(12294, 2, 2), (4107, 9, 9), (7, 6, 6)] = true := by kernel_rfl
set_option maxRecDepth 100000 in
theorem c6_6_4 : chkR (anyDrew false ls154) dR (.three 8252 (.of 400) (.of 400) (.of 400)) [(12294, 4, 4), (4107, 6, 6), (7, 6, 6)] = true := by kernel_rfl
set_option maxRecDepth 100000 in
theorem c6_10_0 : chkR (anyDrew false ls174) dR (.three 8252 (.of 400) (.of 400) (.of 400)) [(12294, 0, 0), (4107, 10, 10), (7, 6, 6)] = true := by kernel_rfl
set_option maxRecDepth 100000 in
theorem c6_5_4 : chkR (anyDrew false ls148) dR (.three 8252 (.of 400) (.of 400) (.of 400)) [(12294, 4, 4), (4107, 5, 5), (7, 6, 6)] = true := by kernel_rfl
set_option maxRecDepth 100000 in
theorem c6_9_0 : chkR (anyDrew false ls168) dR (.three 8252 (.of 400) (.of 400) (.of 400)) [(12294, 0, 0), (4107, 9, 9), (7, 6, 6)] = true := by kernel_rfl
set_option maxRecDepth 100000 in
theorem c6_3_5 : chkR (anyDrew false ls137) dR (.three 8252 (.of 400) (.of 400) (.of 400)) [(12294, 5, 5), (4107, 3, 3), (7, 6, 6)] = true := by kernel_rfl
set_option maxRecDepth 100000 in
theorem c6_7_1 : chkR (anyDrew false ls157) dR (.three 8252 (.of 400) (.of 400) (.of 400)) [(12294, 1, 1), (4107, 7, 7), (7, 6, 6)] = true := by kernel_rfl
set_option maxRecDepth 100000 in
theorem c5_4_4 : chkR (anyDrew false ls100) dR (.three 8252 (.of 400) (.of 400) (.of 400)) [(12294, 4, 4), (4103, 4, 4), (7, 5, 5)] = true := by kernel_rfl
set_option maxRecDepth 100000 in
theorem c6_3_4 : chkR (anyDrew false ls136) dR (.three 8252 (.of 400) (.of 400) (.of 400)) [(12294, 4, 4), (4107, 3, 3), (7, 6, 6)] = true := by kernel_rfl
set_option maxRecDepth 100000 in
theorem c6_7_0 : chkR (anyDrew false ls156) dR (.three 8252 (.of 400) (.of 400) (.of 400)) [(12294, 0, 0), (4107, 7, 7), (7, 6, 6)] = true := by kernel_rfl
set_option maxRecDepth 100000 in
theorem c5_3_4 : chkR (anyDrew false ls94) dR (.three 8252 (.of 400) (.of 400) (.of 400)) [(12294, 4, 4), (4103, 3, 3), (7, 5, 5)] = true := by kernel_rfl
set_option maxRecDepth 100000 in
theorem c6_1_5 : chkR (anyDrew false ls125) dR (.three 8252 (.of 400) (.of 400) (.of 400)) [(12294, 5, 5), (4107, 1, 1), (7, 6, 6)] = true := by kernel_rfl
set_option maxRecDepth 100000 in
theorem c6_5_1 : chkR (anyDrew false ls145) dR (.three 8252 (.of 400) (.of 400) (.of 400)) [(12294, 1, 1), (4107, 5, 5), (7, 6, 6)] = true := by kernel_rfl
set_option maxRecDepth 100000 in
theorem c4_4_3 : chkR (anyDrew false ls69) dR (.three 8252 (.of 400) (.of 400) (.of 400)) [(12294, 3, 3), (4101, 4, 4), (7, 4, 4)] = true := by kernel_rfl
set_option maxRecDepth 100000 in
theorem c5_4_2 : chkR (anyDrew false ls98) dR (.three 8252 (.of 400) (.of 400) (.of 400)) [(12294, 2, 2), (4103, 4, 4), (7, 5, 5)] = true := by kernel_rfl
set_option maxRecDepth 100000 in
theorem c6_1_4 : chkR (anyDrew false ls124) dR (.three 8252 (.of 400) (.of 400) (.of 400)) [(12294, 4, 4), (4107, 1, 1), (7, 6, 6)] = true := by kernel_rfl
set_option maxRecDepth 100000 in
theorem c6_5_0 : chkR (anyDrew false ls144) dR (.three 8252 (.of 400) (.of 400) (.of 400)) [(12294, 0, 0), (4107, 5, 5), (7, 6, 6)] = true := by kernel_rfl
set_option maxRecDepth 100000 in
theorem c4_3_3 : chkR (anyDrew false ls63) dR (.three 8252 (.of 400) (.of 400) (.of 400)) [(12294, 3, 3), (4101, 3, 3), (7, 4, 4)] = true := by kernel_rfl
set_option maxRecDepth 100000 in
theorem c5_2_3 : chkR (anyDrew false ls87) dR (.three 8252 (.of 400) (.of 400) (.of 400)) [(12294, 3, 3), (4103, 2, 2), (7, 5, 5)] = true := by kernel_rfl
set_option maxRecDepth 100000 in
theorem c6_0_4 : chkR (anyDrew false ls118) dR (.three 8252 (.of 400) (.of 400) (.of 400)) [(12294, 4, 4), (4107, 0, 0), (7, 6, 6)] = true := by kernel_rfl
set_option maxRecDepth 100000 in
theorem c6_4_0 : chkR (anyDrew false ls138) dR (.three 8252 (.of 400) (.of 400) (.of 400)) [(12294, 0, 0), (4107, 4, 4), (7, 6, 6)] = true := by kernel_rfl
set_option maxRecDepth 100000 in
theorem c4_1_4 : chkR (anyDrew false ls52) dR (.three 8252 (.of 400) (.of 400) (.of 400)) [(12294, 4, 4), (4101, 1, 1), (7, 4, 4)] = true := by kernel_rfl
set_option maxRecDepth 100000 in
theorem c5_0_4 : chkR (anyDrew false ls76) dR (.three 8252 (.of 400) (.of 400) (.of 400)) [(12294, 4, 4), (4103, 0, 0), (7, 5, 5)] = true := by kernel_rfl
set_option maxRecDepth 100000 in
theorem c5_4_0 : chkR (anyDrew false ls96) dR (.three 8252 (.of 400) (.of 400) (.of 400)) [(12294, 0, 0), (4103, 4, 4), (7, 5, 5)] = true := by kernel_rfl
set_option maxRecDepth 100000 in
theorem c6_3_0 : chkR (anyDrew false ls132) dR (.three 8252 (.of 400) (.of 400) (.of 400)) [(12294, 0, 0), (4107, 3, 3), (7, 6, 6)] = true := by kernel_rfl
set_option maxRecDepth 100000 in
theorem c3_2_3 : chkR (anyDrew false ls39) dR (.three 8252 (.of 400) (.of 400) (.of 400)) [(12294, 3, 3), (4099, 2, 2), (7, 3, 3)] = true := by kernel_rfl
set_option maxRecDepth 100000 in
theorem c4_3_1 : chkR (anyDrew false ls61) dR (.three 8252 (.of 400) (.of 400) (.of 400)) [(12294, 1, 1), (4101, 3, 3), (7, 4, 4)] = true := by kernel_rfl
set_option maxRecDepth 100000 in
theorem c5_2_1 : chkR (anyDrew false ls85) dR (.three 8252 (.of 400) (.of 400) (.of 400)) [(12294, 1, 1), (4103, 2, 2), (7, 5, 5)] = true := by kernel_rfl
set_option maxRecDepth 100000 in
theorem c6_2_0 : chkR (anyDrew false ls126) dR (.three 8252 (.of 400) (.of 400) (.of 400)) [(12294, 0, 0), (4107, 2, 2), (7, 6, 6)] = true := by kernel_rfl
set_option maxRecDepth 100000 in
theorem c3_1_3 : chkR (anyDrew false ls33) dR (.three 8252 (.of 400) (.of 400) (.of 400)) [(12294, 3, 3), (4099, 1, 1), (7, 3, 3)] = true := by kernel_rfl
set_option maxRecDepth 100000 in
theorem c4_2_1 : chkR (anyDrew false ls55) dR (.three 8252 (.of 400) (.of 400) (.of 400)) [(12294, 1, 1), (4101, 2, 2), (7, 4, 4)] = true := by kernel_rfl
set_option maxRecDepth 100000 in
theorem c5_2_0 : chkR (anyDrew false ls84) dR (.three 8252 (.of 400) (.of 400) (.of 400)) [(12294, 0, 0), (4103, 2, 2), (7, 5, 5)] = true := by kernel_rfl
set_option maxRecDepth 100000 in
theorem c2_0_4 : chkR (anyDrew false ls16) dR (.three 8252 (.of 400) (.of 400) (.of 400)) [(12294, 4, 4), (4098, 0, 0), (7, 2, 2)] = true := by kernel_rfl
set_option maxRecDepth 100000 in
theorem c3_2_1 : chkR (anyDrew false ls37) dR (.three 8252 (.of 400) (.of 400) (.of 400)) [(12294, 1, 1), (4099, 2, 2), (7, 3, 3)] = true := by kernel_rfl
set_option maxRecDepth 100000 in
theorem c5_0_1 : chkR (anyDrew false ls73) dR (.three 8252 (.of 400) (.of 400) (.of 400)) [(12294, 1, 1), (4103, 0, 0), (7, 5, 5)] = true := by kernel_rfl
set_option maxRecDepth 100000 in
theorem c1_0_4 : chkR (anyDrew false ls10) dR (.three 8252 (.of 400) (.of 400) (.of 400)) [(12294, 4, 4), (7, 1, 1)] = true := by kernel_rfl
set_option maxRecDepth 100000 in
theorem c3_1_1 : chkR (anyDrew false ls31) dR (.three 8252 (.of 400) (.of 400) (.of 400)) [(12294, 1, 1), (4099, 1, 1), (7, 3, 3)] = true := by kernel_rfl
set_option maxRecDepth 100000 in
theorem c5_0_0 : chkR (anyDrew false ls72) dR (.three 8252 (.of 400) (.of 400) (.of 400)) [(12294, 0, 0), (4103, 0, 0), (7, 5, 5)] = true := by kernel_rfl
set_option maxRecDepth 100000 in
theorem c2_1_1 : chkR (anyDrew false ls19) dR (.three 8252 (.of 400) (.of 400) (.of 400)) [(12294, 1, 1), (4098, 1, 1), (7, 2, 2)] = true := by kernel_rfl
set_option maxRecDepth 100000 in
theorem c0_0_3 : chkR (anyDrew false ls3) dR (.three 8252 (.of 400) (.of 400) (.of 400)) [(12294, 3, 3), (7, 0, 0)] = true := by kernel_rfl
set_option maxRecDepth 100000 in
theorem c3_0_0 : chkR (anyDrew false ls24) dR (.three 8252 (.of 400) (.of 400) (.of 400)) [(12294, 0, 0), (4099, 0, 0), (7, 3, 3)] = true := by kernel_rfl
set_option maxRecDepth 100000 in
theorem c0_0_1 : chkR (anyDrew false ls1) dR (.three 8252 (.of 400) (.of 400) (.of 400)) [(12294, 1, 1), (7, 0, 0)] = true := by kernel_rfl
end Go.Proofs.Ythcdiaahpodkoab.waysDrawn
