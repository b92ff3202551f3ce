/- Runs of the program at a seat. -/
import Derived.Test.YthcdiaahpodkoabWaysH
namespace Go.Proofs.Ythcdiaahpodkoab.waysDrawn
open Go Go.Eng
set_option linter.unusedVariables false
set_option linter.unusedSectionVars false
set_option linter.unusedSimpArgs false
set_option maxRecDepth 100000 in
theorem c6_10_5 : chkR (anyDrew false ls179) dR (.three 8252 (.of 400) (.of 400) (.of 400)) [(12294, 5, 5), (4107, 10, 10), (7, 6, 6)] = true := by kernel_rfl
set_option maxRecDepth 100000 in
theorem c6_9_4 : chkR (anyDrew false ls172) dR (.three 8252 (.of 400) (.of 400) (.of 400)) [(12294, 4, 4), (4107, 9, 9), (7, 6, 6)] = true := by kernel_rfl
set_option maxRecDepth 100000 in
theorem c6_9_3 : chkR (anyDrew false ls171) dR (.three 8252 (.of 400) (.of 400) (.of 400)) [(12294, 3, 3), (4107, 9, 9), (7, 6, 6)] = true := by kernel_rfl
set_option maxRecDepth 100000 in
theorem c6_8_3 : chkR (anyDrew false ls165) dR (.three 8252 (.of 400) (.of 400) (.of 400)) [(12294, 3, 3), (4107, 8, 8), (7, 6, 6)] = true := by kernel_rfl
set_option maxRecDepth 100000 in
theorem c6_5_5 : chkR (anyDrew false ls149) dR (.three 8252 (.of 400) (.of 400) (.of 400)) [(12294, 5, 5), (4107, 5, 5), (7, 6, 6)] = true := by kernel_rfl
set_option maxRecDepth 100000 in
theorem c6_9_1 : chkR (anyDrew false ls169) dR (.three 8252 (.of 400) (.of 400) (.of 400)) [(12294, 1, 1), (4107, 9, 9), (7, 6, 6)] = true := by kernel_rfl
set_option maxRecDepth 100000 in
theorem c6_4_5 : chkR (anyDrew false ls143) dR (.three 8252 (.of 400) (.of 400) (.of 400)) [(12294, 5, 5), (4107, 4, 4), (7, 6, 6)] = true := by kernel_rfl
set_option maxRecDepth 100000 in
theorem c6_8_1 : chkR (anyDrew false ls163) dR (.three 8252 (.of 400) (.of 400) (.of 400)) [(12294, 1, 1), (4107, 8, 8), (7, 6, 6)] = true := by kernel_rfl
set_option maxRecDepth 100000 in
theorem c5_6_3 : chkR (anyDrew false ls111) dR (.three 8252 (.of 400) (.of 400) (.of 400)) [(12294, 3, 3), (4103, 6, 6), (7, 5, 5)] = true := by kernel_rfl
set_option maxRecDepth 100000 in
theorem c6_6_2 : chkR (anyDrew false ls152) dR (.three 8252 (.of 400) (.of 400) (.of 400)) [(12294, 2, 2), (4107, 6, 6), (7, 6, 6)] = true := by kernel_rfl
set_option maxRecDepth 100000 in
theorem c5_3_5 : chkR (anyDrew false ls95) dR (.three 8252 (.of 400) (.of 400) (.of 400)) [(12294, 5, 5), (4103, 3, 3), (7, 5, 5)] = true := by kernel_rfl
set_option maxRecDepth 100000 in
theorem c6_2_5 : chkR (anyDrew false ls131) dR (.three 8252 (.of 400) (.of 400) (.of 400)) [(12294, 5, 5), (4107, 2, 2), (7, 6, 6)] = true := by kernel_rfl
set_option maxRecDepth 100000 in
theorem c6_6_1 : chkR (anyDrew false ls151) dR (.three 8252 (.of 400) (.of 400) (.of 400)) [(12294, 1, 1), (4107, 6, 6), (7, 6, 6)] = true := by kernel_rfl
set_option maxRecDepth 100000 in
theorem c5_2_5 : chkR (anyDrew false ls89) dR (.three 8252 (.of 400) (.of 400) (.of 400)) [(12294, 5, 5), (4103, 2, 2), (7, 5, 5)] = true := by kernel_rfl
set_option maxRecDepth 100000 in
theorem c5_6_1 : chkR (anyDrew false ls109) dR (.three 8252 (.of 400) (.of 400) (.of 400)) [(12294, 1, 1), (4103, 6, 6), (7, 5, 5)] = true := by kernel_rfl
set_option maxRecDepth 100000 in
theorem c6_4_2 : chkR (anyDrew false ls140) dR (.three 8252 (.of 400) (.of 400) (.of 400)) [(12294, 2, 2), (4107, 4, 4), (7, 6, 6)] = true := by kernel_rfl
set_option maxRecDepth 100000 in
theorem c4_3_4 : chkR (anyDrew false ls64) dR (.three 8252 (.of 400) (.of 400) (.of 400)) [(12294, 4, 4), (4101, 3, 3), (7, 4, 4)] = true := by kernel_rfl
set_option maxRecDepth 100000 in
theorem c5_3_3 : chkR (anyDrew false ls93) dR (.three 8252 (.of 400) (.of 400) (.of 400)) [(12294, 3, 3), (4103, 3, 3), (7, 5, 5)] = true := by kernel_rfl
set_option maxRecDepth 100000 in
theorem c6_0_5 : chkR (anyDrew false ls119) dR (.three 8252 (.of 400) (.of 400) (.of 400)) [(12294, 5, 5), (4107, 0, 0), (7, 6, 6)] = true := by kernel_rfl
set_option maxRecDepth 100000 in
theorem c6_4_1 : chkR (anyDrew false ls139) dR (.three 8252 (.of 400) (.of 400) (.of 400)) [(12294, 1, 1), (4107, 4, 4), (7, 6, 6)] = true := by kernel_rfl
set_option maxRecDepth 100000 in
theorem c4_2_4 : chkR (anyDrew false ls58) dR (.three 8252 (.of 400) (.of 400) (.of 400)) [(12294, 4, 4), (4101, 2, 2), (7, 4, 4)] = true := by kernel_rfl
set_option maxRecDepth 100000 in
theorem c5_1_4 : chkR (anyDrew false ls82) dR (.three 8252 (.of 400) (.of 400) (.of 400)) [(12294, 4, 4), (4103, 1, 1), (7, 5, 5)] = true := by kernel_rfl
set_option maxRecDepth 100000 in
theorem c5_5_0 : chkR (anyDrew false ls102) dR (.three 8252 (.of 400) (.of 400) (.of 400)) [(12294, 0, 0), (4103, 5, 5), (7, 5, 5)] = true := by kernel_rfl
set_option maxRecDepth 100000 in
theorem c6_3_1 : chkR (anyDrew false ls133) dR (.three 8252 (.of 400) (.of 400) (.of 400)) [(12294, 1, 1), (4107, 3, 3), (7, 6, 6)] = true := by kernel_rfl
set_option maxRecDepth 100000 in
theorem c4_0_5 : chkR (anyDrew false ls47) dR (.three 8252 (.of 400) (.of 400) (.of 400)) [(12294, 5, 5), (4101, 0, 0), (7, 4, 4)] = true := by kernel_rfl
set_option maxRecDepth 100000 in
theorem c4_4_1 : chkR (anyDrew false ls67) dR (.three 8252 (.of 400) (.of 400) (.of 400)) [(12294, 1, 1), (4101, 4, 4), (7, 4, 4)] = true := by kernel_rfl
set_option maxRecDepth 100000 in
theorem c5_3_1 : chkR (anyDrew false ls91) dR (.three 8252 (.of 400) (.of 400) (.of 400)) [(12294, 1, 1), (4103, 3, 3), (7, 5, 5)] = true := by kernel_rfl
set_option maxRecDepth 100000 in
theorem c6_2_1 : chkR (anyDrew false ls127) dR (.three 8252 (.of 400) (.of 400) (.of 400)) [(12294, 1, 1), (4107, 2, 2), (7, 6, 6)] = true := by kernel_rfl
set_option maxRecDepth 100000 in
theorem c3_1_4 : chkR (anyDrew false ls34) dR (.three 8252 (.of 400) (.of 400) (.of 400)) [(12294, 4, 4), (4099, 1, 1), (7, 3, 3)] = true := by kernel_rfl
set_option maxRecDepth 100000 in
theorem c4_2_2 : chkR (anyDrew false ls56) dR (.three 8252 (.of 400) (.of 400) (.of 400)) [(12294, 2, 2), (4101, 2, 2), (7, 4, 4)] = true := by kernel_rfl
set_option maxRecDepth 100000 in
theorem c5_1_2 : chkR (anyDrew false ls80) dR (.three 8252 (.of 400) (.of 400) (.of 400)) [(12294, 2, 2), (4103, 1, 1), (7, 5, 5)] = true := by kernel_rfl
set_option maxRecDepth 100000 in
theorem c6_1_1 : chkR (anyDrew false ls121) dR (.three 8252 (.of 400) (.of 400) (.of 400)) [(12294, 1, 1), (4107, 1, 1), (7, 6, 6)] = true := by kernel_rfl
set_option maxRecDepth 100000 in
theorem c3_0_4 : chkR (anyDrew false ls28) dR (.three 8252 (.of 400) (.of 400) (.of 400)) [(12294, 4, 4), (4099, 0, 0), (7, 3, 3)] = true := by kernel_rfl
set_option maxRecDepth 100000 in
theorem c4_1_2 : chkR (anyDrew false ls50) dR (.three 8252 (.of 400) (.of 400) (.of 400)) [(12294, 2, 2), (4101, 1, 1), (7, 4, 4)] = true := by kernel_rfl
set_option maxRecDepth 100000 in
theorem c5_1_1 : chkR (anyDrew false ls79) dR (.three 8252 (.of 400) (.of 400) (.of 400)) [(12294, 1, 1), (4103, 1, 1), (7, 5, 5)] = true := by kernel_rfl
set_option maxRecDepth 100000 in
theorem c1_0_5 : chkR (anyDrew false ls11) dR (.three 8252 (.of 400) (.of 400) (.of 400)) [(12294, 5, 5), (7, 1, 1)] = true := by kernel_rfl
set_option maxRecDepth 100000 in
theorem c3_1_2 : chkR (anyDrew false ls32) dR (.three 8252 (.of 400) (.of 400) (.of 400)) [(12294, 2, 2), (4099, 1, 1), (7, 3, 3)] = true := by kernel_rfl
set_option maxRecDepth 100000 in
theorem c4_2_0 : chkR (anyDrew false ls54) dR (.three 8252 (.of 400) (.of 400) (.of 400)) [(12294, 0, 0), (4101, 2, 2), (7, 4, 4)] = true := by kernel_rfl
set_option maxRecDepth 100000 in
theorem c0_0_5 : chkR (anyDrew false ls5) dR (.three 8252 (.of 400) (.of 400) (.of 400)) [(12294, 5, 5), (7, 0, 0)] = true := by kernel_rfl
set_option maxRecDepth 100000 in
theorem c3_0_2 : chkR (anyDrew false ls26) dR (.three 8252 (.of 400) (.of 400) (.of 400)) [(12294, 2, 2), (4099, 0, 0), (7, 3, 3)] = true := by kernel_rfl
set_option maxRecDepth 100000 in
theorem c4_1_0 : chkR (anyDrew false ls48) dR (.three 8252 (.of 400) (.of 400) (.of 400)) [(12294, 0, 0), (4101, 1, 1), (7, 4, 4)] = true := by kernel_rfl
set_option maxRecDepth 100000 in
theorem c2_0_2 : chkR (anyDrew false ls14) dR (.three 8252 (.of 400) (.of 400) (.of 400)) [(12294, 2, 2), (4098, 0, 0), (7, 2, 2)] = true := by kernel_rfl
set_option maxRecDepth 100000 in
theorem c4_0_0 : chkR (anyDrew false ls42) dR (.three 8252 (.of 400) (.of 400) (.of 400)) [(12294, 0, 0), (4101, 0, 0), (7, 4, 4)] = true := by kernel_rfl
set_option maxRecDepth 100000 in
theorem c2_1_0 : chkR (anyDrew false ls18) dR (.three 8252 (.of 400) (.of 400) (.of 400)) [(12294, 0, 0), (4098, 1, 1), (7, 2, 2)] = true := by kernel_rfl
set_option maxRecDepth 100000 in
theorem c2_0_0 : chkR (anyDrew false ls12) dR (.three 8252 (.of 400) (.of 400) (.of 400)) [(12294, 0, 0), (4098, 0, 0), (7, 2, 2)] = true := by kernel_rfl
end Go.Proofs.Ythcdiaahpodkoab.waysDrawn
