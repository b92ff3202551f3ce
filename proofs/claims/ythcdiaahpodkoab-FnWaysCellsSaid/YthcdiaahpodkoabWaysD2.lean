/- Runs of the program at a seat. -/
import Derived.Test.YthcdiaahpodkoabWaysH
namespace Go.Proofs.Ythcdiaahpodkoab.waysDrawn
open Go Go.Eng
set_option linter.unusedVariables false
set_option linter.unusedSectionVars false
set_option linter.unusedSimpArgs false
set_option maxRecDepth 100000 in
theorem c6_10_4 : chkR (anyDrew false ls178) dR (.three 8252 (.of 400) (.of 400) (.of 400)) [(12294, 4, 4), (4107, 10, 10), (7, 6, 6)] = true := by kernel_rfl
set_option maxRecDepth 100000 in
theorem c6_7_5 : chkR (anyDrew false ls161) dR (.three 8252 (.of 400) (.of 400) (.of 400)) [(12294, 5, 5), (4107, 7, 7), (7, 6, 6)] = true := by kernel_rfl
set_option maxRecDepth 100000 in
theorem c6_6_5 : chkR (anyDrew false ls155) dR (.three 8252 (.of 400) (.of 400) (.of 400)) [(12294, 5, 5), (4107, 6, 6), (7, 6, 6)] = true := by kernel_rfl
set_option maxRecDepth 100000 in
theorem c6_10_1 : chkR (anyDrew false ls175) dR (.three 8252 (.of 400) (.of 400) (.of 400)) [(12294, 1, 1), (4107, 10, 10), (7, 6, 6)] = true := by kernel_rfl
set_option maxRecDepth 100000 in
theorem c6_7_3 : chkR (anyDrew false ls159) dR (.three 8252 (.of 400) (.of 400) (.of 400)) [(12294, 3, 3), (4107, 7, 7), (7, 6, 6)] = true := by kernel_rfl
set_option maxRecDepth 100000 in
theorem c5_5_5 : chkR (anyDrew false ls107) dR (.three 8252 (.of 400) (.of 400) (.of 400)) [(12294, 5, 5), (4103, 5, 5), (7, 5, 5)] = true := by kernel_rfl
set_option maxRecDepth 100000 in
theorem c6_6_3 : chkR (anyDrew false ls153) dR (.three 8252 (.of 400) (.of 400) (.of 400)) [(12294, 3, 3), (4107, 6, 6), (7, 6, 6)] = true := by kernel_rfl
set_option maxRecDepth 100000 in
theorem c5_4_5 : chkR (anyDrew false ls101) dR (.three 8252 (.of 400) (.of 400) (.of 400)) [(12294, 5, 5), (4103, 4, 4), (7, 5, 5)] = true := by kernel_rfl
set_option maxRecDepth 100000 in
theorem c6_4_4 : chkR (anyDrew false ls142) dR (.three 8252 (.of 400) (.of 400) (.of 400)) [(12294, 4, 4), (4107, 4, 4), (7, 6, 6)] = true := by kernel_rfl
set_option maxRecDepth 100000 in
theorem c6_8_0 : chkR (anyDrew false ls162) dR (.three 8252 (.of 400) (.of 400) (.of 400)) [(12294, 0, 0), (4107, 8, 8), (7, 6, 6)] = true := by kernel_rfl
set_option maxRecDepth 100000 in
theorem c5_5_3 : chkR (anyDrew false ls105) dR (.three 8252 (.of 400) (.of 400) (.of 400)) [(12294, 3, 3), (4103, 5, 5), (7, 5, 5)] = true := by kernel_rfl
set_option maxRecDepth 100000 in
theorem c6_4_3 : chkR (anyDrew false ls141) dR (.three 8252 (.of 400) (.of 400) (.of 400)) [(12294, 3, 3), (4107, 4, 4), (7, 6, 6)] = true := by kernel_rfl
set_option maxRecDepth 100000 in
theorem c4_3_5 : chkR (anyDrew false ls65) dR (.three 8252 (.of 400) (.of 400) (.of 400)) [(12294, 5, 5), (4101, 3, 3), (7, 4, 4)] = true := by kernel_rfl
set_option maxRecDepth 100000 in
theorem c5_4_3 : chkR (anyDrew false ls99) dR (.three 8252 (.of 400) (.of 400) (.of 400)) [(12294, 3, 3), (4103, 4, 4), (7, 5, 5)] = true := by kernel_rfl
set_option maxRecDepth 100000 in
theorem c6_2_4 : chkR (anyDrew false ls130) dR (.three 8252 (.of 400) (.of 400) (.of 400)) [(12294, 4, 4), (4107, 2, 2), (7, 6, 6)] = true := by kernel_rfl
set_option maxRecDepth 100000 in
theorem c6_6_0 : chkR (anyDrew false ls150) dR (.three 8252 (.of 400) (.of 400) (.of 400)) [(12294, 0, 0), (4107, 6, 6), (7, 6, 6)] = true := by kernel_rfl
set_option maxRecDepth 100000 in
theorem c5_1_5 : chkR (anyDrew false ls83) dR (.three 8252 (.of 400) (.of 400) (.of 400)) [(12294, 5, 5), (4103, 1, 1), (7, 5, 5)] = true := by kernel_rfl
set_option maxRecDepth 100000 in
theorem c5_5_1 : chkR (anyDrew false ls103) dR (.three 8252 (.of 400) (.of 400) (.of 400)) [(12294, 1, 1), (4103, 5, 5), (7, 5, 5)] = true := by kernel_rfl
set_option maxRecDepth 100000 in
theorem c6_2_3 : chkR (anyDrew false ls129) dR (.three 8252 (.of 400) (.of 400) (.of 400)) [(12294, 3, 3), (4107, 2, 2), (7, 6, 6)] = true := by kernel_rfl
set_option maxRecDepth 100000 in
theorem c3_2_5 : chkR (anyDrew false ls41) dR (.three 8252 (.of 400) (.of 400) (.of 400)) [(12294, 5, 5), (4099, 2, 2), (7, 3, 3)] = true := by kernel_rfl
set_option maxRecDepth 100000 in
theorem c4_4_2 : chkR (anyDrew false ls68) dR (.three 8252 (.of 400) (.of 400) (.of 400)) [(12294, 2, 2), (4101, 4, 4), (7, 4, 4)] = true := by kernel_rfl
set_option maxRecDepth 100000 in
theorem c5_3_2 : chkR (anyDrew false ls92) dR (.three 8252 (.of 400) (.of 400) (.of 400)) [(12294, 2, 2), (4103, 3, 3), (7, 5, 5)] = true := by kernel_rfl
set_option maxRecDepth 100000 in
theorem c6_1_3 : chkR (anyDrew false ls123) dR (.three 8252 (.of 400) (.of 400) (.of 400)) [(12294, 3, 3), (4107, 1, 1), (7, 6, 6)] = true := by kernel_rfl
set_option maxRecDepth 100000 in
theorem c3_1_5 : chkR (anyDrew false ls35) dR (.three 8252 (.of 400) (.of 400) (.of 400)) [(12294, 5, 5), (4099, 1, 1), (7, 3, 3)] = true := by kernel_rfl
set_option maxRecDepth 100000 in
theorem c4_2_3 : chkR (anyDrew false ls57) dR (.three 8252 (.of 400) (.of 400) (.of 400)) [(12294, 3, 3), (4101, 2, 2), (7, 4, 4)] = true := by kernel_rfl
set_option maxRecDepth 100000 in
theorem c5_1_3 : chkR (anyDrew false ls81) dR (.three 8252 (.of 400) (.of 400) (.of 400)) [(12294, 3, 3), (4103, 1, 1), (7, 5, 5)] = true := by kernel_rfl
set_option maxRecDepth 100000 in
theorem c6_0_3 : chkR (anyDrew false ls117) dR (.three 8252 (.of 400) (.of 400) (.of 400)) [(12294, 3, 3), (4107, 0, 0), (7, 6, 6)] = true := by kernel_rfl
set_option maxRecDepth 100000 in
theorem c2_1_5 : chkR (anyDrew false ls23) dR (.three 8252 (.of 400) (.of 400) (.of 400)) [(12294, 5, 5), (4098, 1, 1), (7, 2, 2)] = true := by kernel_rfl
set_option maxRecDepth 100000 in
theorem c4_0_4 : chkR (anyDrew false ls46) dR (.three 8252 (.of 400) (.of 400) (.of 400)) [(12294, 4, 4), (4101, 0, 0), (7, 4, 4)] = true := by kernel_rfl
set_option maxRecDepth 100000 in
theorem c4_4_0 : chkR (anyDrew false ls66) dR (.three 8252 (.of 400) (.of 400) (.of 400)) [(12294, 0, 0), (4101, 4, 4), (7, 4, 4)] = true := by kernel_rfl
set_option maxRecDepth 100000 in
theorem c5_3_0 : chkR (anyDrew false ls90) dR (.three 8252 (.of 400) (.of 400) (.of 400)) [(12294, 0, 0), (4103, 3, 3), (7, 5, 5)] = true := by kernel_rfl
set_option maxRecDepth 100000 in
theorem c2_0_5 : chkR (anyDrew false ls17) dR (.three 8252 (.of 400) (.of 400) (.of 400)) [(12294, 5, 5), (4098, 0, 0), (7, 2, 2)] = true := by kernel_rfl
set_option maxRecDepth 100000 in
theorem c3_2_2 : chkR (anyDrew false ls38) dR (.three 8252 (.of 400) (.of 400) (.of 400)) [(12294, 2, 2), (4099, 2, 2), (7, 3, 3)] = true := by kernel_rfl
set_option maxRecDepth 100000 in
theorem c4_3_0 : chkR (anyDrew false ls60) dR (.three 8252 (.of 400) (.of 400) (.of 400)) [(12294, 0, 0), (4101, 3, 3), (7, 4, 4)] = true := by kernel_rfl
set_option maxRecDepth 100000 in
theorem c6_0_1 : chkR (anyDrew false ls115) dR (.three 8252 (.of 400) (.of 400) (.of 400)) [(12294, 1, 1), (4107, 0, 0), (7, 6, 6)] = true := by kernel_rfl
set_option maxRecDepth 100000 in
theorem c2_1_3 : chkR (anyDrew false ls21) dR (.three 8252 (.of 400) (.of 400) (.of 400)) [(12294, 3, 3), (4098, 1, 1), (7, 2, 2)] = true := by kernel_rfl
set_option maxRecDepth 100000 in
theorem c4_0_2 : chkR (anyDrew false ls44) dR (.three 8252 (.of 400) (.of 400) (.of 400)) [(12294, 2, 2), (4101, 0, 0), (7, 4, 4)] = true := by kernel_rfl
set_option maxRecDepth 100000 in
theorem c5_1_0 : chkR (anyDrew false ls78) dR (.three 8252 (.of 400) (.of 400) (.of 400)) [(12294, 0, 0), (4103, 1, 1), (7, 5, 5)] = true := by kernel_rfl
set_option maxRecDepth 100000 in
theorem c2_0_3 : chkR (anyDrew false ls15) dR (.three 8252 (.of 400) (.of 400) (.of 400)) [(12294, 3, 3), (4098, 0, 0), (7, 2, 2)] = true := by kernel_rfl
set_option maxRecDepth 100000 in
theorem c3_2_0 : chkR (anyDrew false ls36) dR (.three 8252 (.of 400) (.of 400) (.of 400)) [(12294, 0, 0), (4099, 2, 2), (7, 3, 3)] = true := by kernel_rfl
set_option maxRecDepth 100000 in
theorem c0_0_4 : chkR (anyDrew false ls4) dR (.three 8252 (.of 400) (.of 400) (.of 400)) [(12294, 4, 4), (7, 0, 0)] = true := by kernel_rfl
set_option maxRecDepth 100000 in
theorem c3_0_1 : chkR (anyDrew false ls25) dR (.three 8252 (.of 400) (.of 400) (.of 400)) [(12294, 1, 1), (4099, 0, 0), (7, 3, 3)] = true := by kernel_rfl
set_option maxRecDepth 100000 in
theorem c1_0_2 : chkR (anyDrew false ls8) dR (.three 8252 (.of 400) (.of 400) (.of 400)) [(12294, 2, 2), (7, 1, 1)] = true := by kernel_rfl
set_option maxRecDepth 100000 in
theorem c0_0_2 : chkR (anyDrew false ls2) dR (.three 8252 (.of 400) (.of 400) (.of 400)) [(12294, 2, 2), (7, 0, 0)] = true := by kernel_rfl
set_option maxRecDepth 100000 in
theorem c1_0_0 : chkR (anyDrew false ls6) dR (.three 8252 (.of 400) (.of 400) (.of 400)) [(12294, 0, 0), (7, 1, 1)] = true := by kernel_rfl
end Go.Proofs.Ythcdiaahpodkoab.waysDrawn
