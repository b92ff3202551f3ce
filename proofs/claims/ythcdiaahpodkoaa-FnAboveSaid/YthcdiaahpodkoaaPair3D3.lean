/- Runs of the program at a seat. -/
import Derived.Test.YthcdiaahpodkoaaPair3H
namespace Go.Proofs.Ythcdiaahpodkoaa.pair3Drawn
open Go Go.Eng
set_option linter.unusedVariables false
set_option linter.unusedSectionVars false
set_option linter.unusedSimpArgs false
set_option maxRecDepth 100000 in
theorem c6_7_1000 : chkR (anyDrew false ls26) dR1000 (.two 8212 (.part 12295 fun _ => .three 20540 (.of 400) (.of 400) (.of 400)) (.of 400)) [(4107, 7, 7), (7, 6, 6)] = true := by kernel_rfl
set_option maxRecDepth 100000 in
theorem c6_7_1001 : chkR (anyDrew false ls26) dR1001 (.two 8212 (.part 12295 fun _ => .three 20540 (.of 400) (.of 400) (.of 400)) (.of 400)) [(4107, 7, 7), (7, 6, 6)] = true := by kernel_rfl
set_option maxRecDepth 100000 in
theorem c5_5_1000 : chkR (anyDrew false ls17) dR1000 (.two 8212 (.part 12295 fun _ => .three 20540 (.of 400) (.of 400) (.of 400)) (.of 400)) [(4103, 5, 5), (7, 5, 5)] = true := by kernel_rfl
set_option maxRecDepth 100000 in
theorem c5_5_1001 : chkR (anyDrew false ls17) dR1001 (.two 8212 (.part 12295 fun _ => .three 20540 (.of 400) (.of 400) (.of 400)) (.of 400)) [(4103, 5, 5), (7, 5, 5)] = true := by kernel_rfl
set_option maxRecDepth 100000 in
theorem c4_4_1000 : chkR (anyDrew false ls11) dR1000 (.two 8212 (.part 12295 fun _ => .three 20540 (.of 400) (.of 400) (.of 400)) (.of 400)) [(4101, 4, 4), (7, 4, 4)] = true := by kernel_rfl
set_option maxRecDepth 100000 in
theorem c4_4_1001 : chkR (anyDrew false ls11) dR1001 (.two 8212 (.part 12295 fun _ => .three 20540 (.of 400) (.of 400) (.of 400)) (.of 400)) [(4101, 4, 4), (7, 4, 4)] = true := by kernel_rfl
set_option maxRecDepth 100000 in
theorem c5_2_1000 : chkR (anyDrew false ls14) dR1000 (.two 8212 (.part 12295 fun _ => .three 20540 (.of 400) (.of 400) (.of 400)) (.of 400)) [(4103, 2, 2), (7, 5, 5)] = true := by kernel_rfl
set_option maxRecDepth 100000 in
theorem c5_2_1001 : chkR (anyDrew false ls14) dR1001 (.two 8212 (.part 12295 fun _ => .three 20540 (.of 400) (.of 400) (.of 400)) (.of 400)) [(4103, 2, 2), (7, 5, 5)] = true := by kernel_rfl
set_option maxRecDepth 100000 in
theorem c6_0_1000 : chkR (anyDrew false ls19) dR1000 (.two 8212 (.part 12295 fun _ => .three 20540 (.of 400) (.of 400) (.of 400)) (.of 400)) [(4107, 0, 0), (7, 6, 6)] = true := by kernel_rfl
set_option maxRecDepth 100000 in
theorem c6_0_1001 : chkR (anyDrew false ls19) dR1001 (.two 8212 (.part 12295 fun _ => .three 20540 (.of 400) (.of 400) (.of 400)) (.of 400)) [(4107, 0, 0), (7, 6, 6)] = true := by kernel_rfl
set_option maxRecDepth 100000 in
theorem c3_1_1000 : chkR (anyDrew false ls5) dR1000 (.two 8212 (.part 12295 fun _ => .three 20540 (.of 400) (.of 400) (.of 400)) (.of 400)) [(4099, 1, 1), (7, 3, 3)] = true := by kernel_rfl
set_option maxRecDepth 100000 in
theorem c3_1_1001 : chkR (anyDrew false ls5) dR1001 (.two 8212 (.part 12295 fun _ => .three 20540 (.of 400) (.of 400) (.of 400)) (.of 400)) [(4099, 1, 1), (7, 3, 3)] = true := by kernel_rfl
set_option maxRecDepth 100000 in
theorem c2_0_1000 : chkR (anyDrew false ls2) dR1000 (.two 8212 (.part 12295 fun _ => .three 20540 (.of 400) (.of 400) (.of 400)) (.of 400)) [(4098, 0, 0), (7, 2, 2)] = true := by kernel_rfl
set_option maxRecDepth 100000 in
theorem c2_0_1001 : chkR (anyDrew false ls2) dR1001 (.two 8212 (.part 12295 fun _ => .three 20540 (.of 400) (.of 400) (.of 400)) (.of 400)) [(4098, 0, 0), (7, 2, 2)] = true := by kernel_rfl
end Go.Proofs.Ythcdiaahpodkoaa.pair3Drawn
