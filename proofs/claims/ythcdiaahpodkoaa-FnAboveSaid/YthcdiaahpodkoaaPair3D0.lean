/- Runs of the program at a seat. -/
import Derived.Test.YthcdiaahpodkoaaPair3H
namespace Go.Proofs.Ythcdiaahpodkoaa.pair3Drawn
open Go Go.Eng
set_option linter.unusedVariables false
set_option linter.unusedSectionVars false
set_option linter.unusedSimpArgs false
set_option maxRecDepth 100000 in
theorem c6_10_1000 : chkR (anyDrew false ls29) dR1000 (.two 8212 (.part 12295 fun _ => .three 20540 (.of 400) (.of 400) (.of 400)) (.of 400)) [(4107, 10, 10), (7, 6, 6)] = true := by kernel_rfl
set_option maxRecDepth 100000 in
theorem c6_10_1001 : chkR (anyDrew false ls29) dR1001 (.two 8212 (.part 12295 fun _ => .three 20540 (.of 400) (.of 400) (.of 400)) (.of 400)) [(4107, 10, 10), (7, 6, 6)] = true := by kernel_rfl
set_option maxRecDepth 100000 in
theorem c6_6_1000 : chkR (anyDrew false ls25) dR1000 (.two 8212 (.part 12295 fun _ => .three 20540 (.of 400) (.of 400) (.of 400)) (.of 400)) [(4107, 6, 6), (7, 6, 6)] = true := by kernel_rfl
set_option maxRecDepth 100000 in
theorem c6_6_1001 : chkR (anyDrew false ls25) dR1001 (.two 8212 (.part 12295 fun _ => .three 20540 (.of 400) (.of 400) (.of 400)) (.of 400)) [(4107, 6, 6), (7, 6, 6)] = true := by kernel_rfl
set_option maxRecDepth 100000 in
theorem c6_4_1000 : chkR (anyDrew false ls23) dR1000 (.two 8212 (.part 12295 fun _ => .three 20540 (.of 400) (.of 400) (.of 400)) (.of 400)) [(4107, 4, 4), (7, 6, 6)] = true := by kernel_rfl
set_option maxRecDepth 100000 in
theorem c6_4_1001 : chkR (anyDrew false ls23) dR1001 (.two 8212 (.part 12295 fun _ => .three 20540 (.of 400) (.of 400) (.of 400)) (.of 400)) [(4107, 4, 4), (7, 6, 6)] = true := by kernel_rfl
set_option maxRecDepth 100000 in
theorem c5_3_1000 : chkR (anyDrew false ls15) dR1000 (.two 8212 (.part 12295 fun _ => .three 20540 (.of 400) (.of 400) (.of 400)) (.of 400)) [(4103, 3, 3), (7, 5, 5)] = true := by kernel_rfl
set_option maxRecDepth 100000 in
theorem c5_3_1001 : chkR (anyDrew false ls15) dR1001 (.two 8212 (.part 12295 fun _ => .three 20540 (.of 400) (.of 400) (.of 400)) (.of 400)) [(4103, 3, 3), (7, 5, 5)] = true := by kernel_rfl
set_option maxRecDepth 100000 in
theorem c6_1_1000 : chkR (anyDrew false ls20) dR1000 (.two 8212 (.part 12295 fun _ => .three 20540 (.of 400) (.of 400) (.of 400)) (.of 400)) [(4107, 1, 1), (7, 6, 6)] = true := by kernel_rfl
set_option maxRecDepth 100000 in
theorem c6_1_1001 : chkR (anyDrew false ls20) dR1001 (.two 8212 (.part 12295 fun _ => .three 20540 (.of 400) (.of 400) (.of 400)) (.of 400)) [(4107, 1, 1), (7, 6, 6)] = true := by kernel_rfl
set_option maxRecDepth 100000 in
theorem c3_2_1000 : chkR (anyDrew false ls6) dR1000 (.two 8212 (.part 12295 fun _ => .three 20540 (.of 400) (.of 400) (.of 400)) (.of 400)) [(4099, 2, 2), (7, 3, 3)] = true := by kernel_rfl
set_option maxRecDepth 100000 in
theorem c3_2_1001 : chkR (anyDrew false ls6) dR1001 (.two 8212 (.part 12295 fun _ => .three 20540 (.of 400) (.of 400) (.of 400)) (.of 400)) [(4099, 2, 2), (7, 3, 3)] = true := by kernel_rfl
set_option maxRecDepth 100000 in
theorem c4_0_1000 : chkR (anyDrew false ls7) dR1000 (.two 8212 (.part 12295 fun _ => .three 20540 (.of 400) (.of 400) (.of 400)) (.of 400)) [(4101, 0, 0), (7, 4, 4)] = true := by kernel_rfl
set_option maxRecDepth 100000 in
theorem c4_0_1001 : chkR (anyDrew false ls7) dR1001 (.two 8212 (.part 12295 fun _ => .three 20540 (.of 400) (.of 400) (.of 400)) (.of 400)) [(4101, 0, 0), (7, 4, 4)] = true := by kernel_rfl
set_option maxRecDepth 100000 in
theorem c1_0_1000 : chkR (anyDrew false ls1) dR1000 (.two 8212 (.part 12295 fun _ => .three 20540 (.of 400) (.of 400) (.of 400)) (.of 400)) [(7, 1, 1)] = true := by kernel_rfl
set_option maxRecDepth 100000 in
theorem c1_0_1001 : chkR (anyDrew false ls1) dR1001 (.two 8212 (.part 12295 fun _ => .three 20540 (.of 400) (.of 400) (.of 400)) (.of 400)) [(7, 1, 1)] = true := by kernel_rfl
end Go.Proofs.Ythcdiaahpodkoaa.pair3Drawn
