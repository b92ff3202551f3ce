/- Runs of the program at a seat. -/
import Derived.Test.YthcdiaahpodkoaaPair3H
namespace Go.Proofs.Ythcdiaahpodkoaa.pair3Drawn
open Go Go.Eng
set_option linter.unusedVariables false
set_option linter.unusedSectionVars false
set_option linter.unusedSimpArgs false
set_option maxRecDepth 100000 in
theorem c6_9_1000 : chkR (anyDrew false ls28) dR1000 (.two 8212 (.part 12295 fun _ => .three 20540 (.of 400) (.of 400) (.of 400)) (.of 400)) [(4107, 9, 9), (7, 6, 6)] = true := by kernel_rfl
set_option maxRecDepth 100000 in
theorem c6_9_1001 : chkR (anyDrew false ls28) dR1001 (.two 8212 (.part 12295 fun _ => .three 20540 (.of 400) (.of 400) (.of 400)) (.of 400)) [(4107, 9, 9), (7, 6, 6)] = true := by kernel_rfl
set_option maxRecDepth 100000 in
theorem c5_6_1000 : chkR (anyDrew false ls18) dR1000 (.two 8212 (.part 12295 fun _ => .three 20540 (.of 400) (.of 400) (.of 400)) (.of 400)) [(4103, 6, 6), (7, 5, 5)] = true := by kernel_rfl
set_option maxRecDepth 100000 in
theorem c5_6_1001 : chkR (anyDrew false ls18) dR1001 (.two 8212 (.part 12295 fun _ => .three 20540 (.of 400) (.of 400) (.of 400)) (.of 400)) [(4103, 6, 6), (7, 5, 5)] = true := by kernel_rfl
set_option maxRecDepth 100000 in
theorem c5_4_1000 : chkR (anyDrew false ls16) dR1000 (.two 8212 (.part 12295 fun _ => .three 20540 (.of 400) (.of 400) (.of 400)) (.of 400)) [(4103, 4, 4), (7, 5, 5)] = true := by kernel_rfl
set_option maxRecDepth 100000 in
theorem c5_4_1001 : chkR (anyDrew false ls16) dR1001 (.two 8212 (.part 12295 fun _ => .three 20540 (.of 400) (.of 400) (.of 400)) (.of 400)) [(4103, 4, 4), (7, 5, 5)] = true := by kernel_rfl
set_option maxRecDepth 100000 in
theorem c6_2_1000 : chkR (anyDrew false ls21) dR1000 (.two 8212 (.part 12295 fun _ => .three 20540 (.of 400) (.of 400) (.of 400)) (.of 400)) [(4107, 2, 2), (7, 6, 6)] = true := by kernel_rfl
set_option maxRecDepth 100000 in
theorem c6_2_1001 : chkR (anyDrew false ls21) dR1001 (.two 8212 (.part 12295 fun _ => .three 20540 (.of 400) (.of 400) (.of 400)) (.of 400)) [(4107, 2, 2), (7, 6, 6)] = true := by kernel_rfl
set_option maxRecDepth 100000 in
theorem c4_2_1000 : chkR (anyDrew false ls9) dR1000 (.two 8212 (.part 12295 fun _ => .three 20540 (.of 400) (.of 400) (.of 400)) (.of 400)) [(4101, 2, 2), (7, 4, 4)] = true := by kernel_rfl
set_option maxRecDepth 100000 in
theorem c4_2_1001 : chkR (anyDrew false ls9) dR1001 (.two 8212 (.part 12295 fun _ => .three 20540 (.of 400) (.of 400) (.of 400)) (.of 400)) [(4101, 2, 2), (7, 4, 4)] = true := by kernel_rfl
set_option maxRecDepth 100000 in
theorem c4_1_1000 : chkR (anyDrew false ls8) dR1000 (.two 8212 (.part 12295 fun _ => .three 20540 (.of 400) (.of 400) (.of 400)) (.of 400)) [(4101, 1, 1), (7, 4, 4)] = true := by kernel_rfl
set_option maxRecDepth 100000 in
theorem c4_1_1001 : chkR (anyDrew false ls8) dR1001 (.two 8212 (.part 12295 fun _ => .three 20540 (.of 400) (.of 400) (.of 400)) (.of 400)) [(4101, 1, 1), (7, 4, 4)] = true := by kernel_rfl
set_option maxRecDepth 100000 in
theorem c2_1_1000 : chkR (anyDrew false ls3) dR1000 (.two 8212 (.part 12295 fun _ => .three 20540 (.of 400) (.of 400) (.of 400)) (.of 400)) [(4098, 1, 1), (7, 2, 2)] = true := by kernel_rfl
set_option maxRecDepth 100000 in
theorem c2_1_1001 : chkR (anyDrew false ls3) dR1001 (.two 8212 (.part 12295 fun _ => .three 20540 (.of 400) (.of 400) (.of 400)) (.of 400)) [(4098, 1, 1), (7, 2, 2)] = true := by kernel_rfl
set_option maxRecDepth 100000 in
theorem c0_0_1000 : chkR (anyDrew false ls0) dR1000 (.two 8212 (.part 12295 fun _ => .three 20540 (.of 400) (.of 400) (.of 400)) (.of 400)) [(7, 0, 0)] = true := by kernel_rfl
set_option maxRecDepth 100000 in
theorem c0_0_1001 : chkR (anyDrew false ls0) dR1001 (.two 8212 (.part 12295 fun _ => .three 20540 (.of 400) (.of 400) (.of 400)) (.of 400)) [(7, 0, 0)] = true := by kernel_rfl
end Go.Proofs.Ythcdiaahpodkoaa.pair3Drawn
