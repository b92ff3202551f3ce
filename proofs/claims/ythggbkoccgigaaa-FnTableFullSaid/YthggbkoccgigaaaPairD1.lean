/- Runs of the program at a seat. -/
import Derived.Test.YthggbkoccgigaaaPairH
namespace Go.Proofs.Ythggbkoccgigaaa.pairDrawn
open Go Go.Eng
set_option linter.unusedVariables false
set_option linter.unusedSectionVars false
set_option linter.unusedSimpArgs false
set_option maxRecDepth 100000 in
theorem c6_9 : chkR (anyDrew false ls28) dR (.two 8212 (.part 12295 fun _ => .three 20540 (.of 400) (.of 400) (.of 400)) (.of 400)) [(4107, 9, 9), (7, 6, 6)] = true := by kernel_rfl
set_option maxRecDepth 100000 in
theorem c5_6 : chkR (anyDrew false ls18) dR (.two 8212 (.part 12295 fun _ => .three 20540 (.of 400) (.of 400) (.of 400)) (.of 400)) [(4103, 6, 6), (7, 5, 5)] = true := by kernel_rfl
set_option maxRecDepth 100000 in
theorem c5_4 : chkR (anyDrew false ls16) dR (.two 8212 (.part 12295 fun _ => .three 20540 (.of 400) (.of 400) (.of 400)) (.of 400)) [(4103, 4, 4), (7, 5, 5)] = true := by kernel_rfl
set_option maxRecDepth 100000 in
theorem c6_2 : chkR (anyDrew false ls21) dR (.two 8212 (.part 12295 fun _ => .three 20540 (.of 400) (.of 400) (.of 400)) (.of 400)) [(4107, 2, 2), (7, 6, 6)] = true := by kernel_rfl
set_option maxRecDepth 100000 in
theorem c4_2 : chkR (anyDrew false ls9) dR (.two 8212 (.part 12295 fun _ => .three 20540 (.of 400) (.of 400) (.of 400)) (.of 400)) [(4101, 2, 2), (7, 4, 4)] = true := by kernel_rfl
set_option maxRecDepth 100000 in
theorem c4_1 : chkR (anyDrew false ls8) dR (.two 8212 (.part 12295 fun _ => .three 20540 (.of 400) (.of 400) (.of 400)) (.of 400)) [(4101, 1, 1), (7, 4, 4)] = true := by kernel_rfl
set_option maxRecDepth 100000 in
theorem c2_1 : chkR (anyDrew false ls3) dR (.two 8212 (.part 12295 fun _ => .three 20540 (.of 400) (.of 400) (.of 400)) (.of 400)) [(4098, 1, 1), (7, 2, 2)] = true := by kernel_rfl
set_option maxRecDepth 100000 in
theorem c0_0 : chkR (anyDrew false ls0) dR (.two 8212 (.part 12295 fun _ => .three 20540 (.of 400) (.of 400) (.of 400)) (.of 400)) [(7, 0, 0)] = true := by kernel_rfl
end Go.Proofs.Ythggbkoccgigaaa.pairDrawn
