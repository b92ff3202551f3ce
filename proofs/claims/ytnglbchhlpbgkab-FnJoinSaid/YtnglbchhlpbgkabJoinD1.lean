/- Runs of the program at a seat. -/
import Derived.Test.YtnglbchhlpbgkabJoinH
namespace Go.Proofs.Ytnglbchhlpbgkab.joinDrawn
open Go Go.Eng
set_option linter.unusedVariables false
set_option linter.unusedSectionVars false
set_option linter.unusedSimpArgs false
set_option maxRecDepth 100000 in
theorem c4_3 : chkR (anyDrew false ls10) dR (.three 8252 (.part 12292 fun _ => .three 20540 (.of 400) (.of 400) (.of 400)) (.part 12292 fun _ => .three 20540 (.of 400) (.of 400) (.of 400)) (.part 12292 fun _ => .three 20540 (.of 400) (.of 400) (.of 400))) [(4101, 3, 3), (5, 4, 4)] = true := by kernel_rfl
set_option maxRecDepth 100000 in
theorem c4_1 : chkR (anyDrew false ls8) dR (.three 8252 (.part 12292 fun _ => .three 20540 (.of 400) (.of 400) (.of 400)) (.part 12292 fun _ => .three 20540 (.of 400) (.of 400) (.of 400)) (.part 12292 fun _ => .three 20540 (.of 400) (.of 400) (.of 400))) [(4101, 1, 1), (5, 4, 4)] = true := by kernel_rfl
set_option maxRecDepth 100000 in
theorem c2_1 : chkR (anyDrew false ls3) dR (.three 8252 (.part 12292 fun _ => .three 20540 (.of 400) (.of 400) (.of 400)) (.part 12292 fun _ => .three 20540 (.of 400) (.of 400) (.of 400)) (.part 12292 fun _ => .three 20540 (.of 400) (.of 400) (.of 400))) [(4098, 1, 1), (5, 2, 2)] = true := by kernel_rfl
set_option maxRecDepth 100000 in
theorem c1_0 : chkR (anyDrew false ls1) dR (.three 8252 (.part 12292 fun _ => .three 20540 (.of 400) (.of 400) (.of 400)) (.part 12292 fun _ => .three 20540 (.of 400) (.of 400) (.of 400)) (.part 12292 fun _ => .three 20540 (.of 400) (.of 400) (.of 400))) [(5, 1, 1)] = true := by kernel_rfl
end Go.Proofs.Ytnglbchhlpbgkab.joinDrawn
