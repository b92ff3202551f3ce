/- Runs of the program at a seat. -/
import Derived.Test.YtnglbchhlpbgkabJoinH
namespace Go.Proofs.Ytnglbchhlpbgkab.joinDrawn
open Go Go.Eng
set_option linter.unusedVariables false
set_option linter.unusedSectionVars false
set_option linter.unusedSimpArgs false
set_option maxRecDepth 100000 in
theorem c4_2 : chkR (anyDrew false ls9) dR (.three 8252 (.part 12292 fun _ => .three 20540 (.of 400) (.of 400) (.of 400)) (.part 12292 fun _ => .three 20540 (.of 400) (.of 400) (.of 400)) (.part 12292 fun _ => .three 20540 (.of 400) (.of 400) (.of 400))) [(4101, 2, 2), (5, 4, 4)] = true := by kernel_rfl
set_option maxRecDepth 100000 in
theorem c3_1 : chkR (anyDrew false ls5) dR (.three 8252 (.part 12292 fun _ => .three 20540 (.of 400) (.of 400) (.of 400)) (.part 12292 fun _ => .three 20540 (.of 400) (.of 400) (.of 400)) (.part 12292 fun _ => .three 20540 (.of 400) (.of 400) (.of 400))) [(4099, 1, 1), (5, 3, 3)] = true := by kernel_rfl
set_option maxRecDepth 100000 in
theorem c3_0 : chkR (anyDrew false ls4) dR (.three 8252 (.part 12292 fun _ => .three 20540 (.of 400) (.of 400) (.of 400)) (.part 12292 fun _ => .three 20540 (.of 400) (.of 400) (.of 400)) (.part 12292 fun _ => .three 20540 (.of 400) (.of 400) (.of 400))) [(4099, 0, 0), (5, 3, 3)] = true := by kernel_rfl
set_option maxRecDepth 100000 in
theorem c0_0 : chkR (anyDrew false ls0) dR (.three 8252 (.part 12292 fun _ => .three 20540 (.of 400) (.of 400) (.of 400)) (.part 12292 fun _ => .three 20540 (.of 400) (.of 400) (.of 400)) (.part 12292 fun _ => .three 20540 (.of 400) (.of 400) (.of 400))) [(5, 0, 0)] = true := by kernel_rfl
end Go.Proofs.Ytnglbchhlpbgkab.joinDrawn
