/- Runs of the program at a seat. -/
import Derived.Test.YtnglbchhlpbgkabJoinH
namespace Go.Proofs.Ytnglbchhlpbgkab.joinDrawn
open Go Go.Eng
set_option linter.unusedVariables false
set_option linter.unusedSectionVars false
set_option linter.unusedSimpArgs false
set_option maxRecDepth 100000 in
theorem c4_4 : chkR (anyDrew false ls11) dR (.three 8252 (.part 12292 fun _ => .three 20540 (.of 400) (.of 400) (.of 400)) (.part 12292 fun _ => .three 20540 (.of 400) (.of 400) (.of 400)) (.part 12292 fun _ => .three 20540 (.of 400) (.of 400) (.of 400))) [(4101, 4, 4), (5, 4, 4)] = true := by kernel_rfl
set_option maxRecDepth 100000 in
theorem c3_2 : chkR (anyDrew false ls6) dR (.three 8252 (.part 12292 fun _ => .three 20540 (.of 400) (.of 400) (.of 400)) (.part 12292 fun _ => .three 20540 (.of 400) (.of 400) (.of 400)) (.part 12292 fun _ => .three 20540 (.of 400) (.of 400) (.of 400))) [(4099, 2, 2), (5, 3, 3)] = true := by kernel_rfl
set_option maxRecDepth 100000 in
theorem c4_0 : chkR (anyDrew false ls7) dR (.three 8252 (.part 12292 fun _ => .three 20540 (.of 400) (.of 400) (.of 400)) (.part 12292 fun _ => .three 20540 (.of 400) (.of 400) (.of 400)) (.part 12292 fun _ => .three 20540 (.of 400) (.of 400) (.of 400))) [(4101, 0, 0), (5, 4, 4)] = true := by kernel_rfl
set_option maxRecDepth 100000 in
theorem c2_0 : chkR (anyDrew false ls2) dR (.three 8252 (.part 12292 fun _ => .three 20540 (.of 400) (.of 400) (.of 400)) (.part 12292 fun _ => .three 20540 (.of 400) (.of 400) (.of 400)) (.part 12292 fun _ => .three 20540 (.of 400) (.of 400) (.of 400))) [(4098, 0, 0), (5, 2, 2)] = true := by kernel_rfl
end Go.Proofs.Ytnglbchhlpbgkab.joinDrawn
