/- Runs of the program at a seat. -/
import Derived.Test.YtcjemdcffmfloabJoinH
namespace Go.Proofs.Ytcjemdcffmfloab.joinDrawn
open Go Go.Eng
set_option linter.unusedVariables false
set_option linter.unusedSectionVars false
set_option linter.unusedSimpArgs false
set_option maxRecDepth 100000 in
theorem c4_3 : chkR (anyDrew false ls10) dR (.three 8252 (.part 12292 fun _ => .three 20540 (.of 400) (.of 400) (.of 400)) (.part 12292 fun _ => .three 20540 (.of 400) (.of 400) (.of 400)) (.part 12292 fun _ => .three 20540 (.of 400) (.of 400) (.of 400))) [(4101, 3, 3), (5, 4, 4)] = true := by kernel_rfl
set_option maxRecDepth 100000 in
theorem c3_1 : chkR (anyDrew false ls5) dR (.three 8252 (.part 12292 fun _ => .three 20540 (.of 400) (.of 400) (.of 400)) (.part 12292 fun _ => .three 20540 (.of 400) (.of 400) (.of 400)) (.part 12292 fun _ => .three 20540 (.of 400) (.of 400) (.of 400))) [(4099, 1, 1), (5, 3, 3)] = true := by kernel_rfl
set_option maxRecDepth 100000 in
theorem c2_0 : chkR (anyDrew false ls2) dR (.three 8252 (.part 12292 fun _ => .three 20540 (.of 400) (.of 400) (.of 400)) (.part 12292 fun _ => .three 20540 (.of 400) (.of 400) (.of 400)) (.part 12292 fun _ => .three 20540 (.of 400) (.of 400) (.of 400))) [(4098, 0, 0), (5, 2, 2)] = true := by kernel_rfl
end Go.Proofs.Ytcjemdcffmfloab.joinDrawn
