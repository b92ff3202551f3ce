/- Runs of the program at a seat. -/
import Derived.Test.YtcjemdcffmfloabJoinH
namespace Go.Proofs.Ytcjemdcffmfloab.joinDrawn
open Go Go.Eng
set_option linter.unusedVariables false
set_option linter.unusedSectionVars false
set_option linter.unusedSimpArgs false
set_option maxRecDepth 100000 in
theorem c4_2 : chkR (anyDrew false ls9) dR (.three 8252 (.part 12292 fun _ => .three 20540 (.of 400) (.of 400) (.of 400)) (.part 12292 fun _ => .three 20540 (.of 400) (.of 400) (.of 400)) (.part 12292 fun _ => .three 20540 (.of 400) (.of 400) (.of 400))) [(4101, 2, 2), (5, 4, 4)] = true := by kernel_rfl
set_option maxRecDepth 100000 in
theorem c4_0 : chkR (anyDrew false ls7) dR (.three 8252 (.part 12292 fun _ => .three 20540 (.of 400) (.of 400) (.of 400)) (.part 12292 fun _ => .three 20540 (.of 400) (.of 400) (.of 400)) (.part 12292 fun _ => .three 20540 (.of 400) (.of 400) (.of 400))) [(4101, 0, 0), (5, 4, 4)] = true := by kernel_rfl
set_option maxRecDepth 100000 in
theorem c1_0 : chkR (anyDrew false ls1) dR (.three 8252 (.part 12292 fun _ => .three 20540 (.of 400) (.of 400) (.of 400)) (.part 12292 fun _ => .three 20540 (.of 400) (.of 400) (.of 400)) (.part 12292 fun _ => .three 20540 (.of 400) (.of 400) (.of 400))) [(5, 1, 1)] = true := by kernel_rfl
end Go.Proofs.Ytcjemdcffmfloab.joinDrawn
