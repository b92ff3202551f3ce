/- Runs of the program at a seat. -/
import Derived.Test.YtnobdifmnoehbabRootofH
namespace Go.Proofs.Ytnobdifmnoehbab.rootofDrawn
open Go Go.Eng
set_option linter.unusedVariables false
set_option linter.unusedSectionVars false
set_option linter.unusedSimpArgs false
set_option maxRecDepth 100000 in
theorem c5 : chkR (anyDrew true ls5) dR (.part 4099 fun wd => .pts (jsQ 2 wd 5) (.three 28732 (.of 400) (.of 400) (.of 400))) [(6, 5, 5)] = true := by kernel_rfl
set_option maxRecDepth 100000 in
theorem c3 : chkR (anyDrew true ls3) dR (.part 4099 fun wd => .pts (jsQ 2 wd 3) (.three 20540 (.of 400) (.of 400) (.of 400))) [(6, 3, 3)] = true := by kernel_rfl
set_option maxRecDepth 100000 in
theorem c1 : chkR (anyDrew true ls1) dR (.part 4099 fun wd => .pts (jsQ 2 wd 1) (.three 12348 (.of 400) (.of 400) (.of 400))) [(6, 1, 1)] = true := by kernel_rfl
end Go.Proofs.Ytnobdifmnoehbab.rootofDrawn
