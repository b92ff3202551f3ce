/- Runs of the program at a seat. -/
import Derived.Test.YtnobdifmnoehbabRootofH
namespace Go.Proofs.Ytnobdifmnoehbab.rootofDrawn
open Go Go.Eng
set_option linter.unusedVariables false
set_option linter.unusedSectionVars false
set_option linter.unusedSimpArgs false
set_option maxRecDepth 100000 in
theorem c4 : chkR (anyDrew true ls4) dR (.part 4099 fun wd => .pts (jsQ 2 wd 4) (.three 24636 (.of 400) (.of 400) (.of 400))) [(6, 4, 4)] = true := by kernel_rfl
set_option maxRecDepth 100000 in
theorem c2 : chkR (anyDrew true ls2) dR (.part 4099 fun wd => .pts (jsQ 2 wd 2) (.three 16444 (.of 400) (.of 400) (.of 400))) [(6, 2, 2)] = true := by kernel_rfl
set_option maxRecDepth 100000 in
theorem c0 : chkR (anyDrew true ls0) dR (.part 4099 fun wd => .pts (jsQ 2 wd 0) (.three 8252 (.of 400) (.of 400) (.of 400))) [(6, 0, 0)] = true := by kernel_rfl
end Go.Proofs.Ytnobdifmnoehbab.rootofDrawn
