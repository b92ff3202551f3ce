/- Runs of the program at a seat. -/
import Derived.Test.YtnglbchhlpbgkabPureH
namespace Go.Proofs.Ytnglbchhlpbgkab.pureDrawn
open Go Go.Eng
set_option linter.unusedVariables false
set_option linter.unusedSectionVars false
set_option linter.unusedSimpArgs false
set_option maxRecDepth 100000 in
theorem cq0 : chkR (anyDrew true ls0) dR (pointQ 1 5) [(3, 0, 0)] = true := by kernel_rfl
end Go.Proofs.Ytnglbchhlpbgkab.pureDrawn
