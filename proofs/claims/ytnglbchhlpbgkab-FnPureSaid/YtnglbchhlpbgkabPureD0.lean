/- Runs of the program at a seat. -/
import Derived.Test.YtnglbchhlpbgkabPureH
namespace Go.Proofs.Ytnglbchhlpbgkab.pureDrawn
open Go Go.Eng
set_option linter.unusedVariables false
set_option linter.unusedSectionVars false
set_option linter.unusedSimpArgs false
set_option maxRecDepth 100000 in
theorem cq2 : chkR (anyDrew true ls1) dR (pureQ 1 0 5) [(3, 2, 2)] = true := by kernel_rfl
end Go.Proofs.Ytnglbchhlpbgkab.pureDrawn
