/- Runs of the program at a seat. -/
import Derived.Test.YtnglbchhlpbgkabSquareH
namespace Go.Proofs.Ytnglbchhlpbgkab.squareDrawn
open Go Go.Eng
set_option linter.unusedVariables false
set_option linter.unusedSectionVars false
set_option linter.unusedSimpArgs false
set_option maxRecDepth 100000 in
theorem cp : chkR (anyDrew true ls0) dR (pointQ 0 5) [] = true := by kernel_rfl
end Go.Proofs.Ytnglbchhlpbgkab.squareDrawn
