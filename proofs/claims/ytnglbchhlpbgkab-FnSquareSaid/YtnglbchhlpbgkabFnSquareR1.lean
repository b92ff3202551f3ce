/- Runs of the program at a seat. -/
import Derived.Test.YtnglbchhlpbgkabFnSquareP
namespace Go.Proofs.Ytnglbchhlpbgkab.fnSquareRuns
open Go Go.Eng
set_option linter.unusedVariables false
set_option linter.unusedSectionVars false
set_option linter.unusedSimpArgs false
set_option maxRecDepth 100000
open Go.Proofs.Ytnglbchhlpbgkab.squareDrawn
theorem r_d1 : run d1 = true := by kernel_rfl
theorem r_d4 : run d4 = true := by kernel_rfl
theorem r_d7 : run d7 = true := by kernel_rfl
theorem r_d10 : run d10 = true := by kernel_rfl
end Go.Proofs.Ytnglbchhlpbgkab.fnSquareRuns
