/- Runs of the program at a seat. -/
import Derived.Test.YtnglbchhlpbgkabFnSquareP
namespace Go.Proofs.Ytnglbchhlpbgkab.fnSquareRuns
open Go Go.Eng
set_option linter.unusedVariables false
set_option linter.unusedSectionVars false
set_option linter.unusedSimpArgs false
set_option maxRecDepth 100000
open Go.Proofs.Ytnglbchhlpbgkab.squareDrawn
theorem r_d2 : run d2 = true := by kernel_rfl
theorem r_d5 : run d5 = true := by kernel_rfl
theorem r_d8 : run d8 = true := by kernel_rfl
theorem r_d11 : run d11 = true := by kernel_rfl
end Go.Proofs.Ytnglbchhlpbgkab.fnSquareRuns
