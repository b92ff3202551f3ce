/- Runs of the program at a seat. -/
import Derived.Test.YtnglbchhlpbgkabFnSquareP
namespace Go.Proofs.Ytnglbchhlpbgkab.fnSquareRuns
open Go Go.Eng
set_option linter.unusedVariables false
set_option linter.unusedSectionVars false
set_option linter.unusedSimpArgs false
set_option maxRecDepth 100000
open Go.Proofs.Ytnglbchhlpbgkab.squareDrawn
theorem r_d0 : run d0 = true := by kernel_rfl
theorem r_d3 : run d3 = true := by kernel_rfl
theorem r_d6 : run d6 = true := by kernel_rfl
theorem r_d9 : run d9 = true := by kernel_rfl
theorem r_d12 : run d12 = true := by kernel_rfl
end Go.Proofs.Ytnglbchhlpbgkab.fnSquareRuns
