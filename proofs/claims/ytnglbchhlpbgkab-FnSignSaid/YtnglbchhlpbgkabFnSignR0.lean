/- Runs of the program at a seat. -/
import Derived.Test.YtnglbchhlpbgkabFnSignP
namespace Go.Proofs.Ytnglbchhlpbgkab.fnSignRuns
open Go Go.Eng
set_option linter.unusedVariables false
set_option linter.unusedSectionVars false
set_option linter.unusedSimpArgs false
set_option maxRecDepth 100000
open Go.Proofs.Ytnglbchhlpbgkab.oneDrawn
theorem r_d0 : run d0 = true := by kernel_rfl
theorem r_d3 : run d3 = true := by kernel_rfl
theorem r_d6 : run d6 = true := by kernel_rfl
theorem r_d9 : run d9 = true := by kernel_rfl
theorem r_d12 : run d12 = true := by kernel_rfl
theorem r_d15 : run d15 = true := by kernel_rfl
theorem r_d18 : run d18 = true := by kernel_rfl
theorem r_d21 : run d21 = true := by kernel_rfl
theorem r_d24 : run d24 = true := by kernel_rfl
theorem r_d27 : run d27 = true := by kernel_rfl
theorem r_d30 : run d30 = true := by kernel_rfl
end Go.Proofs.Ytnglbchhlpbgkab.fnSignRuns
