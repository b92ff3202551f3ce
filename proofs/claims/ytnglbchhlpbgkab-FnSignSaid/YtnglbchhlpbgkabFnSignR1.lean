/- Runs of the program at a seat. -/
import Derived.Test.YtnglbchhlpbgkabFnSignP
namespace Go.Proofs.Ytnglbchhlpbgkab.fnSignRuns
open Go Go.Eng
set_option linter.unusedVariables false
set_option linter.unusedSectionVars false
set_option linter.unusedSimpArgs false
set_option maxRecDepth 100000
open Go.Proofs.Ytnglbchhlpbgkab.oneDrawn
theorem r_d1 : run d1 = true := by kernel_rfl
theorem r_d4 : run d4 = true := by kernel_rfl
theorem r_d7 : run d7 = true := by kernel_rfl
theorem r_d10 : run d10 = true := by kernel_rfl
theorem r_d13 : run d13 = true := by kernel_rfl
theorem r_d16 : run d16 = true := by kernel_rfl
theorem r_d19 : run d19 = true := by kernel_rfl
theorem r_d22 : run d22 = true := by kernel_rfl
theorem r_d25 : run d25 = true := by kernel_rfl
theorem r_d28 : run d28 = true := by kernel_rfl
theorem r_d31 : run d31 = true := by kernel_rfl
end Go.Proofs.Ytnglbchhlpbgkab.fnSignRuns
