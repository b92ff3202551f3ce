/- Runs of the program at a seat. -/
import Derived.Test.YtnglbchhlpbgkabFnSignP
namespace Go.Proofs.Ytnglbchhlpbgkab.fnSignRuns
open Go Go.Eng
set_option linter.unusedVariables false
set_option linter.unusedSectionVars false
set_option linter.unusedSimpArgs false
set_option maxRecDepth 100000
open Go.Proofs.Ytnglbchhlpbgkab.oneDrawn
theorem r_d2 : run d2 = true := by kernel_rfl
theorem r_d5 : run d5 = true := by kernel_rfl
theorem r_d8 : run d8 = true := by kernel_rfl
theorem r_d11 : run d11 = true := by kernel_rfl
theorem r_d14 : run d14 = true := by kernel_rfl
theorem r_d17 : run d17 = true := by kernel_rfl
theorem r_d20 : run d20 = true := by kernel_rfl
theorem r_d23 : run d23 = true := by kernel_rfl
theorem r_d26 : run d26 = true := by kernel_rfl
theorem r_d29 : run d29 = true := by kernel_rfl
end Go.Proofs.Ytnglbchhlpbgkab.fnSignRuns
