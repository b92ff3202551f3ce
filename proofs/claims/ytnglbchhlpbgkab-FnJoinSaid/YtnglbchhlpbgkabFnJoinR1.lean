/- Runs of the program at a seat. -/
import Derived.Test.YtnglbchhlpbgkabFnJoinP
namespace Go.Proofs.Ytnglbchhlpbgkab.fnJoinRuns
open Go Go.Eng
set_option linter.unusedVariables false
set_option linter.unusedSectionVars false
set_option linter.unusedSimpArgs false
set_option maxRecDepth 100000
open Go.Proofs.Ytnglbchhlpbgkab.joinDrawn
theorem r_d1 : run d1 = true := by kernel_rfl
theorem r_d4 : run d4 = true := by kernel_rfl
theorem r_d7 : run d7 = true := by kernel_rfl
theorem r_d10 : run d10 = true := by kernel_rfl
theorem r_d13 : run d13 = true := by kernel_rfl
theorem r_d16 : run d16 = true := by kernel_rfl
theorem r_d19 : run d19 = true := by kernel_rfl
theorem r_d22 : run d22 = true := by kernel_rfl
theorem r_d25 : run d25 = true := by kernel_rfl
theorem r_d28 : run d28 = true := by kernel_rfl
theorem r_d31 : run d31 = true := by kernel_rfl
theorem r_d34 : run d34 = true := by kernel_rfl
theorem r_d37 : run d37 = true := by kernel_rfl
theorem r_d40 : run d40 = true := by kernel_rfl
theorem r_d43 : run d43 = true := by kernel_rfl
theorem r_d46 : run d46 = true := by kernel_rfl
theorem r_d49 : run d49 = true := by kernel_rfl
theorem r_d52 : run d52 = true := by kernel_rfl
theorem r_d55 : run d55 = true := by kernel_rfl
theorem r_d58 : run d58 = true := by kernel_rfl
theorem r_d61 : run d61 = true := by kernel_rfl
theorem r_d64 : run d64 = true := by kernel_rfl
theorem r_d67 : run d67 = true := by kernel_rfl
theorem r_d70 : run d70 = true := by kernel_rfl
theorem r_d73 : run d73 = true := by kernel_rfl
theorem r_d76 : run d76 = true := by kernel_rfl
theorem r_d79 : run d79 = true := by kernel_rfl
theorem r_d82 : run d82 = true := by kernel_rfl
theorem r_d85 : run d85 = true := by kernel_rfl
theorem r_d88 : run d88 = true := by kernel_rfl
theorem r_d91 : run d91 = true := by kernel_rfl
theorem r_d94 : run d94 = true := by kernel_rfl
theorem r_d97 : run d97 = true := by kernel_rfl
theorem r_d100 : run d100 = true := by kernel_rfl
theorem r_d103 : run d103 = true := by kernel_rfl
theorem r_d106 : run d106 = true := by kernel_rfl
theorem r_d109 : run d109 = true := by kernel_rfl
theorem r_d112 : run d112 = true := by kernel_rfl
theorem r_d115 : run d115 = true := by kernel_rfl
theorem r_d118 : run d118 = true := by kernel_rfl
theorem r_d121 : run d121 = true := by kernel_rfl
theorem r_d124 : run d124 = true := by kernel_rfl
end Go.Proofs.Ytnglbchhlpbgkab.fnJoinRuns
