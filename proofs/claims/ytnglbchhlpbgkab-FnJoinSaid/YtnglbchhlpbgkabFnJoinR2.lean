/- Runs of the program at a seat. -/
import Derived.Test.YtnglbchhlpbgkabFnJoinP
namespace Go.Proofs.Ytnglbchhlpbgkab.fnJoinRuns
open Go Go.Eng
set_option linter.unusedVariables false
set_option linter.unusedSectionVars false
set_option linter.unusedSimpArgs false
set_option maxRecDepth 100000
open Go.Proofs.Ytnglbchhlpbgkab.joinDrawn
theorem r_d2 : run d2 = true := by kernel_rfl
theorem r_d5 : run d5 = true := by kernel_rfl
theorem r_d8 : run d8 = true := by kernel_rfl
theorem r_d11 : run d11 = true := by kernel_rfl
theorem r_d14 : run d14 = true := by kernel_rfl
theorem r_d17 : run d17 = true := by kernel_rfl
theorem r_d20 : run d20 = true := by kernel_rfl
theorem r_d23 : run d23 = true := by kernel_rfl
theorem r_d26 : run d26 = true := by kernel_rfl
theorem r_d29 : run d29 = true := by kernel_rfl
theorem r_d32 : run d32 = true := by kernel_rfl
theorem r_d35 : run d35 = true := by kernel_rfl
theorem r_d38 : run d38 = true := by kernel_rfl
theorem r_d41 : run d41 = true := by kernel_rfl
theorem r_d44 : run d44 = true := by kernel_rfl
theorem r_d47 : run d47 = true := by kernel_rfl
theorem r_d50 : run d50 = true := by kernel_rfl
theorem r_d53 : run d53 = true := by kernel_rfl
theorem r_d56 : run d56 = true := by kernel_rfl
theorem r_d59 : run d59 = true := by kernel_rfl
theorem r_d62 : run d62 = true := by kernel_rfl
theorem r_d65 : run d65 = true := by kernel_rfl
theorem r_d68 : run d68 = true := by kernel_rfl
theorem r_d71 : run d71 = true := by kernel_rfl
theorem r_d74 : run d74 = true := by kernel_rfl
theorem r_d77 : run d77 = true := by kernel_rfl
theorem r_d80 : run d80 = true := by kernel_rfl
theorem r_d83 : run d83 = true := by kernel_rfl
theorem r_d86 : run d86 = true := by kernel_rfl
theorem r_d89 : run d89 = true := by kernel_rfl
theorem r_d92 : run d92 = true := by kernel_rfl
theorem r_d95 : run d95 = true := by kernel_rfl
theorem r_d98 : run d98 = true := by kernel_rfl
theorem r_d101 : run d101 = true := by kernel_rfl
theorem r_d104 : run d104 = true := by kernel_rfl
theorem r_d107 : run d107 = true := by kernel_rfl
theorem r_d110 : run d110 = true := by kernel_rfl
theorem r_d113 : run d113 = true := by kernel_rfl
theorem r_d116 : run d116 = true := by kernel_rfl
theorem r_d119 : run d119 = true := by kernel_rfl
theorem r_d122 : run d122 = true := by kernel_rfl
theorem r_d125 : run d125 = true := by kernel_rfl
end Go.Proofs.Ytnglbchhlpbgkab.fnJoinRuns
