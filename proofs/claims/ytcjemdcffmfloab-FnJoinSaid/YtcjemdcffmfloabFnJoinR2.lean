/- Runs of the program at a seat. -/
import Derived.Test.YtcjemdcffmfloabFnJoinP
namespace Go.Proofs.Ytcjemdcffmfloab.fnJoinRuns
open Go Go.Eng
set_option linter.unusedVariables false
set_option linter.unusedSectionVars false
set_option linter.unusedSimpArgs false
set_option maxRecDepth 100000
open Go.Proofs.Ytcjemdcffmfloab.joinDrawn
theorem r_d2 : run d2 = true := by kernel_rfl
theorem r_d6 : run d6 = true := by kernel_rfl
theorem r_d10 : run d10 = true := by kernel_rfl
theorem r_d14 : run d14 = true := by kernel_rfl
theorem r_d18 : run d18 = true := by kernel_rfl
theorem r_d22 : run d22 = true := by kernel_rfl
theorem r_d26 : run d26 = true := by kernel_rfl
theorem r_d30 : run d30 = true := by kernel_rfl
theorem r_d34 : run d34 = true := by kernel_rfl
theorem r_d38 : run d38 = true := by kernel_rfl
theorem r_d42 : run d42 = true := by kernel_rfl
theorem r_d46 : run d46 = true := by kernel_rfl
theorem r_d50 : run d50 = true := by kernel_rfl
theorem r_d54 : run d54 = true := by kernel_rfl
theorem r_d58 : run d58 = true := by kernel_rfl
theorem r_d62 : run d62 = true := by kernel_rfl
theorem r_d66 : run d66 = true := by kernel_rfl
theorem r_d70 : run d70 = true := by kernel_rfl
theorem r_d74 : run d74 = true := by kernel_rfl
theorem r_d78 : run d78 = true := by kernel_rfl
theorem r_d82 : run d82 = true := by kernel_rfl
theorem r_d86 : run d86 = true := by kernel_rfl
theorem r_d90 : run d90 = true := by kernel_rfl
theorem r_d94 : run d94 = true := by kernel_rfl
theorem r_d98 : run d98 = true := by kernel_rfl
theorem r_d102 : run d102 = true := by kernel_rfl
theorem r_d106 : run d106 = true := by kernel_rfl
theorem r_d110 : run d110 = true := by kernel_rfl
theorem r_d114 : run d114 = true := by kernel_rfl
theorem r_d118 : run d118 = true := by kernel_rfl
theorem r_d122 : run d122 = true := by kernel_rfl
end Go.Proofs.Ytcjemdcffmfloab.fnJoinRuns
