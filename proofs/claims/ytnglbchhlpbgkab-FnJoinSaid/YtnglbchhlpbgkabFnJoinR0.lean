/- Runs of the program at a seat. -/
import Derived.Test.YtnglbchhlpbgkabFnJoinP
namespace Go.Proofs.Ytnglbchhlpbgkab.fnJoinRuns
open Go Go.Eng
set_option linter.unusedVariables false
set_option linter.unusedSectionVars false
set_option linter.unusedSimpArgs false
set_option maxRecDepth 100000
open Go.Proofs.Ytnglbchhlpbgkab.joinDrawn
theorem r_d0 : run d0 = true := by kernel_rfl
theorem r_d3 : run d3 = true := by kernel_rfl
theorem r_d6 : run d6 = true := by kernel_rfl
theorem r_d9 : run d9 = true := by kernel_rfl
theorem r_d12 : run d12 = true := by kernel_rfl
theorem r_d15 : run d15 = true := by kernel_rfl
theorem r_d18 : run d18 = true := by kernel_rfl
theorem r_d21 : run d21 = true := by kernel_rfl
theorem r_d24 : run d24 = true := by kernel_rfl
theorem r_d27 : run d27 = true := by kernel_rfl
theorem r_d30 : run d30 = true := by kernel_rfl
theorem r_d33 : run d33 = true := by kernel_rfl
theorem r_d36 : run d36 = true := by kernel_rfl
theorem r_d39 : run d39 = true := by kernel_rfl
theorem r_d42 : run d42 = true := by kernel_rfl
theorem r_d45 : run d45 = true := by kernel_rfl
theorem r_d48 : run d48 = true := by kernel_rfl
theorem r_d51 : run d51 = true := by kernel_rfl
theorem r_d54 : run d54 = true := by kernel_rfl
theorem r_d57 : run d57 = true := by kernel_rfl
theorem r_d60 : run d60 = true := by kernel_rfl
theorem r_d63 : run d63 = true := by kernel_rfl
theorem r_d66 : run d66 = true := by kernel_rfl
theorem r_d69 : run d69 = true := by kernel_rfl
theorem r_d72 : run d72 = true := by kernel_rfl
theorem r_d75 : run d75 = true := by kernel_rfl
theorem r_d78 : run d78 = true := by kernel_rfl
theorem r_d81 : run d81 = true := by kernel_rfl
theorem r_d84 : run d84 = true := by kernel_rfl
theorem r_d87 : run d87 = true := by kernel_rfl
theorem r_d90 : run d90 = true := by kernel_rfl
theorem r_d93 : run d93 = true := by kernel_rfl
theorem r_d96 : run d96 = true := by kernel_rfl
theorem r_d99 : run d99 = true := by kernel_rfl
theorem r_d102 : run d102 = true := by kernel_rfl
theorem r_d105 : run d105 = true := by kernel_rfl
theorem r_d108 : run d108 = true := by kernel_rfl
theorem r_d111 : run d111 = true := by kernel_rfl
theorem r_d114 : run d114 = true := by kernel_rfl
theorem r_d117 : run d117 = true := by kernel_rfl
theorem r_d120 : run d120 = true := by kernel_rfl
theorem r_d123 : run d123 = true := by kernel_rfl
end Go.Proofs.Ytnglbchhlpbgkab.fnJoinRuns
