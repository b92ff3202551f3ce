/- Runs of the program at a seat. -/
import Derived.Test.YtcjemdcffmfloabFnJoinP
namespace Go.Proofs.Ytcjemdcffmfloab.fnJoinRuns
open Go Go.Eng
set_option linter.unusedVariables false
set_option linter.unusedSectionVars false
set_option linter.unusedSimpArgs false
set_option maxRecDepth 100000
open Go.Proofs.Ytcjemdcffmfloab.joinDrawn
theorem r_d1 : run d1 = true := by kernel_rfl
theorem r_d5 : run d5 = true := by kernel_rfl
theorem r_d9 : run d9 = true := by kernel_rfl
theorem r_d13 : run d13 = true := by kernel_rfl
theorem r_d17 : run d17 = true := by kernel_rfl
theorem r_d21 : run d21 = true := by kernel_rfl
theorem r_d25 : run d25 = true := by kernel_rfl
theorem r_d29 : run d29 = true := by kernel_rfl
theorem r_d33 : run d33 = true := by kernel_rfl
theorem r_d37 : run d37 = true := by kernel_rfl
theorem r_d41 : run d41 = true := by kernel_rfl
theorem r_d45 : run d45 = true := by kernel_rfl
theorem r_d49 : run d49 = true := by kernel_rfl
theorem r_d53 : run d53 = true := by kernel_rfl
theorem r_d57 : run d57 = true := by kernel_rfl
theorem r_d61 : run d61 = true := by kernel_rfl
theorem r_d65 : run d65 = true := by kernel_rfl
theorem r_d69 : run d69 = true := by kernel_rfl
theorem r_d73 : run d73 = true := by kernel_rfl
theorem r_d77 : run d77 = true := by kernel_rfl
theorem r_d81 : run d81 = true := by kernel_rfl
theorem r_d85 : run d85 = true := by kernel_rfl
theorem r_d89 : run d89 = true := by kernel_rfl
theorem r_d93 : run d93 = true := by kernel_rfl
theorem r_d97 : run d97 = true := by kernel_rfl
theorem r_d101 : run d101 = true := by kernel_rfl
theorem r_d105 : run d105 = true := by kernel_rfl
theorem r_d109 : run d109 = true := by kernel_rfl
theorem r_d113 : run d113 = true := by kernel_rfl
theorem r_d117 : run d117 = true := by kernel_rfl
theorem r_d121 : run d121 = true := by kernel_rfl
theorem r_d125 : run d125 = true := by kernel_rfl
end Go.Proofs.Ytcjemdcffmfloab.fnJoinRuns
