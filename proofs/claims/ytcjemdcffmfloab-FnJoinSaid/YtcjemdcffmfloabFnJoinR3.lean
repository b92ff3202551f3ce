/- Runs of the program at a seat. -/
import Derived.Test.YtcjemdcffmfloabFnJoinP
namespace Go.Proofs.Ytcjemdcffmfloab.fnJoinRuns
open Go Go.Eng
set_option linter.unusedVariables false
set_option linter.unusedSectionVars false
set_option linter.unusedSimpArgs false
set_option maxRecDepth 100000
open Go.Proofs.Ytcjemdcffmfloab.joinDrawn
theorem r_d3 : run d3 = true := by kernel_rfl
theorem r_d7 : run d7 = true := by kernel_rfl
theorem r_d11 : run d11 = true := by kernel_rfl
theorem r_d15 : run d15 = true := by kernel_rfl
theorem r_d19 : run d19 = true := by kernel_rfl
theorem r_d23 : run d23 = true := by kernel_rfl
theorem r_d27 : run d27 = true := by kernel_rfl
theorem r_d31 : run d31 = true := by kernel_rfl
theorem r_d35 : run d35 = true := by kernel_rfl
theorem r_d39 : run d39 = true := by kernel_rfl
theorem r_d43 : run d43 = true := by kernel_rfl
theorem r_d47 : run d47 = true := by kernel_rfl
theorem r_d51 : run d51 = true := by kernel_rfl
theorem r_d55 : run d55 = true := by kernel_rfl
theorem r_d59 : run d59 = true := by kernel_rfl
theorem r_d63 : run d63 = true := by kernel_rfl
theorem r_d67 : run d67 = true := by kernel_rfl
theorem r_d71 : run d71 = true := by kernel_rfl
theorem r_d75 : run d75 = true := by kernel_rfl
theorem r_d79 : run d79 = true := by kernel_rfl
theorem r_d83 : run d83 = true := by kernel_rfl
theorem r_d87 : run d87 = true := by kernel_rfl
theorem r_d91 : run d91 = true := by kernel_rfl
theorem r_d95 : run d95 = true := by kernel_rfl
theorem r_d99 : run d99 = true := by kernel_rfl
theorem r_d103 : run d103 = true := by kernel_rfl
theorem r_d107 : run d107 = true := by kernel_rfl
theorem r_d111 : run d111 = true := by kernel_rfl
theorem r_d115 : run d115 = true := by kernel_rfl
theorem r_d119 : run d119 = true := by kernel_rfl
theorem r_d123 : run d123 = true := by kernel_rfl
end Go.Proofs.Ytcjemdcffmfloab.fnJoinRuns
