/- Runs of the program at a seat. -/
import Derived.Test.YtcjemdcffmfloabFnJoinP
namespace Go.Proofs.Ytcjemdcffmfloab.fnJoinRuns
open Go Go.Eng
set_option linter.unusedVariables false
set_option linter.unusedSectionVars false
set_option linter.unusedSimpArgs false
set_option maxRecDepth 100000
open Go.Proofs.Ytcjemdcffmfloab.joinDrawn
theorem r_d0 : run d0 = true := by kernel_rfl
theorem r_d4 : run d4 = true := by kernel_rfl
theorem r_d8 : run d8 = true := by kernel_rfl
theorem r_d12 : run d12 = true := by kernel_rfl
theorem r_d16 : run d16 = true := by kernel_rfl
theorem r_d20 : run d20 = true := by kernel_rfl
theorem r_d24 : run d24 = true := by kernel_rfl
theorem r_d28 : run d28 = true := by kernel_rfl
theorem r_d32 : run d32 = true := by kernel_rfl
theorem r_d36 : run d36 = true := by kernel_rfl
theorem r_d40 : run d40 = true := by kernel_rfl
theorem r_d44 : run d44 = true := by kernel_rfl
theorem r_d48 : run d48 = true := by kernel_rfl
theorem r_d52 : run d52 = true := by kernel_rfl
theorem r_d56 : run d56 = true := by kernel_rfl
theorem r_d60 : run d60 = true := by kernel_rfl
theorem r_d64 : run d64 = true := by kernel_rfl
theorem r_d68 : run d68 = true := by kernel_rfl
theorem r_d72 : run d72 = true := by kernel_rfl
theorem r_d76 : run d76 = true := by kernel_rfl
theorem r_d80 : run d80 = true := by kernel_rfl
theorem r_d84 : run d84 = true := by kernel_rfl
theorem r_d88 : run d88 = true := by kernel_rfl
theorem r_d92 : run d92 = true := by kernel_rfl
theorem r_d96 : run d96 = true := by kernel_rfl
theorem r_d100 : run d100 = true := by kernel_rfl
theorem r_d104 : run d104 = true := by kernel_rfl
theorem r_d108 : run d108 = true := by kernel_rfl
theorem r_d112 : run d112 = true := by kernel_rfl
theorem r_d116 : run d116 = true := by kernel_rfl
theorem r_d120 : run d120 = true := by kernel_rfl
theorem r_d124 : run d124 = true := by kernel_rfl
end Go.Proofs.Ytcjemdcffmfloab.fnJoinRuns
