/- Runs of the program at a seat. -/
import Derived.Test.YtcjemdcffmfloabFnLowerP
namespace Go.Proofs.Ytcjemdcffmfloab.fnLowerRuns
open Go Go.Eng
set_option linter.unusedVariables false
set_option linter.unusedSectionVars false
set_option linter.unusedSimpArgs false
set_option maxRecDepth 100000
open Go.Proofs.Ytcjemdcffmfloab.oneDrawn
theorem r_d0 : run d0 = true := by kernel_rfl
theorem r_d4 : run d4 = true := by kernel_rfl
theorem r_d8 : run d8 = true := by kernel_rfl
theorem r_d12 : run d12 = true := by kernel_rfl
theorem r_d16 : run d16 = true := by kernel_rfl
theorem r_d20 : run d20 = true := by kernel_rfl
theorem r_d24 : run d24 = true := by kernel_rfl
theorem r_d28 : run d28 = true := by kernel_rfl
end Go.Proofs.Ytcjemdcffmfloab.fnLowerRuns
