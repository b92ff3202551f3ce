/- Runs of the program at a seat. -/
import Derived.Test.YtcjemdcffmfloabFnLowerP
namespace Go.Proofs.Ytcjemdcffmfloab.fnLowerRuns
open Go Go.Eng
set_option linter.unusedVariables false
set_option linter.unusedSectionVars false
set_option linter.unusedSimpArgs false
set_option maxRecDepth 100000
open Go.Proofs.Ytcjemdcffmfloab.oneDrawn
theorem r_d2 : run d2 = true := by kernel_rfl
theorem r_d6 : run d6 = true := by kernel_rfl
theorem r_d10 : run d10 = true := by kernel_rfl
theorem r_d14 : run d14 = true := by kernel_rfl
theorem r_d18 : run d18 = true := by kernel_rfl
theorem r_d22 : run d22 = true := by kernel_rfl
theorem r_d26 : run d26 = true := by kernel_rfl
theorem r_d30 : run d30 = true := by kernel_rfl
end Go.Proofs.Ytcjemdcffmfloab.fnLowerRuns
