/- Runs of the program at a seat. -/
import Derived.Test.YtcjemdcffmfloabFnSignP
namespace Go.Proofs.Ytcjemdcffmfloab.fnSignRuns
open Go Go.Eng
set_option linter.unusedVariables false
set_option linter.unusedSectionVars false
set_option linter.unusedSimpArgs false
set_option maxRecDepth 100000
open Go.Proofs.Ytcjemdcffmfloab.oneDrawn
theorem r_d1 : run d1 = true := by kernel_rfl
theorem r_d5 : run d5 = true := by kernel_rfl
theorem r_d9 : run d9 = true := by kernel_rfl
theorem r_d13 : run d13 = true := by kernel_rfl
theorem r_d17 : run d17 = true := by kernel_rfl
theorem r_d21 : run d21 = true := by kernel_rfl
theorem r_d25 : run d25 = true := by kernel_rfl
theorem r_d29 : run d29 = true := by kernel_rfl
end Go.Proofs.Ytcjemdcffmfloab.fnSignRuns
