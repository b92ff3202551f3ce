/- Runs of the program at a seat. -/
import Derived.Test.YtcjemdcffmfloabFnSignP
namespace Go.Proofs.Ytcjemdcffmfloab.fnSignRuns
open Go Go.Eng
set_option linter.unusedVariables false
set_option linter.unusedSectionVars false
set_option linter.unusedSimpArgs false
set_option maxRecDepth 100000
open Go.Proofs.Ytcjemdcffmfloab.oneDrawn
theorem r_d3 : run d3 = true := by kernel_rfl
theorem r_d7 : run d7 = true := by kernel_rfl
theorem r_d11 : run d11 = true := by kernel_rfl
theorem r_d15 : run d15 = true := by kernel_rfl
theorem r_d19 : run d19 = true := by kernel_rfl
theorem r_d23 : run d23 = true := by kernel_rfl
theorem r_d27 : run d27 = true := by kernel_rfl
theorem r_d31 : run d31 = true := by kernel_rfl
end Go.Proofs.Ytcjemdcffmfloab.fnSignRuns
