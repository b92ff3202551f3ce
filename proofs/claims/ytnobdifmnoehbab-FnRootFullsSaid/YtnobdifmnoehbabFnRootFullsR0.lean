/- Runs of the program at a seat. -/
import Derived.Test.YtnobdifmnoehbabFnRootFullsP
namespace Go.Proofs.Ytnobdifmnoehbab.fnRootFullsRuns
open Go Go.Eng
set_option linter.unusedVariables false
set_option linter.unusedSectionVars false
set_option linter.unusedSimpArgs false
set_option maxRecDepth 100000
open Go.Proofs.Ytnobdifmnoehbab.rootofDrawn
theorem r_d0 : run d0 = true := by kernel_rfl
theorem r_d2 : run d2 = true := by kernel_rfl
theorem r_d4 : run d4 = true := by kernel_rfl
theorem r_d6 : run d6 = true := by kernel_rfl
theorem r_d8 : run d8 = true := by kernel_rfl
theorem r_d10 : run d10 = true := by kernel_rfl
theorem r_d12 : run d12 = true := by kernel_rfl
end Go.Proofs.Ytnobdifmnoehbab.fnRootFullsRuns
