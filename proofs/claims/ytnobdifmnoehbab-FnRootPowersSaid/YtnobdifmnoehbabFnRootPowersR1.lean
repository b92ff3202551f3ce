/- Runs of the program at a seat. -/
import Derived.Test.YtnobdifmnoehbabFnRootPowersP
namespace Go.Proofs.Ytnobdifmnoehbab.fnRootPowersRuns
open Go Go.Eng
set_option linter.unusedVariables false
set_option linter.unusedSectionVars false
set_option linter.unusedSimpArgs false
set_option maxRecDepth 100000
open Go.Proofs.Ytnobdifmnoehbab.rootofDrawn
theorem r_d1 : run d1 = true := by kernel_rfl
theorem r_d3 : run d3 = true := by kernel_rfl
theorem r_d5 : run d5 = true := by kernel_rfl
theorem r_d7 : run d7 = true := by kernel_rfl
theorem r_d9 : run d9 = true := by kernel_rfl
theorem r_d11 : run d11 = true := by kernel_rfl
end Go.Proofs.Ytnobdifmnoehbab.fnRootPowersRuns
