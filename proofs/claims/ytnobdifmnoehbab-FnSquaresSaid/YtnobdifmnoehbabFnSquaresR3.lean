/- Runs of the program at a seat. -/
import Derived.Test.YtnobdifmnoehbabFnSquaresP
namespace Go.Proofs.Ytnobdifmnoehbab.fnSquaresRuns
open Go Go.Eng
set_option linter.unusedVariables false
set_option linter.unusedSectionVars false
set_option linter.unusedSimpArgs false
set_option maxRecDepth 100000
open Go.Proofs.Ytnobdifmnoehbab.rosquares
theorem g_x2 : Good t_x2 := .run ⟨.leaf, by kernel_rfl⟩
theorem g_x3 : Good t_x3 := .run ⟨.leaf, by kernel_rfl⟩
theorem g_x4 : Good t_x4 := .run ⟨.leaf, by kernel_rfl⟩
end Go.Proofs.Ytnobdifmnoehbab.fnSquaresRuns
