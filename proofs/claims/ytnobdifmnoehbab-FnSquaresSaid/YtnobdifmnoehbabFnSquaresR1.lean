/- Runs of the program at a seat. -/
import Derived.Test.YtnobdifmnoehbabFnSquaresP
namespace Go.Proofs.Ytnobdifmnoehbab.fnSquaresRuns
open Go Go.Eng
set_option linter.unusedVariables false
set_option linter.unusedSectionVars false
set_option linter.unusedSimpArgs false
set_option maxRecDepth 100000
open Go.Proofs.Ytnobdifmnoehbab.rosquares
theorem g_x1 : Good t_x1 := .run ⟨.leaf, by kernel_rfl⟩
theorem g_e3 : Good t_e3 := .run ⟨(.tri (.v 0) 9223372036854774808 9223372036854776808 .leaf (.tri (.v 1) 9223372036854774808 9223372036854776808 .leaf (.tri (.v 2) 9223372036854774808 9223372036854776808 .leaf (.tri (.add (.mul (.v 0) (.v 0)) (.neg (.mul (.c 2) (.v 1)))) 9223372036854774808 9223372036854776808 .leaf (.tri (.add (.neg (.mul (.c 2) (.mul (.v 0) (.v 2)))) (.mul (.v 1) (.v 1))) 9223372036854774808 9223372036854776808 .leaf (.tri (.mul (.v 2) (.v 2)) 9223372036854774808 9223372036854776808 .leaf .leaf .leaf) .leaf) .leaf) .leaf) .leaf) .leaf), by kernel_rfl⟩
end Go.Proofs.Ytnobdifmnoehbab.fnSquaresRuns
