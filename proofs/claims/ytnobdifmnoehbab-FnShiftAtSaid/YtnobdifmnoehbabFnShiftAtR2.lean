/- Runs of the program at a seat. -/
import Derived.Test.YtnobdifmnoehbabFnShiftAtP
namespace Go.Proofs.Ytnobdifmnoehbab.fnShiftAtRuns
open Go Go.Eng
set_option linter.unusedVariables false
set_option linter.unusedSectionVars false
set_option linter.unusedSimpArgs false
set_option maxRecDepth 100000
open Go.Proofs.Ytnobdifmnoehbab.roshift
theorem g_e1_1_1 : Good (subL (wV (pvIx 4) 549755813892 549755813900) (pieceW 4 (549755813897, 549755813897)) t_e1_1) := .run ⟨(.tri (.v 0) 9223372036854774808 9223372036854776808 .leaf (.tri (.add (.c 9) (.v 0)) 9223372036854774808 9223372036854776808 .leaf .leaf .leaf) .leaf), by kernel_rfl⟩
theorem g_x1_1_0 : Good (subL (wV (pvIx 4) 549755813892 549755813900) (pieceW 4 (549755813892, 549755813896)) t_x1_1) := .run ⟨.leaf, by kernel_rfl⟩
theorem g_x1_1_2 : Good (subL (wV (pvIx 4) 549755813892 549755813900) (pieceW 4 (549755813898, 549755813900)) t_x1_1) := .run ⟨.leaf, by kernel_rfl⟩
theorem g_e2_0_0 : Good (subL (wV (pvIx 4) 549755813884 549755813892) (pieceW 4 (549755813884, 549755813892)) t_e2_0) := .run ⟨(.tri (.v 0) 9223372036854774808 9223372036854776808 .leaf (.tri (.v 1) 9223372036854774808 9223372036854776808 .leaf (.tri (.add (.v 0) (.mul (.c 2) (.v 4))) 9223372036854774808 9223372036854776808 .leaf (.tri (.add (.add (.mul (.v 0) (.v 4)) (.v 1)) (.mul (.v 4) (.v 4))) 9223372036854774808 9223372036854776808 .leaf .leaf .leaf) .leaf) .leaf) .leaf), by kernel_rfl⟩
theorem g_e2_2_1 : Good (subL (wV (pvIx 4) 549755813876 549755813884) (pieceW 4 (549755813879, 549755813884)) t_e2_2) := .run ⟨(.tri (.v 0) 9223372036854774808 9223372036854776808 .leaf (.tri (.v 1) 9223372036854774808 9223372036854776808 .leaf (.tri (.add (.v 0) (.mul (.c 2) (.v 4))) 9223372036854774808 9223372036854776808 .leaf (.tri (.add (.add (.mul (.v 0) (.v 4)) (.v 1)) (.mul (.v 4) (.v 4))) 9223372036854774808 9223372036854776808 .leaf .leaf .leaf) .leaf) .leaf) .leaf), by kernel_rfl⟩
theorem g_e3_1_2 : Good (subL (wV (pvIx 4) 549755813892 549755813900) (pieceW 4 (549755813898, 549755813900)) t_e3_1) := .run ⟨(.tri (.v 0) 9223372036854774808 9223372036854776808 .leaf (.tri (.v 1) 9223372036854774808 9223372036854776808 .leaf (.tri (.v 2) 9223372036854774808 9223372036854776808 .leaf .leaf .leaf) .leaf) .leaf), by kernel_rfl⟩
theorem g_e3_2_0 : Good (subL (wV (pvIx 4) 549755813876 549755813884) (pieceW 4 (549755813876, 549755813878)) t_e3_2) := .run ⟨(.tri (.v 0) 9223372036854774808 9223372036854776808 .leaf (.tri (.v 1) 9223372036854774808 9223372036854776808 .leaf (.tri (.v 2) 9223372036854774808 9223372036854776808 .leaf .leaf .leaf) .leaf) .leaf), by kernel_rfl⟩
theorem g_e4_1_1 : Good (subL (wV (pvIx 4) 549755813892 549755813900) (pieceW 4 (549755813897, 549755813897)) t_e4_1) := .run ⟨(.tri (.v 0) 9223372036854774808 9223372036854776808 .leaf (.tri (.v 1) 9223372036854774808 9223372036854776808 .leaf (.tri (.v 2) 9223372036854774808 9223372036854776808 .leaf (.tri (.v 3) 9223372036854774808 9223372036854776808 .leaf (.tri (.add (.c 36) (.v 0)) 9223372036854774808 9223372036854776808 .leaf (.tri (.add (.add (.c 486) (.mul (.c 27) (.v 0))) (.v 1)) 9223372036854774808 9223372036854776808 .leaf (.tri (.add (.add (.add (.c 2916) (.mul (.c 243) (.v 0))) (.mul (.c 18) (.v 1))) (.v 2)) 9223372036854774808 9223372036854776808 .leaf (.tri (.add (.add (.add (.add (.c 6561) (.mul (.c 729) (.v 0))) (.mul (.c 81) (.v 1))) (.mul (.c 9) (.v 2))) (.v 3)) 9223372036854774808 9223372036854776808 .leaf .leaf .leaf) .leaf) .leaf) .leaf) .leaf) .leaf) .leaf) .leaf), by kernel_rfl⟩
theorem g_x4_1_1 : Good (subL (wV (pvIx 4) 549755813892 549755813900) (pieceW 4 (549755813897, 549755813897)) t_x4_1) := .run ⟨.leaf, by kernel_rfl⟩
theorem g_x4_2_0 : Good (subL (wV (pvIx 4) 549755813876 549755813884) (pieceW 4 (549755813876, 549755813878)) t_x4_2) := .run ⟨.leaf, by kernel_rfl⟩
end Go.Proofs.Ytnobdifmnoehbab.fnShiftAtRuns
