/- Runs of the program at a seat. -/
import Derived.Test.YtnobdifmnoehbabFnShiftAtP
namespace Go.Proofs.Ytnobdifmnoehbab.fnShiftAtRuns
open Go Go.Eng
set_option linter.unusedVariables false
set_option linter.unusedSectionVars false
set_option linter.unusedSimpArgs false
set_option maxRecDepth 100000
open Go.Proofs.Ytnobdifmnoehbab.roshift
theorem g_e1_0_0 : Good (subL (wV (pvIx 4) 549755813884 549755813892) (pieceW 4 (549755813884, 549755813892)) t_e1_0) := .run ⟨(.tri (.v 0) 9223372036854774808 9223372036854776808 .leaf (.tri (.add (.v 0) (.v 4)) 9223372036854774808 9223372036854776808 .leaf .leaf .leaf) .leaf), by kernel_rfl⟩
theorem g_e1_2_1 : Good (subL (wV (pvIx 4) 549755813876 549755813884) (pieceW 4 (549755813879, 549755813884)) t_e1_2) := .run ⟨(.tri (.v 0) 9223372036854774808 9223372036854776808 .leaf (.tri (.add (.v 0) (.v 4)) 9223372036854774808 9223372036854776808 .leaf .leaf .leaf) .leaf), by kernel_rfl⟩
theorem g_e2_1_2 : Good (subL (wV (pvIx 4) 549755813892 549755813900) (pieceW 4 (549755813898, 549755813900)) t_e2_1) := .run ⟨(.tri (.v 0) 9223372036854774808 9223372036854776808 .leaf (.tri (.v 1) 9223372036854774808 9223372036854776808 .leaf .leaf .leaf) .leaf), by kernel_rfl⟩
theorem g_e2_2_0 : Good (subL (wV (pvIx 4) 549755813876 549755813884) (pieceW 4 (549755813876, 549755813878)) t_e2_2) := .run ⟨(.tri (.v 0) 9223372036854774808 9223372036854776808 .leaf (.tri (.v 1) 9223372036854774808 9223372036854776808 .leaf .leaf .leaf) .leaf), by kernel_rfl⟩
theorem g_x2_2_1 : Good (subL (wV (pvIx 4) 549755813876 549755813884) (pieceW 4 (549755813879, 549755813884)) t_x2_2) := .run ⟨.leaf, by kernel_rfl⟩
theorem g_e3_1_1 : Good (subL (wV (pvIx 4) 549755813892 549755813900) (pieceW 4 (549755813897, 549755813897)) t_e3_1) := .run ⟨(.tri (.v 0) 9223372036854774808 9223372036854776808 .leaf (.tri (.v 1) 9223372036854774808 9223372036854776808 .leaf (.tri (.v 2) 9223372036854774808 9223372036854776808 .leaf (.tri (.add (.c 27) (.v 0)) 9223372036854774808 9223372036854776808 .leaf (.tri (.add (.add (.c 243) (.mul (.c 18) (.v 0))) (.v 1)) 9223372036854774808 9223372036854776808 .leaf (.tri (.add (.add (.add (.c 729) (.mul (.c 81) (.v 0))) (.mul (.c 9) (.v 1))) (.v 2)) 9223372036854774808 9223372036854776808 .leaf .leaf .leaf) .leaf) .leaf) .leaf) .leaf) .leaf), by kernel_rfl⟩
theorem g_x3_1_0 : Good (subL (wV (pvIx 4) 549755813892 549755813900) (pieceW 4 (549755813892, 549755813896)) t_x3_1) := .run ⟨.leaf, by kernel_rfl⟩
theorem g_x3_1_2 : Good (subL (wV (pvIx 4) 549755813892 549755813900) (pieceW 4 (549755813898, 549755813900)) t_x3_1) := .run ⟨.leaf, by kernel_rfl⟩
theorem g_x3_2_1 : Good (subL (wV (pvIx 4) 549755813876 549755813884) (pieceW 4 (549755813879, 549755813884)) t_x3_2) := .run ⟨.leaf, by kernel_rfl⟩
theorem g_e4_1_0 : Good (subL (wV (pvIx 4) 549755813892 549755813900) (pieceW 4 (549755813892, 549755813896)) t_e4_1) := .run ⟨(.tri (.v 0) 9223372036854774808 9223372036854776808 .leaf (.tri (.v 1) 9223372036854774808 9223372036854776808 .leaf (.tri (.v 2) 9223372036854774808 9223372036854776808 .leaf (.tri (.v 3) 9223372036854774808 9223372036854776808 .leaf (.tri (.add (.v 0) (.mul (.c 4) (.v 4))) 9223372036854774808 9223372036854776808 .leaf (.tri (.add (.add (.mul (.c 3) (.mul (.v 0) (.v 4))) (.v 1)) (.mul (.c 6) (.mul (.v 4) (.v 4)))) 9223372036854774808 9223372036854776808 .leaf (.tri (.add (.add (.add (.mul (.c 3) (.mul (.mul (.v 0) (.v 4)) (.v 4))) (.mul (.c 2) (.mul (.v 1) (.v 4)))) (.v 2)) (.mul (.c 4) (.mul (.mul (.v 4) (.v 4)) (.v 4)))) 9223372036854774808 9223372036854776808 .leaf (.tri (.add (.add (.add (.add (.mul (.mul (.mul (.v 0) (.v 4)) (.v 4)) (.v 4)) (.mul (.mul (.v 1) (.v 4)) (.v 4))) (.mul (.v 2) (.v 4))) (.v 3)) (.mul (.mul (.mul (.v 4) (.v 4)) (.v 4)) (.v 4))) 9223372036854774808 9223372036854776808 .leaf .leaf .leaf) .leaf) .leaf) .leaf) .leaf) .leaf) .leaf) .leaf), by kernel_rfl⟩
theorem g_x4_0_0 : Good (subL (wV (pvIx 4) 549755813884 549755813892) (pieceW 4 (549755813884, 549755813892)) t_x4_0) := .run ⟨.leaf, by kernel_rfl⟩
theorem g_x4_1_0 : Good (subL (wV (pvIx 4) 549755813892 549755813900) (pieceW 4 (549755813892, 549755813896)) t_x4_1) := .run ⟨.leaf, by kernel_rfl⟩
theorem g_x4_1_2 : Good (subL (wV (pvIx 4) 549755813892 549755813900) (pieceW 4 (549755813898, 549755813900)) t_x4_1) := .run ⟨.leaf, by kernel_rfl⟩
theorem g_x4_2_1 : Good (subL (wV (pvIx 4) 549755813876 549755813884) (pieceW 4 (549755813879, 549755813884)) t_x4_2) := .run ⟨.leaf, by kernel_rfl⟩
end Go.Proofs.Ytnobdifmnoehbab.fnShiftAtRuns
