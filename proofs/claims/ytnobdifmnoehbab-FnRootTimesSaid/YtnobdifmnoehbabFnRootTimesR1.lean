/- Runs of the program at a seat. -/
import Derived.Test.YtnobdifmnoehbabFnRootTimesP
namespace Go.Proofs.Ytnobdifmnoehbab.fnRootTimesRuns
open Go Go.Eng
set_option linter.unusedVariables false
set_option linter.unusedSectionVars false
set_option linter.unusedSimpArgs false
set_option maxRecDepth 100000
open Go.Proofs.Ytnobdifmnoehbab.rotimes
theorem g_e1_1_0 : Good (subL (wV (pvIx 4) 549755813893 549755813899) (pieceW 4 (549755813893, 549755813897)) t_e1_1) := .run ⟨(.tri (.v 0) 9223372036854774808 9223372036854776808 .leaf (.tri (.mul (.v 0) (.v 4)) 9223372036854774808 9223372036854776808 .leaf .leaf .leaf) .leaf), by kernel_rfl⟩
theorem g_x1_2_0 : Good (subL (wV (pvIx 4) 549755813877 549755813883) (pieceW 4 (549755813877, 549755813878)) t_x1_2) := .run ⟨.leaf, by kernel_rfl⟩
theorem g_e2_1_0 : Good (subL (wV (pvIx 4) 549755813893 549755813899) (pieceW 4 (549755813893, 549755813897)) t_e2_1) := .run ⟨(.tri (.v 0) 9223372036854774808 9223372036854776808 .leaf (.tri (.v 1) 9223372036854774808 9223372036854776808 .leaf (.tri (.mul (.v 0) (.v 4)) 9223372036854774808 9223372036854776808 .leaf (.tri (.mul (.mul (.v 1) (.v 4)) (.v 4)) 9223372036854774808 9223372036854776808 .leaf .leaf .leaf) .leaf) .leaf) .leaf), by kernel_rfl⟩
theorem g_x2_2_1 : Good (subL (wV (pvIx 4) 549755813877 549755813883) (pieceW 4 (549755813879, 549755813883)) t_x2_2) := .run ⟨.leaf, by kernel_rfl⟩
theorem g_e3_1_1 : Good (subL (wV (pvIx 4) 549755813893 549755813899) (pieceW 4 (549755813898, 549755813899)) t_e3_1) := .run ⟨(.tri (.v 0) 9223372036854774808 9223372036854776808 .leaf (.tri (.v 1) 9223372036854774808 9223372036854776808 .leaf (.tri (.v 2) 9223372036854774808 9223372036854776808 .leaf .leaf .leaf) .leaf) .leaf), by kernel_rfl⟩
theorem g_e3_2_1 : Good (subL (wV (pvIx 4) 549755813877 549755813883) (pieceW 4 (549755813879, 549755813883)) t_e3_2) := .run ⟨(.tri (.v 0) 9223372036854774808 9223372036854776808 .leaf (.tri (.v 1) 9223372036854774808 9223372036854776808 .leaf (.tri (.v 2) 9223372036854774808 9223372036854776808 .leaf (.tri (.mul (.v 0) (.v 4)) 9223372036854774808 9223372036854776808 .leaf (.tri (.mul (.mul (.v 1) (.v 4)) (.v 4)) 9223372036854774808 9223372036854776808 .leaf (.tri (.mul (.mul (.mul (.v 2) (.v 4)) (.v 4)) (.v 4)) 9223372036854774808 9223372036854776808 .leaf .leaf .leaf) .leaf) .leaf) .leaf) .leaf) .leaf), by kernel_rfl⟩
theorem g_e4_2_0 : Good (subL (wV (pvIx 4) 549755813877 549755813883) (pieceW 4 (549755813877, 549755813878)) t_e4_2) := .run ⟨(.tri (.v 0) 9223372036854774808 9223372036854776808 .leaf (.tri (.v 1) 9223372036854774808 9223372036854776808 .leaf (.tri (.v 2) 9223372036854774808 9223372036854776808 .leaf (.tri (.v 3) 9223372036854774808 9223372036854776808 .leaf .leaf .leaf) .leaf) .leaf) .leaf), by kernel_rfl⟩
theorem g_x4_0_0 : Good (subL (wV (pvIx 4) 549755813885 549755813891) (pieceW 4 (549755813885, 549755813891)) t_x4_0) := .run ⟨.leaf, by kernel_rfl⟩
theorem g_x4_1_0 : Good (subL (wV (pvIx 4) 549755813893 549755813899) (pieceW 4 (549755813893, 549755813897)) t_x4_1) := .run ⟨.leaf, by kernel_rfl⟩
theorem g_x4_1_1 : Good (subL (wV (pvIx 4) 549755813893 549755813899) (pieceW 4 (549755813898, 549755813899)) t_x4_1) := .run ⟨.leaf, by kernel_rfl⟩
theorem g_x4_2_1 : Good (subL (wV (pvIx 4) 549755813877 549755813883) (pieceW 4 (549755813879, 549755813883)) t_x4_2) := .run ⟨.leaf, by kernel_rfl⟩
end Go.Proofs.Ytnobdifmnoehbab.fnRootTimesRuns
