/- Runs of the program at a seat. -/
import Derived.Test.YtliimffphokmpaaFnSumTimesP
namespace Go.Proofs.Ytliimffphokmpaa.fnSumTimesRuns
open Go Go.Eng
set_option linter.unusedVariables false
set_option linter.unusedSectionVars false
set_option linter.unusedSimpArgs false
set_option maxRecDepth 100000
open Go.Proofs.Ytliimffphokmpaa.dssumtimes
theorem g_x0_1 : Good t_x0_1 := .run ⟨.leaf, by kernel_rfl⟩
theorem g_a1_0_1_0 : Good (subL (wV (pvIx 4) 549756813884 549756813892) (pieceW 4 (549756813884, 549756813888)) t_a1_0_1) := .run ⟨(.tri (.mul (.v 4) (.v 8)) 9223372036853775808 9223372036855775808 .leaf .leaf .leaf), by kernel_rfl⟩
theorem g_a3_0_1_1 : Good (subL (wV (pvIx 4) 549756813884 549756813892) (pieceW 4 (549756813889, 549756813892)) t_a3_0_1) := .run ⟨.leaf, by kernel_rfl⟩
theorem g_l3_0_1 : Good t_l3_0_1 := .run ⟨.leaf, by kernel_rfl⟩
theorem g_a4_0_1_1 : Good (subL (wV (pvIx 4) 549756813884 549756813892) (pieceW 4 (549756813889, 549756813892)) t_a4_0_1) := .run ⟨.leaf, by kernel_rfl⟩
theorem g_l4_0_1 : Good t_l4_0_1 := .run ⟨.leaf, by kernel_rfl⟩
theorem g_a0_1_1_0 : Good (subL (wV (pvIx 4) 549756813884 549756813892) (pieceW 4 (549756813884, 549756813888)) t_a0_1_1) := .run ⟨(.tri (.mul (.v 4) (.v 8)) 9223372036853775808 9223372036855775808 .leaf .leaf .leaf), by kernel_rfl⟩
theorem g_a2_1_1_0 : Good (subL (wV (pvIx 4) 549756813884 549756813892) (pieceW 4 (549756813884, 549756813888)) t_a2_1_1) := .run ⟨(.tri (.mul (.v 4) (.v 8)) 9223372036853775808 9223372036855775808 .leaf .leaf .leaf), by kernel_rfl⟩
theorem g_l4_1_0 : Good t_l4_1_0 := .run ⟨.leaf, by kernel_rfl⟩
theorem g_a0_2_0 : Good t_a0_2_0 := .run ⟨.leaf, by kernel_rfl⟩
theorem g_a2_2_1_1 : Good (subL (wV (pvIx 4) 549756813884 549756813892) (pieceW 4 (549756813889, 549756813892)) t_a2_2_1) := .run ⟨.leaf, by kernel_rfl⟩
theorem g_l2_2_1 : Good t_l2_2_1 := .run ⟨.leaf, by kernel_rfl⟩
theorem g_a3_2_1_0 : Good (subL (wV (pvIx 4) 549756813884 549756813892) (pieceW 4 (549756813884, 549756813888)) t_a3_2_1) := .run ⟨(.tri (.mul (.v 4) (.v 8)) 9223372036853775808 9223372036855775808 .leaf (.tri (.mul (.v 4) (.v 9)) 9223372036853775808 9223372036855775808 .leaf .leaf .leaf) .leaf), by kernel_rfl⟩
theorem g_x3_0 : Good t_x3_0 := .run ⟨.leaf, by kernel_rfl⟩
theorem g_l0_3_0 : Good t_l0_3_0 := .run ⟨.leaf, by kernel_rfl⟩
theorem g_a1_3_1_0 : Good (subL (wV (pvIx 4) 549756813884 549756813892) (pieceW 4 (549756813884, 549756813888)) t_a1_3_1) := .run ⟨(.tri (.mul (.v 4) (.v 8)) 9223372036853775808 9223372036855775808 .leaf (.tri (.mul (.v 4) (.v 9)) 9223372036853775808 9223372036855775808 .leaf (.tri (.mul (.v 4) (.v 10)) 9223372036853775808 9223372036855775808 .leaf .leaf .leaf) .leaf) .leaf), by kernel_rfl⟩
theorem g_l3_3_0 : Good t_l3_3_0 := .run ⟨.leaf, by kernel_rfl⟩
theorem g_a4_3_0 : Good t_a4_3_0 := .run ⟨.leaf, by kernel_rfl⟩
theorem g_a1_4_1_1 : Good (subL (wV (pvIx 4) 549756813884 549756813892) (pieceW 4 (549756813889, 549756813892)) t_a1_4_1) := .run ⟨.leaf, by kernel_rfl⟩
theorem g_l1_4_1 : Good t_l1_4_1 := .run ⟨.leaf, by kernel_rfl⟩
theorem g_a2_4_1_0 : Good (subL (wV (pvIx 4) 549756813884 549756813892) (pieceW 4 (549756813884, 549756813888)) t_a2_4_1) := .run ⟨(.tri (.mul (.v 4) (.v 8)) 9223372036853775808 9223372036855775808 .leaf (.tri (.mul (.v 4) (.v 9)) 9223372036853775808 9223372036855775808 .leaf (.tri (.mul (.v 4) (.v 10)) 9223372036853775808 9223372036855775808 .leaf (.tri (.mul (.v 4) (.v 11)) 9223372036853775808 9223372036855775808 .leaf (.tri (.mul (.v 4) (.v 12)) 9223372036853775808 9223372036855775808 .leaf .leaf .leaf) .leaf) .leaf) .leaf) .leaf), by kernel_rfl⟩
theorem g_l4_4_0 : Good t_l4_4_0 := .run ⟨.leaf, by kernel_rfl⟩
theorem g_a0_5_0 : Good t_a0_5_0 := .run ⟨.leaf, by kernel_rfl⟩
theorem g_a2_5_1_1 : Good (subL (wV (pvIx 4) 549756813884 549756813892) (pieceW 4 (549756813889, 549756813892)) t_a2_5_1) := .run ⟨.leaf, by kernel_rfl⟩
theorem g_l2_5_1 : Good t_l2_5_1 := .run ⟨.leaf, by kernel_rfl⟩
theorem g_a3_5_1_0 : Good (subL (wV (pvIx 4) 549756813884 549756813892) (pieceW 4 (549756813884, 549756813888)) t_a3_5_1) := .run ⟨(.tri (.mul (.v 4) (.v 8)) 9223372036853775808 9223372036855775808 .leaf (.tri (.mul (.v 4) (.v 9)) 9223372036853775808 9223372036855775808 .leaf (.tri (.mul (.v 4) (.v 10)) 9223372036853775808 9223372036855775808 .leaf (.tri (.mul (.v 4) (.v 11)) 9223372036853775808 9223372036855775808 .leaf (.tri (.mul (.v 4) (.v 12)) 9223372036853775808 9223372036855775808 .leaf (.tri (.mul (.v 4) (.v 13)) 9223372036853775808 9223372036855775808 .leaf (.tri (.mul (.v 4) (.v 14)) 9223372036853775808 9223372036855775808 .leaf .leaf .leaf) .leaf) .leaf) .leaf) .leaf) .leaf) .leaf), by kernel_rfl⟩
end Go.Proofs.Ytliimffphokmpaa.fnSumTimesRuns
