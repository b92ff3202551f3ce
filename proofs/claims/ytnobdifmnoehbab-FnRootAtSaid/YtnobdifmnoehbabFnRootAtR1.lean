/- Runs of the program at a seat. -/
import Derived.Test.YtnobdifmnoehbabFnRootAtP
namespace Go.Proofs.Ytnobdifmnoehbab.fnRootAtRuns
open Go Go.Eng
set_option linter.unusedVariables false
set_option linter.unusedSectionVars false
set_option linter.unusedSimpArgs false
set_option maxRecDepth 100000
open Go.Proofs.Ytnobdifmnoehbab.roat
theorem g_e1_0_1 : Good (subL (wV (pvIx 4) 549755813884 549755813892) (pieceW 4 (549755813885, 549755813885)) t_e1_0) := .run ⟨(.tri (.v 0) 9223372036854774808 9223372036854776808 .leaf .leaf .leaf), by kernel_rfl⟩
theorem g_e1_0_5 : Good (subL (wV (pvIx 4) 549755813884 549755813892) (pieceW 4 (549755813889, 549755813889)) t_e1_0) := .run ⟨(.tri (.v 0) 9223372036854774808 9223372036854776808 .leaf .leaf .leaf), by kernel_rfl⟩
theorem g_e1_1_0 : Good (subL (wV (pvIx 4) 549755813892 549755813900) (pieceW 4 (549755813892, 549755813892)) t_e1_1) := .run ⟨(.tri (.v 0) 9223372036854774808 9223372036854776808 .leaf .leaf .leaf), by kernel_rfl⟩
theorem g_e1_1_4 : Good (subL (wV (pvIx 4) 549755813892 549755813900) (pieceW 4 (549755813896, 549755813896)) t_e1_1) := .run ⟨(.tri (.v 0) 9223372036854774808 9223372036854776808 .leaf .leaf .leaf), by kernel_rfl⟩
theorem g_e1_2_1 : Good (subL (wV (pvIx 4) 549755813876 549755813884) (pieceW 4 (549755813879, 549755813879)) t_e1_2) := .run ⟨(.tri (.v 0) 9223372036854774808 9223372036854776808 .leaf .leaf .leaf), by kernel_rfl⟩
theorem g_e1_2_5 : Good (subL (wV (pvIx 4) 549755813876 549755813884) (pieceW 4 (549755813883, 549755813883)) t_e1_2) := .run ⟨(.tri (.v 0) 9223372036854774808 9223372036854776808 .leaf .leaf .leaf), by kernel_rfl⟩
theorem g_x1_0_4 : Good (subL (wV (pvIx 4) 549755813884 549755813892) (pieceW 4 (549755813888, 549755813888)) t_x1_0) := .run ⟨.leaf, by kernel_rfl⟩
theorem g_x1_0_8 : Good (subL (wV (pvIx 4) 549755813884 549755813892) (pieceW 4 (549755813892, 549755813892)) t_x1_0) := .run ⟨.leaf, by kernel_rfl⟩
theorem g_x1_1_3 : Good (subL (wV (pvIx 4) 549755813892 549755813900) (pieceW 4 (549755813895, 549755813895)) t_x1_1) := .run ⟨.leaf, by kernel_rfl⟩
theorem g_x1_2_0 : Good (subL (wV (pvIx 4) 549755813876 549755813884) (pieceW 4 (549755813876, 549755813878)) t_x1_2) := .run ⟨.leaf, by kernel_rfl⟩
theorem g_x1_2_4 : Good (subL (wV (pvIx 4) 549755813876 549755813884) (pieceW 4 (549755813882, 549755813882)) t_x1_2) := .run ⟨.leaf, by kernel_rfl⟩
theorem g_e2_0_1 : Good (subL (wV (pvIx 4) 549755813884 549755813892) (pieceW 4 (549755813885, 549755813885)) t_e2_0) := .run ⟨(.tri (.v 0) 9223372036854774808 9223372036854776808 .leaf (.tri (.v 1) 9223372036854774808 9223372036854776808 .leaf .leaf .leaf) .leaf), by kernel_rfl⟩
theorem g_e2_0_5 : Good (subL (wV (pvIx 4) 549755813884 549755813892) (pieceW 4 (549755813889, 549755813889)) t_e2_0) := .run ⟨(.tri (.v 0) 9223372036854774808 9223372036854776808 .leaf (.tri (.v 1) 9223372036854774808 9223372036854776808 .leaf .leaf .leaf) .leaf), by kernel_rfl⟩
theorem g_e2_1_0 : Good (subL (wV (pvIx 4) 549755813892 549755813900) (pieceW 4 (549755813892, 549755813892)) t_e2_1) := .run ⟨(.tri (.v 0) 9223372036854774808 9223372036854776808 .leaf (.tri (.v 1) 9223372036854774808 9223372036854776808 .leaf .leaf .leaf) .leaf), by kernel_rfl⟩
theorem g_e2_1_4 : Good (subL (wV (pvIx 4) 549755813892 549755813900) (pieceW 4 (549755813896, 549755813896)) t_e2_1) := .run ⟨(.tri (.v 0) 9223372036854774808 9223372036854776808 .leaf (.tri (.v 1) 9223372036854774808 9223372036854776808 .leaf .leaf .leaf) .leaf), by kernel_rfl⟩
theorem g_e2_2_1 : Good (subL (wV (pvIx 4) 549755813876 549755813884) (pieceW 4 (549755813879, 549755813879)) t_e2_2) := .run ⟨(.tri (.v 0) 9223372036854774808 9223372036854776808 .leaf (.tri (.v 1) 9223372036854774808 9223372036854776808 .leaf .leaf .leaf) .leaf), by kernel_rfl⟩
theorem g_e2_2_5 : Good (subL (wV (pvIx 4) 549755813876 549755813884) (pieceW 4 (549755813883, 549755813883)) t_e2_2) := .run ⟨(.tri (.v 0) 9223372036854774808 9223372036854776808 .leaf (.tri (.v 1) 9223372036854774808 9223372036854776808 .leaf .leaf .leaf) .leaf), by kernel_rfl⟩
theorem g_x2_0_6 : Good (subL (wV (pvIx 4) 549755813884 549755813892) (pieceW 4 (549755813890, 549755813890)) t_x2_0) := .run ⟨.leaf, by kernel_rfl⟩
theorem g_x2_1_1 : Good (subL (wV (pvIx 4) 549755813892 549755813900) (pieceW 4 (549755813893, 549755813893)) t_x2_1) := .run ⟨.leaf, by kernel_rfl⟩
theorem g_x2_1_5 : Good (subL (wV (pvIx 4) 549755813892 549755813900) (pieceW 4 (549755813897, 549755813897)) t_x2_1) := .run ⟨.leaf, by kernel_rfl⟩
theorem g_x2_2_2 : Good (subL (wV (pvIx 4) 549755813876 549755813884) (pieceW 4 (549755813880, 549755813880)) t_x2_2) := .run ⟨.leaf, by kernel_rfl⟩
theorem g_x2_2_6 : Good (subL (wV (pvIx 4) 549755813876 549755813884) (pieceW 4 (549755813884, 549755813884)) t_x2_2) := .run ⟨.leaf, by kernel_rfl⟩
theorem g_e3_0_3 : Good (subL (wV (pvIx 4) 549755813884 549755813892) (pieceW 4 (549755813887, 549755813887)) t_e3_0) := .run ⟨(.tri (.v 0) 9223372036854774808 9223372036854776808 .leaf (.tri (.v 1) 9223372036854774808 9223372036854776808 .leaf (.tri (.v 2) 9223372036854774808 9223372036854776808 .leaf .leaf .leaf) .leaf) .leaf), by kernel_rfl⟩
theorem g_e3_0_7 : Good (subL (wV (pvIx 4) 549755813884 549755813892) (pieceW 4 (549755813891, 549755813891)) t_e3_0) := .run ⟨(.tri (.v 0) 9223372036854774808 9223372036854776808 .leaf (.tri (.v 1) 9223372036854774808 9223372036854776808 .leaf (.tri (.v 2) 9223372036854774808 9223372036854776808 .leaf .leaf .leaf) .leaf) .leaf), by kernel_rfl⟩
theorem g_e3_1_2 : Good (subL (wV (pvIx 4) 549755813892 549755813900) (pieceW 4 (549755813894, 549755813894)) t_e3_1) := .run ⟨(.tri (.v 0) 9223372036854774808 9223372036854776808 .leaf (.tri (.v 1) 9223372036854774808 9223372036854776808 .leaf (.tri (.v 2) 9223372036854774808 9223372036854776808 .leaf .leaf .leaf) .leaf) .leaf), by kernel_rfl⟩
theorem g_e3_1_6 : Good (subL (wV (pvIx 4) 549755813892 549755813900) (pieceW 4 (549755813898, 549755813900)) t_e3_1) := .run ⟨(.tri (.v 0) 9223372036854774808 9223372036854776808 .leaf (.tri (.v 1) 9223372036854774808 9223372036854776808 .leaf (.tri (.v 2) 9223372036854774808 9223372036854776808 .leaf .leaf .leaf) .leaf) .leaf), by kernel_rfl⟩
theorem g_e3_2_3 : Good (subL (wV (pvIx 4) 549755813876 549755813884) (pieceW 4 (549755813881, 549755813881)) t_e3_2) := .run ⟨(.tri (.v 0) 9223372036854774808 9223372036854776808 .leaf (.tri (.v 1) 9223372036854774808 9223372036854776808 .leaf (.tri (.v 2) 9223372036854774808 9223372036854776808 .leaf .leaf .leaf) .leaf) .leaf), by kernel_rfl⟩
theorem g_x3_0_0 : Good (subL (wV (pvIx 4) 549755813884 549755813892) (pieceW 4 (549755813884, 549755813884)) t_x3_0) := .run ⟨.leaf, by kernel_rfl⟩
theorem g_x3_0_1 : Good (subL (wV (pvIx 4) 549755813884 549755813892) (pieceW 4 (549755813885, 549755813885)) t_x3_0) := .run ⟨.leaf, by kernel_rfl⟩
theorem g_x3_0_2 : Good (subL (wV (pvIx 4) 549755813884 549755813892) (pieceW 4 (549755813886, 549755813886)) t_x3_0) := .run ⟨.leaf, by kernel_rfl⟩
theorem g_x3_0_3 : Good (subL (wV (pvIx 4) 549755813884 549755813892) (pieceW 4 (549755813887, 549755813887)) t_x3_0) := .run ⟨.leaf, by kernel_rfl⟩
theorem g_x3_0_4 : Good (subL (wV (pvIx 4) 549755813884 549755813892) (pieceW 4 (549755813888, 549755813888)) t_x3_0) := .run ⟨.leaf, by kernel_rfl⟩
theorem g_x3_0_5 : Good (subL (wV (pvIx 4) 549755813884 549755813892) (pieceW 4 (549755813889, 549755813889)) t_x3_0) := .run ⟨.leaf, by kernel_rfl⟩
theorem g_x3_0_6 : Good (subL (wV (pvIx 4) 549755813884 549755813892) (pieceW 4 (549755813890, 549755813890)) t_x3_0) := .run ⟨.leaf, by kernel_rfl⟩
theorem g_x3_1_1 : Good (subL (wV (pvIx 4) 549755813892 549755813900) (pieceW 4 (549755813893, 549755813893)) t_x3_1) := .run ⟨.leaf, by kernel_rfl⟩
theorem g_x3_1_5 : Good (subL (wV (pvIx 4) 549755813892 549755813900) (pieceW 4 (549755813897, 549755813897)) t_x3_1) := .run ⟨.leaf, by kernel_rfl⟩
theorem g_x3_2_2 : Good (subL (wV (pvIx 4) 549755813876 549755813884) (pieceW 4 (549755813880, 549755813880)) t_x3_2) := .run ⟨.leaf, by kernel_rfl⟩
theorem g_x3_2_6 : Good (subL (wV (pvIx 4) 549755813876 549755813884) (pieceW 4 (549755813884, 549755813884)) t_x3_2) := .run ⟨.leaf, by kernel_rfl⟩
theorem g_e4_0_3 : Good (subL (wV (pvIx 4) 549755813884 549755813892) (pieceW 4 (549755813887, 549755813887)) t_e4_0) := .run ⟨(.tri (.v 0) 9223372036854774808 9223372036854776808 .leaf (.tri (.v 1) 9223372036854774808 9223372036854776808 .leaf (.tri (.v 2) 9223372036854774808 9223372036854776808 .leaf (.tri (.v 3) 9223372036854774808 9223372036854776808 .leaf .leaf .leaf) .leaf) .leaf) .leaf), by kernel_rfl⟩
theorem g_e4_0_7 : Good (subL (wV (pvIx 4) 549755813884 549755813892) (pieceW 4 (549755813891, 549755813891)) t_e4_0) := .run ⟨(.tri (.v 0) 9223372036854774808 9223372036854776808 .leaf (.tri (.v 1) 9223372036854774808 9223372036854776808 .leaf (.tri (.v 2) 9223372036854774808 9223372036854776808 .leaf (.tri (.v 3) 9223372036854774808 9223372036854776808 .leaf .leaf .leaf) .leaf) .leaf) .leaf), by kernel_rfl⟩
theorem g_e4_1_2 : Good (subL (wV (pvIx 4) 549755813892 549755813900) (pieceW 4 (549755813894, 549755813894)) t_e4_1) := .run ⟨(.tri (.v 0) 9223372036854774808 9223372036854776808 .leaf (.tri (.v 1) 9223372036854774808 9223372036854776808 .leaf (.tri (.v 2) 9223372036854774808 9223372036854776808 .leaf (.tri (.v 3) 9223372036854774808 9223372036854776808 .leaf .leaf .leaf) .leaf) .leaf) .leaf), by kernel_rfl⟩
theorem g_e4_1_6 : Good (subL (wV (pvIx 4) 549755813892 549755813900) (pieceW 4 (549755813898, 549755813900)) t_e4_1) := .run ⟨(.tri (.v 0) 9223372036854774808 9223372036854776808 .leaf (.tri (.v 1) 9223372036854774808 9223372036854776808 .leaf (.tri (.v 2) 9223372036854774808 9223372036854776808 .leaf (.tri (.v 3) 9223372036854774808 9223372036854776808 .leaf .leaf .leaf) .leaf) .leaf) .leaf), by kernel_rfl⟩
theorem g_e4_2_3 : Good (subL (wV (pvIx 4) 549755813876 549755813884) (pieceW 4 (549755813881, 549755813881)) t_e4_2) := .run ⟨(.tri (.v 0) 9223372036854774808 9223372036854776808 .leaf (.tri (.v 1) 9223372036854774808 9223372036854776808 .leaf (.tri (.v 2) 9223372036854774808 9223372036854776808 .leaf (.tri (.v 3) 9223372036854774808 9223372036854776808 .leaf .leaf .leaf) .leaf) .leaf) .leaf), by kernel_rfl⟩
theorem g_x4_0_0 : Good (subL (wV (pvIx 4) 549755813884 549755813892) (pieceW 4 (549755813884, 549755813884)) t_x4_0) := .run ⟨.leaf, by kernel_rfl⟩
theorem g_x4_0_1 : Good (subL (wV (pvIx 4) 549755813884 549755813892) (pieceW 4 (549755813885, 549755813885)) t_x4_0) := .run ⟨.leaf, by kernel_rfl⟩
theorem g_x4_0_2 : Good (subL (wV (pvIx 4) 549755813884 549755813892) (pieceW 4 (549755813886, 549755813886)) t_x4_0) := .run ⟨.leaf, by kernel_rfl⟩
theorem g_x4_0_3 : Good (subL (wV (pvIx 4) 549755813884 549755813892) (pieceW 4 (549755813887, 549755813887)) t_x4_0) := .run ⟨.leaf, by kernel_rfl⟩
theorem g_x4_0_4 : Good (subL (wV (pvIx 4) 549755813884 549755813892) (pieceW 4 (549755813888, 549755813888)) t_x4_0) := .run ⟨.leaf, by kernel_rfl⟩
theorem g_x4_0_5 : Good (subL (wV (pvIx 4) 549755813884 549755813892) (pieceW 4 (549755813889, 549755813889)) t_x4_0) := .run ⟨.leaf, by kernel_rfl⟩
theorem g_x4_0_6 : Good (subL (wV (pvIx 4) 549755813884 549755813892) (pieceW 4 (549755813890, 549755813890)) t_x4_0) := .run ⟨.leaf, by kernel_rfl⟩
theorem g_x4_0_7 : Good (subL (wV (pvIx 4) 549755813884 549755813892) (pieceW 4 (549755813891, 549755813891)) t_x4_0) := .run ⟨.leaf, by kernel_rfl⟩
theorem g_x4_0_8 : Good (subL (wV (pvIx 4) 549755813884 549755813892) (pieceW 4 (549755813892, 549755813892)) t_x4_0) := .run ⟨.leaf, by kernel_rfl⟩
theorem g_x4_1_3 : Good (subL (wV (pvIx 4) 549755813892 549755813900) (pieceW 4 (549755813895, 549755813895)) t_x4_1) := .run ⟨.leaf, by kernel_rfl⟩
theorem g_x4_2_0 : Good (subL (wV (pvIx 4) 549755813876 549755813884) (pieceW 4 (549755813876, 549755813878)) t_x4_2) := .run ⟨.leaf, by kernel_rfl⟩
theorem g_x4_2_4 : Good (subL (wV (pvIx 4) 549755813876 549755813884) (pieceW 4 (549755813882, 549755813882)) t_x4_2) := .run ⟨.leaf, by kernel_rfl⟩
end Go.Proofs.Ytnobdifmnoehbab.fnRootAtRuns
