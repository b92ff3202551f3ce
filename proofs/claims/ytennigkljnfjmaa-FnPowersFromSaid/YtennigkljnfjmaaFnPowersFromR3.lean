/- Runs of the program at a seat. -/
import Derived.Test.YtennigkljnfjmaaFnPowersFromP
namespace Go.Proofs.Ytennigkljnfjmaa.fnPowersFromRuns
open Go Go.Eng
set_option linter.unusedVariables false
set_option linter.unusedSectionVars false
set_option linter.unusedSimpArgs false
set_option maxRecDepth 100000
open Go.Proofs.Ytennigkljnfjmaa.ropowers
theorem g_e1_0_3 : Good (subL (wV (pvIx 4) 549755813889 549755813894) (pieceW 4 (549755813892, 549755813892)) t_e1_0) := .run ⟨(.tri (.v 0) 9223372036854774808 9223372036854776808 .leaf .leaf .leaf), by kernel_rfl⟩
theorem g_e1_2_0 : Good (subL (wV (pvIx 4) 549755813881 549755813886) (pieceW 4 (549755813881, 549755813886)) t_e1_2) := .run ⟨(.tri (.v 0) 9223372036854774808 9223372036854776808 .leaf .leaf .leaf), by kernel_rfl⟩
theorem g_x1_0_3 : Good (subL (wV (pvIx 4) 549755813889 549755813894) (pieceW 4 (549755813892, 549755813892)) t_x1_0) := .run ⟨.leaf, by kernel_rfl⟩
theorem g_x1_2_0 : Good (subL (wV (pvIx 4) 549755813881 549755813886) (pieceW 4 (549755813881, 549755813886)) t_x1_2) := .run ⟨.leaf, by kernel_rfl⟩
theorem g_e2_0_3 : Good (subL (wV (pvIx 4) 549755813889 549755813894) (pieceW 4 (549755813892, 549755813892)) t_e2_0) := .run ⟨(.tri (.v 0) 9223372036854774808 9223372036854776808 .leaf (.tri (.v 1) 9223372036854774808 9223372036854776808 .leaf .leaf .leaf) .leaf), by kernel_rfl⟩
theorem g_e2_1_0 : Good (subL (wV (pvIx 4) 549755813897 549755813902) (pieceW 4 (549755813897, 549755813902)) t_e2_1) := .run ⟨(.tri (.v 0) 9223372036854774808 9223372036854776808 .leaf (.tri (.v 1) 9223372036854774808 9223372036854776808 .leaf .leaf .leaf) .leaf), by kernel_rfl⟩
theorem g_x2_0_2 : Good (subL (wV (pvIx 4) 549755813889 549755813894) (pieceW 4 (549755813891, 549755813891)) t_x2_0) := .run ⟨.leaf, by kernel_rfl⟩
theorem g_x2_0_5 : Good (subL (wV (pvIx 4) 549755813889 549755813894) (pieceW 4 (549755813894, 549755813894)) t_x2_0) := .run ⟨.leaf, by kernel_rfl⟩
theorem g_e3_0_1 : Good (subL (wV (pvIx 4) 549755813889 549755813894) (pieceW 4 (549755813890, 549755813890)) t_e3_0) := .run ⟨(.tri (.v 0) 9223372036854774808 9223372036854776808 .leaf (.tri (.v 1) 9223372036854774808 9223372036854776808 .leaf (.tri (.v 2) 9223372036854774808 9223372036854776808 .leaf .leaf .leaf) .leaf) .leaf), by kernel_rfl⟩
theorem g_e3_0_5 : Good (subL (wV (pvIx 4) 549755813889 549755813894) (pieceW 4 (549755813894, 549755813894)) t_e3_0) := .run ⟨(.tri (.v 0) 9223372036854774808 9223372036854776808 .leaf (.tri (.v 1) 9223372036854774808 9223372036854776808 .leaf (.tri (.v 2) 9223372036854774808 9223372036854776808 .leaf .leaf .leaf) .leaf) .leaf), by kernel_rfl⟩
theorem g_x3_0_1 : Good (subL (wV (pvIx 4) 549755813889 549755813894) (pieceW 4 (549755813890, 549755813890)) t_x3_0) := .run ⟨.leaf, by kernel_rfl⟩
theorem g_x3_0_4 : Good (subL (wV (pvIx 4) 549755813889 549755813894) (pieceW 4 (549755813893, 549755813893)) t_x3_0) := .run ⟨.leaf, by kernel_rfl⟩
theorem g_x3_2_0 : Good (subL (wV (pvIx 4) 549755813881 549755813886) (pieceW 4 (549755813881, 549755813886)) t_x3_2) := .run ⟨.leaf, by kernel_rfl⟩
theorem g_e4_0_2 : Good (subL (wV (pvIx 4) 549755813889 549755813894) (pieceW 4 (549755813891, 549755813891)) t_e4_0) := .run ⟨(.tri (.v 0) 9223372036854774808 9223372036854776808 .leaf (.tri (.v 1) 9223372036854774808 9223372036854776808 .leaf (.tri (.v 2) 9223372036854774808 9223372036854776808 .leaf (.tri (.v 3) 9223372036854774808 9223372036854776808 .leaf .leaf .leaf) .leaf) .leaf) .leaf), by kernel_rfl⟩
theorem g_e4_1_0 : Good (subL (wV (pvIx 4) 549755813897 549755813902) (pieceW 4 (549755813897, 549755813902)) t_e4_1) := .run ⟨(.tri (.v 0) 9223372036854774808 9223372036854776808 .leaf (.tri (.v 1) 9223372036854774808 9223372036854776808 .leaf (.tri (.v 2) 9223372036854774808 9223372036854776808 .leaf (.tri (.v 3) 9223372036854774808 9223372036854776808 .leaf .leaf .leaf) .leaf) .leaf) .leaf), by kernel_rfl⟩
theorem g_x4_0_2 : Good (subL (wV (pvIx 4) 549755813889 549755813894) (pieceW 4 (549755813891, 549755813891)) t_x4_0) := .run ⟨.leaf, by kernel_rfl⟩
theorem g_x4_0_5 : Good (subL (wV (pvIx 4) 549755813889 549755813894) (pieceW 4 (549755813894, 549755813894)) t_x4_0) := .run ⟨.leaf, by kernel_rfl⟩
end Go.Proofs.Ytennigkljnfjmaa.fnPowersFromRuns
