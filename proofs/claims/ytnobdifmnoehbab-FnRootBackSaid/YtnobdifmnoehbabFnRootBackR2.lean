/- Runs of the program at a seat. -/
import Derived.Test.YtnobdifmnoehbabFnRootBackP
namespace Go.Proofs.Ytnobdifmnoehbab.fnRootBackRuns
open Go Go.Eng
set_option linter.unusedVariables false
set_option linter.unusedSectionVars false
set_option linter.unusedSimpArgs false
set_option maxRecDepth 100000
open Go.Proofs.Ytnobdifmnoehbab.roback
theorem g_e1_2 : Good (subL (wV (pvIx 0) 549755811888 549755815888) (pieceW 0 (549755813887, 549755813887)) t_e1) := .run ⟨.leaf, by kernel_rfl⟩
theorem g_e1_6 : Good (subL (wV (pvIx 0) 549755811888 549755815888) (pieceW 0 (549755814889, 549755815888)) t_e1) := .run ⟨.leaf, by kernel_rfl⟩
theorem g_e2_0 : Good (subL (wV (pvIx 0) 549755811888 549755815888) (pieceW 0 (549755811888, 549755812887)) t_e2) := .run ⟨.leaf, by kernel_rfl⟩
theorem g_e2_1_3 : Good (subL (wV (pvIx 1) 549755811888 549755815888) (pieceW 1 (549755813888, 549755813888)) (subL (wV (pvIx 0) 549755811888 549755815888) (pieceW 0 (549755812888, 549755814888)) t_e2)) := .run ⟨.leaf, by kernel_rfl⟩
theorem g_e2_1_6 : Good (subL (wV (pvIx 1) 549755811888 549755815888) (pieceW 1 (549755814889, 549755815888)) (subL (wV (pvIx 0) 549755811888 549755815888) (pieceW 0 (549755812888, 549755814888)) t_e2)) := .run ⟨.leaf, by kernel_rfl⟩
theorem g_x2 : Good t_x2 := .run ⟨.leaf, by kernel_rfl⟩
theorem g_e2p_1 : Good (subL (wV (pvIx 0) 549755811888 549755815888) (pieceW 0 (549755812888, 549755814888)) t_e2p) := .run ⟨.leaf, by kernel_rfl⟩
theorem g_e2m_1 : Good (subL (wV (pvIx 0) 549755811888 549755815888) (pieceW 0 (549755812888, 549755814888)) t_e2m) := .run ⟨.leaf, by kernel_rfl⟩
theorem g_e3_1_1_1 : Good (subL (wV (pvIx 2) 549755811888 549755815888) (pieceW 2 (549755812888, 549755813886)) (subL (wV (pvIx 1) 549755811888 549755815888) (pieceW 1 (549755812888, 549755814888)) (subL (wV (pvIx 0) 549755811888 549755815888) (pieceW 0 (549755812888, 549755814888)) t_e3))) := .run ⟨(.tri (.mul (.v 1) (.v 2)) 9223372036854774808 9223372036854776808 .leaf (.tri (.mul (.v 0) (.v 2)) 9223372036854774808 9223372036854776808 .leaf .leaf .leaf) .leaf), by kernel_rfl⟩
theorem g_e4_1_1_1_1 : Good (subL (wV (pvIx 3) 549755811888 549755815888) (pieceW 3 (549755812888, 549755813886)) (subL (wV (pvIx 2) 549755811888 549755815888) (pieceW 2 (549755812888, 549755814888)) (subL (wV (pvIx 1) 549755811888 549755815888) (pieceW 1 (549755812888, 549755814888)) (subL (wV (pvIx 0) 549755811888 549755815888) (pieceW 0 (549755812888, 549755814888)) t_e4)))) := .run ⟨(.tri (.mul (.v 2) (.v 3)) 9223372036854774808 9223372036854776808 .leaf (.tri (.mul (.v 1) (.v 3)) 9223372036854774808 9223372036854776808 .leaf (.tri (.mul (.v 0) (.v 3)) 9223372036854774808 9223372036854776808 .leaf .leaf .leaf) .leaf) .leaf), by kernel_rfl⟩
end Go.Proofs.Ytnobdifmnoehbab.fnRootBackRuns
