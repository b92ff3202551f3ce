/- Runs of the program at a seat. -/
import Derived.Test.YtnobdifmnoehbabFnRootBackP
namespace Go.Proofs.Ytnobdifmnoehbab.fnRootBackRuns
open Go Go.Eng
set_option linter.unusedVariables false
set_option linter.unusedSectionVars false
set_option linter.unusedSimpArgs false
set_option maxRecDepth 100000
open Go.Proofs.Ytnobdifmnoehbab.roback
theorem g_e1_3 : Good (subL (wV (pvIx 0) 549755811888 549755815888) (pieceW 0 (549755813888, 549755813888)) t_e1) := .run ⟨.leaf, by kernel_rfl⟩
theorem g_x1 : Good t_x1 := .run ⟨.leaf, by kernel_rfl⟩
theorem g_e2_1_0 : Good (subL (wV (pvIx 1) 549755811888 549755815888) (pieceW 1 (549755811888, 549755812887)) (subL (wV (pvIx 0) 549755811888 549755815888) (pieceW 0 (549755812888, 549755814888)) t_e2)) := .run ⟨.leaf, by kernel_rfl⟩
theorem g_e2_1_4 : Good (subL (wV (pvIx 1) 549755811888 549755815888) (pieceW 1 (549755813889, 549755813889)) (subL (wV (pvIx 0) 549755811888 549755815888) (pieceW 0 (549755812888, 549755814888)) t_e2)) := .run ⟨.leaf, by kernel_rfl⟩
theorem g_e2_2 : Good (subL (wV (pvIx 0) 549755811888 549755815888) (pieceW 0 (549755814889, 549755815888)) t_e2) := .run ⟨.leaf, by kernel_rfl⟩
theorem g_e2p_0 : Good (subL (wV (pvIx 0) 549755811888 549755815888) (pieceW 0 (549755811888, 549755812887)) t_e2p) := .run ⟨.leaf, by kernel_rfl⟩
theorem g_e2p_2 : Good (subL (wV (pvIx 0) 549755811888 549755815888) (pieceW 0 (549755814889, 549755815888)) t_e2p) := .run ⟨.leaf, by kernel_rfl⟩
theorem g_x2p : Good t_x2p := .run ⟨.leaf, by kernel_rfl⟩
theorem g_e2m_2 : Good (subL (wV (pvIx 0) 549755811888 549755815888) (pieceW 0 (549755814889, 549755815888)) t_e2m) := .run ⟨.leaf, by kernel_rfl⟩
theorem g_e3_0 : Good (subL (wV (pvIx 0) 549755811888 549755815888) (pieceW 0 (549755811888, 549755812887)) t_e3) := .run ⟨.leaf, by kernel_rfl⟩
theorem g_e3_1_1_2 : Good (subL (wV (pvIx 2) 549755811888 549755815888) (pieceW 2 (549755813887, 549755813887)) (subL (wV (pvIx 1) 549755811888 549755815888) (pieceW 1 (549755812888, 549755814888)) (subL (wV (pvIx 0) 549755811888 549755815888) (pieceW 0 (549755812888, 549755814888)) t_e3))) := .run ⟨.leaf, by kernel_rfl⟩
theorem g_e3_1_1_5 : Good (subL (wV (pvIx 2) 549755811888 549755815888) (pieceW 2 (549755813890, 549755814888)) (subL (wV (pvIx 1) 549755811888 549755815888) (pieceW 1 (549755812888, 549755814888)) (subL (wV (pvIx 0) 549755811888 549755815888) (pieceW 0 (549755812888, 549755814888)) t_e3))) := .run ⟨(.tri (.mul (.v 1) (.v 2)) 9223372036854774808 9223372036854776808 .leaf (.tri (.mul (.v 0) (.v 2)) 9223372036854774808 9223372036854776808 .leaf .leaf .leaf) .leaf), by kernel_rfl⟩
theorem g_e4_1_1_1_4 : Good (subL (wV (pvIx 3) 549755811888 549755815888) (pieceW 3 (549755813889, 549755813889)) (subL (wV (pvIx 2) 549755811888 549755815888) (pieceW 2 (549755812888, 549755814888)) (subL (wV (pvIx 1) 549755811888 549755815888) (pieceW 1 (549755812888, 549755814888)) (subL (wV (pvIx 0) 549755811888 549755815888) (pieceW 0 (549755812888, 549755814888)) t_e4)))) := .run ⟨.leaf, by kernel_rfl⟩
theorem g_e4_2 : Good (subL (wV (pvIx 0) 549755811888 549755815888) (pieceW 0 (549755814889, 549755815888)) t_e4) := .run ⟨.leaf, by kernel_rfl⟩
theorem g_e4p_0 : Good (subL (wV (pvIx 0) 549755811888 549755815888) (pieceW 0 (549755811888, 549755812887)) t_e4p) := .run ⟨.leaf, by kernel_rfl⟩
theorem g_e4p_1_1_0 : Good (subL (wV (pvIx 2) 549755811888 549755815888) (pieceW 2 (549755811888, 549755812887)) (subL (wV (pvIx 1) 549755811888 549755815888) (pieceW 1 (549755812888, 549755814888)) (subL (wV (pvIx 0) 549755811888 549755815888) (pieceW 0 (549755812888, 549755814888)) t_e4p))) := .run ⟨.leaf, by kernel_rfl⟩
theorem g_e4p_1_1_2 : Good (subL (wV (pvIx 2) 549755811888 549755815888) (pieceW 2 (549755814889, 549755815888)) (subL (wV (pvIx 1) 549755811888 549755815888) (pieceW 1 (549755812888, 549755814888)) (subL (wV (pvIx 0) 549755811888 549755815888) (pieceW 0 (549755812888, 549755814888)) t_e4p))) := .run ⟨.leaf, by kernel_rfl⟩
theorem g_e4p_1_2 : Good (subL (wV (pvIx 1) 549755811888 549755815888) (pieceW 1 (549755814889, 549755815888)) (subL (wV (pvIx 0) 549755811888 549755815888) (pieceW 0 (549755812888, 549755814888)) t_e4p)) := .run ⟨.leaf, by kernel_rfl⟩
theorem g_e4p_2 : Good (subL (wV (pvIx 0) 549755811888 549755815888) (pieceW 0 (549755814889, 549755815888)) t_e4p) := .run ⟨.leaf, by kernel_rfl⟩
theorem g_x4p : Good t_x4p := .run ⟨.leaf, by kernel_rfl⟩
theorem g_e4m_1_0 : Good (subL (wV (pvIx 1) 549755811888 549755815888) (pieceW 1 (549755811888, 549755812887)) (subL (wV (pvIx 0) 549755811888 549755815888) (pieceW 0 (549755812888, 549755814888)) t_e4m)) := .run ⟨.leaf, by kernel_rfl⟩
theorem g_e4m_1_1_1 : Good (subL (wV (pvIx 2) 549755811888 549755815888) (pieceW 2 (549755812888, 549755814888)) (subL (wV (pvIx 1) 549755811888 549755815888) (pieceW 1 (549755812888, 549755814888)) (subL (wV (pvIx 0) 549755811888 549755815888) (pieceW 0 (549755812888, 549755814888)) t_e4m))) := .run ⟨.leaf, by kernel_rfl⟩
end Go.Proofs.Ytnobdifmnoehbab.fnRootBackRuns
