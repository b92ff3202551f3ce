/- Runs of the program at a seat. -/
import Derived.Test.YtliimffphokmpaaFnSumTimesP
namespace Go.Proofs.Ytliimffphokmpaa.fnSumTimesRuns
open Go Go.Eng
set_option linter.unusedVariables false
set_option linter.unusedSectionVars false
set_option linter.unusedSimpArgs false
set_option maxRecDepth 100000
open Go.Proofs.Ytliimffphokmpaa.dssumtimes
theorem g_l4_5_0 : Good t_l4_5_0 := .run ⟨.leaf, by kernel_rfl⟩
noncomputable def u_0 : List DI := subL (wV (pvIx 4) 549756813884 549756813892) (pieceW 4 (549756813884, 549756813888)) t_a2_5_1
noncomputable def u_1 : List DI := subL (wV (pvIx 8) 549755813885 549755813891) (pieceW 8 (549755813887, 549755813889)) u_0
noncomputable def u_2 : List DI := subL (wV (pvIx 9) 549755813885 549755813891) (pieceW 9 (549755813887, 549755813889)) u_1
noncomputable def u_3 : List DI := subL (wV (pvIx 10) 549755813885 549755813891) (pieceW 10 (549755813887, 549755813889)) u_2
noncomputable def u_4 : List DI := subL (wV (pvIx 11) 549755813885 549755813891) (pieceW 11 (549755813887, 549755813889)) u_3
noncomputable def u_5 : List DI := subL (wV (pvIx 12) 549755813885 549755813891) (pieceW 12 (549755813887, 549755813889)) u_4
noncomputable def u_6 : List DI := subL (wV (pvIx 13) 549755813885 549755813891) (pieceW 13 (549755813887, 549755813889)) u_5
noncomputable def u_7 : List DI := subL (wV (pvIx 14) 549755813885 549755813891) (pieceW 14 (549755813887, 549755813889)) u_6
end Go.Proofs.Ytliimffphokmpaa.fnSumTimesRuns
