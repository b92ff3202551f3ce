/- Runs of the program at a seat. -/
import Derived.Test.YtliimffphokmpaaFnSumTimesR8
namespace Go.Proofs.Ytliimffphokmpaa.fnSumTimesRuns
open Go Go.Eng
set_option linter.unusedVariables false
set_option linter.unusedSectionVars false
set_option linter.unusedSimpArgs false
set_option maxRecDepth 100000
open Go.Proofs.Ytliimffphokmpaa.dssumtimes
theorem h_2_0 : Good (subL (wV (pvIx 10) 549755813885 549755813891) (pieceW 10 (549755813885, 549755813885)) u_2) := .run ⟨.leaf, by kernel_rfl⟩
theorem h_2_1 : Good (subL (wV (pvIx 10) 549755813885 549755813891) (pieceW 10 (549755813886, 549755813886)) u_2) := .run ⟨.leaf, by kernel_rfl⟩
theorem h_2_2 : Good (subL (wV (pvIx 10) 549755813885 549755813891) (pieceW 10 (549755813890, 549755813891)) u_2) := .run ⟨.leaf, by kernel_rfl⟩
theorem h_3_0 : Good (subL (wV (pvIx 11) 549755813885 549755813891) (pieceW 11 (549755813885, 549755813885)) u_3) := .run ⟨.leaf, by kernel_rfl⟩
theorem h_3_1 : Good (subL (wV (pvIx 11) 549755813885 549755813891) (pieceW 11 (549755813886, 549755813886)) u_3) := .run ⟨.leaf, by kernel_rfl⟩
theorem h_3_2 : Good (subL (wV (pvIx 11) 549755813885 549755813891) (pieceW 11 (549755813890, 549755813891)) u_3) := .run ⟨.leaf, by kernel_rfl⟩
end Go.Proofs.Ytliimffphokmpaa.fnSumTimesRuns
