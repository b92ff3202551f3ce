/- Runs of the program at a seat. -/
import Derived.Test.YtliimffphokmpaaFnSumTimesR8
namespace Go.Proofs.Ytliimffphokmpaa.fnSumTimesRuns
open Go Go.Eng
set_option linter.unusedVariables false
set_option linter.unusedSectionVars false
set_option linter.unusedSimpArgs false
set_option maxRecDepth 100000
open Go.Proofs.Ytliimffphokmpaa.dssumtimes
theorem h_0_0 : Good (subL (wV (pvIx 8) 549755813885 549755813891) (pieceW 8 (549755813885, 549755813885)) u_0) := .run ⟨.leaf, by kernel_rfl⟩
theorem h_0_1 : Good (subL (wV (pvIx 8) 549755813885 549755813891) (pieceW 8 (549755813886, 549755813886)) u_0) := .run ⟨.leaf, by kernel_rfl⟩
theorem h_0_2 : Good (subL (wV (pvIx 8) 549755813885 549755813891) (pieceW 8 (549755813890, 549755813891)) u_0) := .run ⟨.leaf, by kernel_rfl⟩
theorem h_1_0 : Good (subL (wV (pvIx 9) 549755813885 549755813891) (pieceW 9 (549755813885, 549755813885)) u_1) := .run ⟨.leaf, by kernel_rfl⟩
theorem h_1_1 : Good (subL (wV (pvIx 9) 549755813885 549755813891) (pieceW 9 (549755813886, 549755813886)) u_1) := .run ⟨.leaf, by kernel_rfl⟩
theorem h_1_2 : Good (subL (wV (pvIx 9) 549755813885 549755813891) (pieceW 9 (549755813890, 549755813891)) u_1) := .run ⟨.leaf, by kernel_rfl⟩
end Go.Proofs.Ytliimffphokmpaa.fnSumTimesRuns
