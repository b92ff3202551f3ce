/- Runs of the program at a seat. -/
import Derived.Test.YtliimffphokmpaaFnSumTimesR8
namespace Go.Proofs.Ytliimffphokmpaa.fnSumTimesRuns
open Go Go.Eng
set_option linter.unusedVariables false
set_option linter.unusedSectionVars false
set_option linter.unusedSimpArgs false
set_option maxRecDepth 100000
open Go.Proofs.Ytliimffphokmpaa.dssumtimes
theorem h_4_0 : Good (subL (wV (pvIx 12) 549755813885 549755813891) (pieceW 12 (549755813885, 549755813885)) u_4) := .run ⟨.leaf, by kernel_rfl⟩
theorem h_4_1 : Good (subL (wV (pvIx 12) 549755813885 549755813891) (pieceW 12 (549755813886, 549755813886)) u_4) := .run ⟨.leaf, by kernel_rfl⟩
theorem h_4_2 : Good (subL (wV (pvIx 12) 549755813885 549755813891) (pieceW 12 (549755813890, 549755813891)) u_4) := .run ⟨.leaf, by kernel_rfl⟩
theorem h_5_0 : Good (subL (wV (pvIx 13) 549755813885 549755813891) (pieceW 13 (549755813885, 549755813885)) u_5) := .run ⟨.leaf, by kernel_rfl⟩
theorem h_5_1 : Good (subL (wV (pvIx 13) 549755813885 549755813891) (pieceW 13 (549755813886, 549755813886)) u_5) := .run ⟨.leaf, by kernel_rfl⟩
theorem h_5_2 : Good (subL (wV (pvIx 13) 549755813885 549755813891) (pieceW 13 (549755813890, 549755813891)) u_5) := .run ⟨.leaf, by kernel_rfl⟩
theorem h_6_0 : Good (subL (wV (pvIx 14) 549755813885 549755813891) (pieceW 14 (549755813885, 549755813885)) u_6) := .run ⟨.leaf, by kernel_rfl⟩
theorem h_6_1 : Good (subL (wV (pvIx 14) 549755813885 549755813891) (pieceW 14 (549755813886, 549755813886)) u_6) := .run ⟨.leaf, by kernel_rfl⟩
theorem h_6_2 : Good (subL (wV (pvIx 14) 549755813885 549755813891) (pieceW 14 (549755813890, 549755813891)) u_6) := .run ⟨.leaf, by kernel_rfl⟩
theorem gu_7 : Good u_7 := .run ⟨.leaf, by kernel_rfl⟩
end Go.Proofs.Ytliimffphokmpaa.fnSumTimesRuns
