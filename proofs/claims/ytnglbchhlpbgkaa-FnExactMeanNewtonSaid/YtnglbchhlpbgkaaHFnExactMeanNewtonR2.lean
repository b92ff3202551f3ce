/- Runs of the program at a seat. -/
import Derived.Test.YtnglbchhlpbgkaaHFnExactMeanNewtonP
namespace Go.Proofs.Ytnglbchhlpbgkaa.fnExactMeanNewtonRuns
open Go Go.Eng
set_option linter.unusedVariables false
set_option linter.unusedSectionVars false
set_option linter.unusedSimpArgs false
set_option maxRecDepth 100000
theorem q1_1 : ∃ k, chkRow (runB (.up 4)) k (repB bAll 1) = true := ⟨100, by kernel_rfl⟩
theorem q1_4 : ∃ k, chkRow (runB (.is 2)) k (repB bAll 1) = true := ⟨100, by kernel_rfl⟩
theorem q2_1 : ∃ k, chkRow (runB (.up 4)) k (repB bAll 2) = true := ⟨100, by kernel_rfl⟩
theorem q2_5 : ∃ k, chkRow (runB (.is 1)) k (repB bAll 2) = true := ⟨100, by kernel_rfl⟩
theorem q3_3 : ∃ k, chkRow (runB (.is 3)) k (repB bAll 3) = true := ⟨100, by kernel_rfl⟩
theorem q4_1 : ∃ k, chkRow (runB (.up 4)) k (repB bAll 4) = true := ⟨100, by kernel_rfl⟩
theorem q4_5 : ∃ k, chkRow (runB (.is 1)) k (repB bAll 4) = true := ⟨100, by kernel_rfl⟩
theorem q5_3 : ∃ k, chkRow (runB (.is 3)) k (repB bAll 5) = true := ⟨100, by kernel_rfl⟩
end Go.Proofs.Ytnglbchhlpbgkaa.fnExactMeanNewtonRuns
