/- Runs of the program at a seat. -/
import Derived.Test.YtnglbchhlpbgkaaHFnExactMeanNewtonP
namespace Go.Proofs.Ytnglbchhlpbgkaa.fnExactMeanNewtonRuns
open Go Go.Eng
set_option linter.unusedVariables false
set_option linter.unusedSectionVars false
set_option linter.unusedSimpArgs false
set_option maxRecDepth 100000
theorem a0 : gB lc5 (fun c => gB (zcs 1 3) (fun y => run0 c y)) = true := by kernel_rfl
theorem q2_3 : ∃ k, chkRow (runB (.is 3)) k (repB bAll 2) = true := ⟨100, by kernel_rfl⟩
theorem q3_1 : ∃ k, chkRow (runB (.up 4)) k (repB bAll 3) = true := ⟨100, by kernel_rfl⟩
theorem q3_5 : ∃ k, chkRow (runB (.is 1)) k (repB bAll 3) = true := ⟨100, by kernel_rfl⟩
theorem q4_3 : ∃ k, chkRow (runB (.is 3)) k (repB bAll 4) = true := ⟨100, by kernel_rfl⟩
theorem q5_1 : ∃ k, chkRow (runB (.up 4)) k (repB bAll 5) = true := ⟨100, by kernel_rfl⟩
theorem q5_5 : ∃ k, chkRow (runB (.is 1)) k (repB bAll 5) = true := ⟨100, by kernel_rfl⟩
end Go.Proofs.Ytnglbchhlpbgkaa.fnExactMeanNewtonRuns
