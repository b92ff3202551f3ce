/- Runs of the program at a seat. -/
import Derived.Test.YtnglbchhlpbgkaaHFnExactMeanNewtonR0
import Derived.Test.YtnglbchhlpbgkaaHFnExactMeanNewtonR1
import Derived.Test.YtnglbchhlpbgkaaHFnExactMeanNewtonR2
import Derived.Test.YtnglbchhlpbgkaaHFnExactMeanNewtonR3
namespace Go.Proofs.Ytnglbchhlpbgkaa.fnExactMeanNewtonRuns
open Go Go.Eng
set_option linter.unusedVariables false
set_option linter.unusedSectionVars false
set_option linter.unusedSimpArgs false
set_option maxRecDepth 100000
theorem rows0 : ∀ c ∈ lc5, ∀ y ∈ zcs 1 3, run0 c y = true := fun c hc y hy => gB_mem (gB_mem a0 c hc) y hy
theorem s1 : ∀ y ∈ zcs 1 3, ∃ k, chkRow (runB y) k (repB bAll 1) = true := by
  rw [eqA]
  exact cm q1_0 (cm q1_1 (cm q1_2 (cm q1_3 (cm q1_4 (cm q1_5 (nm))))))
theorem s2 : ∀ y ∈ zcs 1 3, ∃ k, chkRow (runB y) k (repB bAll 2) = true := by
  rw [eqA]
  exact cm q2_0 (cm q2_1 (cm q2_2 (cm q2_3 (cm q2_4 (cm q2_5 (nm))))))
theorem s3 : ∀ y ∈ zcs 1 3, ∃ k, chkRow (runB y) k (repB bAll 3) = true := by
  rw [eqA]
  exact cm q3_0 (cm q3_1 (cm q3_2 (cm q3_3 (cm q3_4 (cm q3_5 (nm))))))
theorem s4 : ∀ y ∈ zcs 1 3, ∃ k, chkRow (runB y) k (repB bAll 4) = true := by
  rw [eqA]
  exact cm q4_0 (cm q4_1 (cm q4_2 (cm q4_3 (cm q4_4 (cm q4_5 (nm))))))
theorem s5 : ∀ y ∈ zcs 1 3, ∃ k, chkRow (runB y) k (repB bAll 5) = true := by
  rw [eqA]
  exact cm q5_0 (cm q5_1 (cm q5_2 (cm q5_3 (cm q5_4 (cm q5_5 (nm))))))
theorem rows : ∀ n, 1 ≤ n → n ≤ 5 → ∀ y ∈ zcs 1 3, ∃ k, chkRow (runB y) k (repB bAll n) = true := fun n h1 h2 => by
  have h : n = 1 ∨ n = 2 ∨ n = 3 ∨ n = 4 ∨ n = 5 := by omega
  rcases h with rfl | rfl | rfl | rfl | rfl
  · exact s1
  · exact s2
  · exact s3
  · exact s4
  · exact s5
end Go.Proofs.Ytnglbchhlpbgkaa.fnExactMeanNewtonRuns
