/- Runs of the program at a seat. -/
import Derived.Test.YtnglbchhlpbgkaaHFnExactMeanPureR0
import Derived.Test.YtnglbchhlpbgkaaHFnExactMeanPureR1
import Derived.Test.YtnglbchhlpbgkaaHFnExactMeanPureR2
import Derived.Test.YtnglbchhlpbgkaaHFnExactMeanPureR3
namespace Go.Proofs.Ytnglbchhlpbgkaa.fnExactMeanPureRuns
open Go Go.Eng
set_option linter.unusedVariables false
set_option linter.unusedSectionVars false
set_option linter.unusedSimpArgs false
set_option maxRecDepth 100000
theorem rows0 : ∀ c ∈ lc5, run0 c = true := fun c hc => gB_mem a0 c hc
theorem rows : ∀ n, 1 ≤ n → n ≤ 5 → ∃ k, chkRow runB k (repB bAll n) = true := fun n h1 h2 => by
  have h : n = 1 ∨ n = 2 ∨ n = 3 ∨ n = 4 ∨ n = 5 := by omega
  rcases h with rfl | rfl | rfl | rfl | rfl
  · exact q1
  · exact q2
  · exact q3
  · exact q4
  · exact q5
end Go.Proofs.Ytnglbchhlpbgkaa.fnExactMeanPureRuns
