/- Runs of the program at a seat. -/
import Derived.Test.YtnglbchhlpbgkaaHFnExactMeanPureP
namespace Go.Proofs.Ytnglbchhlpbgkaa.fnExactMeanPureRuns
open Go Go.Eng
set_option linter.unusedVariables false
set_option linter.unusedSectionVars false
set_option linter.unusedSimpArgs false
set_option maxRecDepth 100000
theorem q3 : ∃ k, chkRow runB k (repB bAll 3) = true := ⟨100, by kernel_rfl⟩
end Go.Proofs.Ytnglbchhlpbgkaa.fnExactMeanPureRuns
