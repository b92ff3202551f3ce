/- Runs of the program at a seat. -/
import Derived.Test.YthggbkoccgigaabEngZj
import Derived.Test.YthggbkoccgigaabSumM
namespace Go.Proofs.Ythggbkoccgigaab.fnExactSumCountRuns
open Go Go.Eng
set_option linter.unusedVariables false
set_option linter.unusedSectionVars false
set_option linter.unusedSimpArgs false
noncomputable def runS (k e : Nat) : Bool := isTrue (cntRun Try.prog Go.Proofs.Ythggbkoccgigaab.sumM.mS (⟨12, 15, 59, 15, 15⟩ : Fns) (⟨9, 33, 36, 170⟩ : SFns) 16 17 1000 60 4 k e)
noncomputable def runN (c : MC) (r : RC) : Bool := isTrue (oneNoS Try.prog Go.Proofs.Ythggbkoccgigaab.sumM.mS (⟨12, 15, 59, 15, 15⟩ : Fns) (⟨9, 33, 36, 170⟩ : SFns) 1000 60 4 c r)
noncomputable def yesS (k e : Nat) : Bool := isTrue (yesRun Try.prog Go.Proofs.Ythggbkoccgigaab.sumM.mS 1000 60 33 k e)
noncomputable def yesI (k e : Nat) : Bool := isTrue (yesRun Try.prog Go.Proofs.Ythggbkoccgigaab.sumM.mS 1000 60 42 k e)
end Go.Proofs.Ythggbkoccgigaab.fnExactSumCountRuns
