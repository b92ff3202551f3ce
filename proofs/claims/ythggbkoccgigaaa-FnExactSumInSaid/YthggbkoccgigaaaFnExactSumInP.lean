/- Runs of the program at a seat. -/
import Derived.Test.YthggbkoccgigaaaSumM
namespace Go.Proofs.Ythggbkoccgigaaa.fnExactSumInRuns
open Go Go.Eng
set_option linter.unusedVariables false
set_option linter.unusedSectionVars false
set_option linter.unusedSimpArgs false
noncomputable def runS (k e : Nat) : Bool := isTrue (oneSum Try.prog Go.Proofs.Ythggbkoccgigaaa.sumM.mS (⟨42, 43, 96, 58, 55⟩ : Fns) (⟨44, 45, 80, 182⟩ : SFns) 1000 60 12 k e)
noncomputable def runN (c : MC) (r : RC) : Bool := isTrue (oneNoS Try.prog Go.Proofs.Ythggbkoccgigaaa.sumM.mS (⟨42, 43, 96, 58, 55⟩ : Fns) (⟨44, 45, 80, 182⟩ : SFns) 1000 60 12 c r)
end Go.Proofs.Ythggbkoccgigaaa.fnExactSumInRuns
