/- Runs of the program at a seat. -/
import Derived.Test.YthggbkoccgigaaaEngZi
import Derived.Test.YthggbkoccgigaaaSumM
namespace Go.Proofs.Ythggbkoccgigaaa.fnExactSumTimesRuns
open Go Go.Eng
set_option linter.unusedVariables false
set_option linter.unusedSectionVars false
set_option linter.unusedSimpArgs false
noncomputable def runS (k e : Nat) (c : KC) : Bool := isTrue (sumInt Try.prog Go.Proofs.Ythggbkoccgigaaa.sumM.mS (⟨42, 43, 96, 58, 55⟩ : Fns) (⟨44, 45, 80, 182⟩ : SFns) 1000 60 14 k e c)
noncomputable def runO (k e : Nat) (o : OC) : Bool := isTrue (sumIntO Try.prog Go.Proofs.Ythggbkoccgigaaa.sumM.mS (⟨42, 43, 96, 58, 55⟩ : Fns) (⟨44, 45, 80, 182⟩ : SFns) 1000 60 14 k e o)
noncomputable def runN (c : MC) (r : RC) (k : KC) : Bool := isTrue (noInt Try.prog Go.Proofs.Ythggbkoccgigaaa.sumM.mS (⟨42, 43, 96, 58, 55⟩ : Fns) (⟨44, 45, 80, 182⟩ : SFns) 1000 60 14 c r k)
end Go.Proofs.Ythggbkoccgigaaa.fnExactSumTimesRuns
