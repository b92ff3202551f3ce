/- Runs of the program at a seat. -/
import Derived.Test.YthggbkoccgigaabSumNoR0
import Derived.Test.YthggbkoccgigaabSumNoR1
import Derived.Test.YthggbkoccgigaabSumA
namespace Go.Proofs.Ythggbkoccgigaab.sum
open Go Go.Eng Go.RowKit
set_option linter.unusedVariables false
set_option linter.unusedSectionVars false
set_option linter.unusedSimpArgs false
theorem sumK : SumK Try.prog 9 33 36 170 :=
  { kSz := ⟨Try.f9, Try.func9, by kernel_rfl, by decide⟩
    kIn := ⟨Try.f33, Try.func33, by kernel_rfl, by decide⟩
    kOf := ⟨Try.f36, Try.func36, by kernel_rfl, by decide⟩
    kGcd := ⟨Try.f170, Try.func170, by kernel_rfl, by decide⟩
    sz := fun w s d a len cap z h0 h1 h2 h3 => Go.Proofs.Ythggbkoccgigaab.sumA.sz_calls w s d a len cap z h0 h1 h2 h3
    inn := fun w s d a len cap l h0 h1 h2 h3 => no_calls Go.Proofs.Ythggbkoccgigaab.sumM.mS_always (fun _ => rfl) (fun E base => isNo_ok) Go.Proofs.Ythggbkoccgigaab.sumNoin.h1 Go.Proofs.Ythggbkoccgigaab.sumNoin.h2 Go.Proofs.Ythggbkoccgigaab.sumNoin.h3 w s d a len cap l h0 h1 h2 h3
    off := fun w s d a len cap l h0 h1 h2 h3 => no_calls Go.Proofs.Ythggbkoccgigaab.sumM.mS_always (fun _ => rfl) (fun E base => isNone_ok) Go.Proofs.Ythggbkoccgigaab.sumNoof.h1 Go.Proofs.Ythggbkoccgigaab.sumNoof.h2 Go.Proofs.Ythggbkoccgigaab.sumNoof.h3 w s d a len cap l h0 h1 h2 h3
    gcd := fun w z h1 h2 => (Go.Proofs.Ythggbkoccgigaab.sumA.gcd_calls w z h1 h2).mono fun e w' ⟨he, hw⟩ => ⟨he, hw ▸ Below.refl _ _⟩ }
end Go.Proofs.Ythggbkoccgigaab.sum
