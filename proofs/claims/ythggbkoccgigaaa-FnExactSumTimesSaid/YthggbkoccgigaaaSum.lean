/- Runs of the program at a seat. -/
import Derived.Test.YthggbkoccgigaaaSumNoR0
import Derived.Test.YthggbkoccgigaaaSumNoR1
import Derived.Test.YthggbkoccgigaaaSumA
namespace Go.Proofs.Ythggbkoccgigaaa.sum
open Go Go.Eng Go.RowKit
set_option linter.unusedVariables false
set_option linter.unusedSectionVars false
set_option linter.unusedSimpArgs false
theorem sumK : SumK Try.prog 44 45 80 182 :=
  { kSz := ⟨Try.f44, Try.func44, by kernel_rfl, by decide⟩
    kIn := ⟨Try.f45, Try.func45, by kernel_rfl, by decide⟩
    kOf := ⟨Try.f80, Try.func80, by kernel_rfl, by decide⟩
    kGcd := ⟨Try.f182, Try.func182, by kernel_rfl, by decide⟩
    sz := fun w s d a len cap z h0 h1 h2 h3 => Go.Proofs.Ythggbkoccgigaaa.sumA.sz_calls w s d a len cap z h0 h1 h2 h3
    inn := fun w s d a len cap l h0 h1 h2 h3 => no_calls Go.Proofs.Ythggbkoccgigaaa.sumM.mS_always (fun _ => rfl) (fun E base => isNo_ok) Go.Proofs.Ythggbkoccgigaaa.sumNoin.h1 Go.Proofs.Ythggbkoccgigaaa.sumNoin.h2 Go.Proofs.Ythggbkoccgigaaa.sumNoin.h3 w s d a len cap l h0 h1 h2 h3
    off := fun w s d a len cap l h0 h1 h2 h3 => no_calls Go.Proofs.Ythggbkoccgigaaa.sumM.mS_always (fun _ => rfl) (fun E base => isNone_ok) Go.Proofs.Ythggbkoccgigaaa.sumNoof.h1 Go.Proofs.Ythggbkoccgigaaa.sumNoof.h2 Go.Proofs.Ythggbkoccgigaaa.sumNoof.h3 w s d a len cap l h0 h1 h2 h3
    gcd := fun w z h1 h2 => (Go.Proofs.Ythggbkoccgigaaa.sumA.gcd_calls w z h1 h2).mono fun e w' ⟨he, hw⟩ => ⟨he, hw ▸ Below.refl _ _⟩ }
end Go.Proofs.Ythggbkoccgigaaa.sum
