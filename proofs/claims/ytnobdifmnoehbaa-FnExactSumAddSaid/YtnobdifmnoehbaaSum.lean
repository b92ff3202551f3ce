/- Runs of the program at a seat. -/
import Derived.Test.YtnobdifmnoehbaaSumNoR0
import Derived.Test.YtnobdifmnoehbaaSumNoR1
import Derived.Test.YtnobdifmnoehbaaSumA
namespace Go.Proofs.Ytnobdifmnoehbaa.sum
open Go Go.Eng Go.RowKit
set_option linter.unusedVariables false
set_option linter.unusedSectionVars false
set_option linter.unusedSimpArgs false
theorem sumK : SumK Try.prog 44 92 95 178 :=
  { kSz := ⟨Try.f44, Try.func44, by kernel_rfl, by decide⟩
    kIn := ⟨Try.f92, Try.func92, by kernel_rfl, by decide⟩
    kOf := ⟨Try.f95, Try.func95, by kernel_rfl, by decide⟩
    kGcd := ⟨Try.f178, Try.func178, by kernel_rfl, by decide⟩
    sz := fun w s d a len cap z h0 h1 h2 h3 => Go.Proofs.Ytnobdifmnoehbaa.sumA.sz_calls w s d a len cap z h0 h1 h2 h3
    inn := fun w s d a len cap l h0 h1 h2 h3 => no_calls Go.Proofs.Ytnobdifmnoehbaa.sumM.mS_always (fun _ => rfl) (fun E base => isNo_ok) Go.Proofs.Ytnobdifmnoehbaa.sumNoin.h1 Go.Proofs.Ytnobdifmnoehbaa.sumNoin.h2 Go.Proofs.Ytnobdifmnoehbaa.sumNoin.h3 w s d a len cap l h0 h1 h2 h3
    off := fun w s d a len cap l h0 h1 h2 h3 => no_calls Go.Proofs.Ytnobdifmnoehbaa.sumM.mS_always (fun _ => rfl) (fun E base => isNone_ok) Go.Proofs.Ytnobdifmnoehbaa.sumNoof.h1 Go.Proofs.Ytnobdifmnoehbaa.sumNoof.h2 Go.Proofs.Ytnobdifmnoehbaa.sumNoof.h3 w s d a len cap l h0 h1 h2 h3
    gcd := fun w z h1 h2 => (Go.Proofs.Ytnobdifmnoehbaa.sumA.gcd_calls w z h1 h2).mono fun e w' ⟨he, hw⟩ => ⟨he, hw ▸ Below.refl _ _⟩ }
end Go.Proofs.Ytnobdifmnoehbaa.sum
