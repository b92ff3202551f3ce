/- Runs of the program at a seat. -/
import Derived.Test.YtnobdifmnoehbaaEngZi
import Derived.Test.YtnobdifmnoehbaaSumM
namespace Go.Proofs.Ytnobdifmnoehbaa.fnExactSumAddRuns
open Go Go.Eng
set_option linter.unusedVariables false
set_option linter.unusedSectionVars false
set_option linter.unusedSimpArgs false
noncomputable def run1 (k e k2 e2 : Nat) : Bool := isTrue (sumSum Try.prog Go.Proofs.Ytnobdifmnoehbaa.sumM.mS (⟨16, 18, 21, 83, 81⟩ : Fns) (⟨44, 92, 95, 178⟩ : SFns) 1000 60 14 k e k2 e2)
noncomputable def run2 (k e : Nat) (o : OC) : Bool := isTrue (sumSumO Try.prog Go.Proofs.Ytnobdifmnoehbaa.sumM.mS (⟨16, 18, 21, 83, 81⟩ : Fns) (⟨44, 92, 95, 178⟩ : SFns) 1000 60 14 k e o)
noncomputable def run3 (k e : Nat) (c : MC) (r : FC) : Bool := isTrue (sumNo Try.prog Go.Proofs.Ytnobdifmnoehbaa.sumM.mS (⟨16, 18, 21, 83, 81⟩ : Fns) (⟨44, 92, 95, 178⟩ : SFns) 1000 60 14 k e c r)
noncomputable def run4 (c : MC) (r : RC) (k e : Nat) : Bool := isTrue (noSum Try.prog Go.Proofs.Ytnobdifmnoehbaa.sumM.mS (⟨16, 18, 21, 83, 81⟩ : Fns) (⟨44, 92, 95, 178⟩ : SFns) 1000 60 14 c r k e)
noncomputable def run5 (c : MC) (r : RC) (c2 : MC) (r2 : FC) : Bool := isTrue (noNo Try.prog Go.Proofs.Ytnobdifmnoehbaa.sumM.mS (⟨16, 18, 21, 83, 81⟩ : Fns) (⟨44, 92, 95, 178⟩ : SFns) 1000 60 14 c r c2 r2)
noncomputable def gB {α : Type} (l : List α) (f : α → Bool) : Bool := List.rec (motive := fun _ => Bool) true (fun x _ ih => sel (f x) ih false) l
theorem gB_mem {α : Type} {f : α → Bool} : ∀ {l : List α}, gB l f = true → ∀ x ∈ l, f x = true
  | [], _ => fun x hx => by cases hx
  | a :: l, h => fun x hx => by
    have e : gB (a :: l) f = sel (f a) (gB l f) false := rfl
    rw [e] at h
    obtain ⟨h1, h2⟩ := sel_and h
    rcases List.mem_cons.1 hx with rfl | hx
    · exact h1
    · exact gB_mem h2 x hx
theorem cm {α : Type} {p : α → Prop} {a : α} {l : List α} (h : p a) (t : ∀ x ∈ l, p x) : ∀ x ∈ a :: l, p x := List.forall_mem_cons.2 ⟨h, t⟩
theorem nm {α : Type} {p : α → Prop} : ∀ x ∈ ([] : List α), p x := List.forall_mem_nil _
noncomputable def run0 (k e k2 e2 : Nat) : Bool := sel (Nat.beq k k2) (sel (Nat.beq e e2) true (run1 k e k2 e2)) (run1 k e k2 e2)
theorem run0_inv {k e k2 e2 : Nat} (h : run0 k e k2 e2 = true) : (k = k2 ∧ e = e2) ∨ run1 k e k2 e2 = true := by
  unfold run0 at h
  rw [sel_beq] at h
  split at h
  · rename_i h1
    rw [sel_beq] at h
    split at h
    · rename_i h2
      exact .inl ⟨h1, h2⟩
    · exact .inr h
  · exact .inr h
end Go.Proofs.Ytnobdifmnoehbaa.fnExactSumAddRuns
