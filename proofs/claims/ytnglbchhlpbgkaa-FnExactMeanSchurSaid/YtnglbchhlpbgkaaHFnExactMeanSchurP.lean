/- Runs of the program at a seat. -/
import Derived.Test.YtnglbchhlpbgkaaHEngZo
import Derived.Test.YtnglbchhlpbgkaaProg
namespace Go.Proofs.Ytnglbchhlpbgkaa.fnExactMeanSchurRuns
open Go Go.Eng
set_option linter.unusedVariables false
set_option linter.unusedSectionVars false
set_option linter.unusedSimpArgs false
set_option maxRecDepth 100000
noncomputable def gB {α : Type} (l : List α) (f : α → Bool) : Bool := List.rec (motive := fun _ => Bool) true (fun x _ ih => sel (f x) ih false) l
theorem gB_mem {α : Type} {f : α → Bool} : ∀ {l : List α}, gB l f = true → ∀ x ∈ l, f x = true
  | [], _ => fun x hx => by cases hx
  | a :: l, h => fun x hx => by
    have e : gB (a :: l) f = sel (f a) (gB l f) false := rfl
    rw [e] at h
    obtain ⟨h1, h2⟩ := sel_andN h
    rcases List.mem_cons.1 hx with rfl | hx
    · exact h1
    · exact gB_mem h2 x hx
theorem cm {α : Type} {p : α → Prop} {a : α} {l : List α} (h : p a) (t : ∀ x ∈ l, p x) : ∀ x ∈ a :: l, p x := List.forall_mem_cons.2 ⟨h, t⟩
theorem nm {α : Type} {p : α → Prop} : ∀ x ∈ ([] : List α), p x := List.forall_mem_nil _
noncomputable def run (a b c d : ZC) : Bool := isTrue (zzzzRun Try.prog noSums 1000 60 9 a b c d)
theorem eqA : zcs (-5) 10 = [.low (-5), .up 5, .is 5, .is 4, .is 3, .is 2, .is 1, .is 0, .is (-1), .is (-2), .is (-3), .is (-4), .is (-5)] := by kernel_rfl
end Go.Proofs.Ytnglbchhlpbgkaa.fnExactMeanSchurRuns
