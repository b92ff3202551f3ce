/- Runs of the program at a seat. -/
import Derived.Test.YtnglbchhlpbgkacEngZn
import Derived.Test.YtnglbchhlpbgkacProg
import Derived.Test.YtnglbchhlpbgkacPnM
namespace Go.Proofs.Ytnglbchhlpbgkac.fnExactProductNumberRuns
open Go Go.Eng
set_option linter.unusedVariables false
set_option linter.unusedSectionVars false
set_option linter.unusedSimpArgs false
set_option maxRecDepth 100000
noncomputable def run (c0 : Cls) (c1 : Cls) (c2 : Cls) : Bool := isTrue (threeRun Try.prog Go.Proofs.Ytnglbchhlpbgkac.memo.pnS (⟨18, 20, 20, 53, 50⟩ : Fns) 1000 60 4 c0 c1 c2)
noncomputable def gB {α : Type} (l : List α) (f : α → Bool) : Bool := List.rec (motive := fun _ => Bool) true (fun x _ ih => sel (f x) ih false) l
theorem gB_mem {α : Type} {f : α → Bool} : ∀ {l : List α}, gB l f = true → ∀ x ∈ l, f x = true
  | [], _ => fun x hx => by cases hx
  | a :: l, h => fun x hx => by
    have e : gB (a :: l) f = sel (f a) (gB l f) false := rfl
    rw [e] at h
    obtain ⟨h1, h2⟩ := sel_and h
    rcases List.mem_cons.1 hx with rfl | hx
    · exact h1
    · exact gB_mem h2 x hx
theorem cm {α : Type} {p : α → Prop} {a : α} {l : List α} (h : p a) (t : ∀ x ∈ l, p x) : ∀ x ∈ a :: l, p x := List.forall_mem_cons.2 ⟨h, t⟩
theorem nm {α : Type} {p : α → Prop} : ∀ x ∈ ([] : List α), p x := List.forall_mem_nil _
theorem eq_classes : classes = [.nil, .zero, .no, .long, .row [], .row [1], .row [1, 1], .row [1, 1, 1], .row [1, 1, 1, 1], .row [1, 1, 1, 1, 1], .row [1, 1, 1, 1, 1, 1], .row [2], .row [2, 1], .row [2, 1, 1], .row [2, 1, 1, 1], .row [2, 1, 1, 1, 1], .row [2, 2], .row [2, 2, 1], .row [2, 2, 1, 1], .row [2, 2, 2], .row [3], .row [3, 1], .row [3, 1, 1], .row [3, 1, 1, 1], .row [3, 2], .row [3, 2, 1], .row [3, 3], .row [4], .row [4, 1], .row [4, 1, 1], .row [4, 2], .row [5], .row [5, 1], .row [6]] := by unfold classes; rw [shares_eq]; rfl
end Go.Proofs.Ytnglbchhlpbgkac.fnExactProductNumberRuns
