/- Runs of the program at a seat. -/
import Derived.Test.YtnglbchhlpbgkabNewtonH
namespace Go.Proofs.Ytnglbchhlpbgkab.fnNewtonRuns
open Go Go.Eng
set_option linter.unusedVariables false
set_option linter.unusedSectionVars false
set_option linter.unusedSimpArgs false
noncomputable def S0 : Sums := Go.Proofs.Ytnglbchhlpbgkab.newtonDrawn.allsS
theorem S0_always : Always Try.prog S0 := Go.Proofs.Ytnglbchhlpbgkab.newtonDrawn.allsS_always
noncomputable def run (l : List DI) : Bool := isTrue (drewRun Try.prog S0 22 false 0 l 1000 60 5)
@[reducible] noncomputable def G (tab : Tab) : Prop := CoversG (DrawnM Try.prog S0 22 false 0 1000 60 5) Go.Proofs.Ytnglbchhlpbgkab.newtonDrawn.dR tab
theorem chkFM_leaf {run no : List FE → Bool} {fs : List FE} (h : run fs = true) : chkFM run no .leaf fs = true := h
theorem chkFM_no {run no : List FE → Bool} {fs : List FE} (h : no fs = true) : chkFM run no .no fs = true := h
theorem chkFM_tri {run no : List FE → Bool} {e : PX} {a b : Nat} {x y z : FM} {fs : List FE} (h : sel e.ok (sel (sel (Nat.ble 1 a) (Nat.ble a b) false) (ltb b 18446744073709551615) false) false = true) (h1 : chkFM run no x ((e, 0, Nat.pred a) :: fs) = true) (h2 : chkFM run no y ((e, a, b) :: fs) = true) (h3 : chkFM run no z ((e, Nat.succ b, 18446744073709551615) :: fs) = true) : chkFM run no (.tri e a b x y z) fs = true := by
  show sel _ (sel (chkFM run no x ((e, 0, Nat.pred a) :: fs)) (sel (chkFM run no y ((e, a, b) :: fs)) (chkFM run no z ((e, Nat.succ b, 18446744073709551615) :: fs)) false) false) false = true
  rw [h, h1, h2, h3]; rfl
theorem cm {α : Type} {p : α → Prop} {a : α} {l : List α} (h : p a) (t : ∀ x ∈ l, p x) : ∀ x ∈ a :: l, p x := List.forall_mem_cons.2 ⟨h, t⟩
theorem nm {α : Type} {p : α → Prop} : ∀ x ∈ ([] : List α), p x := List.forall_mem_nil _
@[reducible] noncomputable def A (ls : List (List DI)) : Prop := AllI (GoodM Try.prog S0 22 false 0 1000 60 5) ls
end Go.Proofs.Ytnglbchhlpbgkab.fnNewtonRuns
