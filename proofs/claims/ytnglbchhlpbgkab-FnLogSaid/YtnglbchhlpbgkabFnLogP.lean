/- Runs of the program at a seat. -/
import Derived.Test.YtnglbchhlpbgkabLogH
namespace Go.Proofs.Ytnglbchhlpbgkab.fnLogRuns
open Go Go.Eng
set_option linter.unusedVariables false
set_option linter.unusedSectionVars false
set_option linter.unusedSimpArgs false
noncomputable def S0 : Sums := Go.Proofs.Ytnglbchhlpbgkab.logDrawn.allsS
theorem S0_always : Always Try.prog S0 := Go.Proofs.Ytnglbchhlpbgkab.logDrawn.allsS_always
noncomputable def run (l : List DI) : Bool := isTrue (drewRun Try.prog S0 28 false 0 l 1000 60 7)
@[reducible] noncomputable def G (tab : Tab) : Prop := CoversG (DrawnM Try.prog S0 28 false 0 1000 60 7) Go.Proofs.Ytnglbchhlpbgkab.logDrawn.dR tab
theorem cm {α : Type} {p : α → Prop} {a : α} {l : List α} (h : p a) (t : ∀ x ∈ l, p x) : ∀ x ∈ a :: l, p x := List.forall_mem_cons.2 ⟨h, t⟩
theorem nm {α : Type} {p : α → Prop} : ∀ x ∈ ([] : List α), p x := List.forall_mem_nil _
@[reducible] noncomputable def A (ls : List (List DI)) : Prop := AllI (GoodM Try.prog S0 28 false 0 1000 60 7) ls
end Go.Proofs.Ytnglbchhlpbgkab.fnLogRuns
