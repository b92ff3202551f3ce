/- Runs of the program at a seat. -/
import Derived.Test.YtnobdifmnoehbabRobackH
namespace Go.Proofs.Ytnobdifmnoehbab.fnRootBackRuns
open Go Go.Eng
set_option linter.unusedVariables false
set_option linter.unusedSectionVars false
set_option linter.unusedSimpArgs false
set_option maxRecDepth 100000
noncomputable def S0 : Sums := noSums
theorem S0_always : Always Try.prog S0 := noSums_always _
@[reducible] def Good (l : List DI) : Prop := GoodL Try.prog S0 41 true 0 1000 60 13 l
@[reducible] def G (tab : Tab) : Prop := CoversG (DrawnF Try.prog S0 41 true 0 1000 60 13) Go.Proofs.Ytnobdifmnoehbab.roback.dR tab
@[reducible] def AG (ls : List (List DI)) : Prop := AllI (GoodL Try.prog S0 41 true 0 1000 60 13) ls
theorem cm {α : Type} {p : α → Prop} {a : α} {l : List α} (h : p a) (t : ∀ x ∈ l, p x) : ∀ x ∈ a :: l, p x := List.forall_mem_cons.2 ⟨h, t⟩
theorem nm {α : Type} {p : α → Prop} : ∀ x ∈ ([] : List α), p x := List.forall_mem_nil _
end Go.Proofs.Ytnobdifmnoehbab.fnRootBackRuns
