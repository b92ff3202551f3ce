/- Runs of the program at a seat. -/
import Derived.Test.YtennigkljnfjmaaRopowersH
namespace Go.Proofs.Ytennigkljnfjmaa.fnPowersFromRuns
open Go Go.Eng
set_option linter.unusedVariables false
set_option linter.unusedSectionVars false
set_option linter.unusedSimpArgs false
set_option maxRecDepth 100000
noncomputable def S0 : Sums := noSums
theorem S0_always : Always Try.prog S0 := noSums_always _
@[reducible] def Good (l : List DI) : Prop := GoodL Try.prog S0 18 false 0 1000 60 6 l
@[reducible] def G (tab : Tab) : Prop := CoversG (DrawnF Try.prog S0 18 false 0 1000 60 6) Go.Proofs.Ytennigkljnfjmaa.ropowers.dR tab
@[reducible] def AG (ls : List (List DI)) : Prop := AllI (GoodL Try.prog S0 18 false 0 1000 60 6) ls
theorem cm {α : Type} {p : α → Prop} {a : α} {l : List α} (h : p a) (t : ∀ x ∈ l, p x) : ∀ x ∈ a :: l, p x := List.forall_mem_cons.2 ⟨h, t⟩
theorem nm {α : Type} {p : α → Prop} : ∀ x ∈ ([] : List α), p x := List.forall_mem_nil _
end Go.Proofs.Ytennigkljnfjmaa.fnPowersFromRuns
