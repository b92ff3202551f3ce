/- Runs of the program at a seat. -/
import Derived.Test.YtliimffphokmpaaDssumtimesH
import Derived.Test.YtliimffphokmpaaGcd
import Derived.Test.YtliimffphokmpaaMemo
namespace Go.Proofs.Ytliimffphokmpaa.fnSumTimesRuns
open Go Go.Eng
set_option linter.unusedVariables false
set_option linter.unusedSectionVars false
set_option linter.unusedSimpArgs false
set_option maxRecDepth 100000
noncomputable def S0 : Sums := orS (gcdS 241) (Go.Proofs.Ytliimffphokmpaa.memo.stripsS)
theorem S0_always : Always Try.prog S0 := Go.Proofs.Ytliimffphokmpaa.memo.orS_always (gcdS_always Go.Proofs.Ytliimffphokmpaa.gcd.gcdK) Go.Proofs.Ytliimffphokmpaa.memo.stripsS_always
@[reducible] def Good (l : List DI) : Prop := GoodL Try.prog S0 21 false 0 1000 60 5 l
@[reducible] def G (tab : Tab) : Prop := CoversG (DrawnF Try.prog S0 21 false 0 1000 60 5) Go.Proofs.Ytliimffphokmpaa.dssumtimes.dR tab
@[reducible] def AG (ls : List (List DI)) : Prop := AllI (GoodL Try.prog S0 21 false 0 1000 60 5) ls
theorem cm {α : Type} {p : α → Prop} {a : α} {l : List α} (h : p a) (t : ∀ x ∈ l, p x) : ∀ x ∈ a :: l, p x := List.forall_mem_cons.2 ⟨h, t⟩
theorem nm {α : Type} {p : α → Prop} : ∀ x ∈ ([] : List α), p x := List.forall_mem_nil _
end Go.Proofs.Ytliimffphokmpaa.fnSumTimesRuns
