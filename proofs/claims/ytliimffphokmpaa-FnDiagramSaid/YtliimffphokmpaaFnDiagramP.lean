/- Runs of the program at a seat. -/
import Derived.Test.YtliimffphokmpaaAtH
import Derived.Test.YtliimffphokmpaaDhZ
namespace Go.Proofs.Ytliimffphokmpaa.fnDiagramRuns
open Go Go.Eng
set_option linter.unusedVariables false
set_option linter.unusedSectionVars false
set_option linter.unusedSimpArgs false
noncomputable def S0 : Sums := orS Go.Proofs.Ytliimffphokmpaa.dhM.sums (Go.Proofs.Ytliimffphokmpaa.atDrawn.allsS)
theorem S0_always : Always Try.prog S0 := Go.Proofs.Ytliimffphokmpaa.atDrawn.orS_always Go.Proofs.Ytliimffphokmpaa.dhM.sums_always (Go.Proofs.Ytliimffphokmpaa.atDrawn.allsS_always)
noncomputable def run (l : List DI) : Bool := isTrue (drewRun Try.prog S0 65 false 0 l 1000 60 4)
@[reducible] noncomputable def G (tab : Tab) : Prop := CoversG (Drawn Try.prog S0 65 false 0 1000 60 4) Go.Proofs.Ytliimffphokmpaa.atDrawn.dR tab
@[reducible] noncomputable def A (ls : List (List DI)) : Prop := AllI (fun l => isTrue (drewRun Try.prog S0 65 false 0 l 1000 60 4) = true) ls
end Go.Proofs.Ytliimffphokmpaa.fnDiagramRuns
