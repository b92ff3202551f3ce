/- Runs of the program at a seat. -/
import Derived.Test.YthggbkoccgigaaaPairH
import Derived.Test.YthggbkoccgigaaaFullZ
import Derived.Test.YthggbkoccgigaaaDiagramZ
namespace Go.Proofs.Ythggbkoccgigaaa.fnTableFullRuns
open Go Go.Eng
set_option linter.unusedVariables false
set_option linter.unusedSectionVars false
set_option linter.unusedSimpArgs false
noncomputable def S0 : Sums := orS Go.Proofs.Ythggbkoccgigaaa.tabDiagram.sums (orS Go.Proofs.Ythggbkoccgigaaa.tabFull.sums (Go.Proofs.Ythggbkoccgigaaa.pairDrawn.allsS))
theorem S0_always : Always Try.prog S0 := Go.Proofs.Ythggbkoccgigaaa.pairDrawn.orS_always Go.Proofs.Ythggbkoccgigaaa.tabDiagram.sums_always (Go.Proofs.Ythggbkoccgigaaa.pairDrawn.orS_always Go.Proofs.Ythggbkoccgigaaa.tabFull.sums_always (Go.Proofs.Ythggbkoccgigaaa.pairDrawn.allsS_always))
noncomputable def run (l : List DI) : Bool := isTrue (drewRun Try.prog S0 67 false 0 l 1000 60 5)
@[reducible] noncomputable def G (tab : Tab) : Prop := CoversG (Drawn Try.prog S0 67 false 0 1000 60 5) Go.Proofs.Ythggbkoccgigaaa.pairDrawn.dR tab
@[reducible] noncomputable def A (ls : List (List DI)) : Prop := AllI (fun l => isTrue (drewRun Try.prog S0 67 false 0 l 1000 60 5) = true) ls
end Go.Proofs.Ythggbkoccgigaaa.fnTableFullRuns
