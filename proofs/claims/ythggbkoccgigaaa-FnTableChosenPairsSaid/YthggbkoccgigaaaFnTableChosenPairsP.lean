/- Runs of the program at a seat. -/
import Derived.Test.YthggbkoccgigaaaPairH
import Derived.Test.YthggbkoccgigaaaChosenZ
import Derived.Test.YthggbkoccgigaaaDiagramZ
namespace Go.Proofs.Ythggbkoccgigaaa.fnTableChosenPairsRuns
open Go Go.Eng
set_option linter.unusedVariables false
set_option linter.unusedSectionVars false
set_option linter.unusedSimpArgs false
noncomputable def S0 : Sums := orS Go.Proofs.Ythggbkoccgigaaa.tabDiagram.sums (orS Go.Proofs.Ythggbkoccgigaaa.tabChosen.sums (Go.Proofs.Ythggbkoccgigaaa.pairDrawn.allsS))
theorem S0_always : Always Try.prog S0 := Go.Proofs.Ythggbkoccgigaaa.pairDrawn.orS_always Go.Proofs.Ythggbkoccgigaaa.tabDiagram.sums_always (Go.Proofs.Ythggbkoccgigaaa.pairDrawn.orS_always Go.Proofs.Ythggbkoccgigaaa.tabChosen.sums_always (Go.Proofs.Ythggbkoccgigaaa.pairDrawn.allsS_always))
noncomputable def run (l : List DI) : Bool := isTrue (drewRun Try.prog S0 67 false 0 l 1000 60 6)
@[reducible] noncomputable def G (tab : Tab) : Prop := CoversG (Drawn Try.prog S0 67 false 0 1000 60 6) Go.Proofs.Ythggbkoccgigaaa.pairDrawn.dR tab
@[reducible] noncomputable def A (ls : List (List DI)) : Prop := AllI (fun l => isTrue (drewRun Try.prog S0 67 false 0 l 1000 60 6) = true) ls
end Go.Proofs.Ythggbkoccgigaaa.fnTableChosenPairsRuns
