/- Runs of the program at a seat. -/
import Derived.Test.YthcdiaahpodkoacPairH
import Derived.Test.YthcdiaahpodkoacDiagramZ
namespace Go.Proofs.Ythcdiaahpodkoac.fnTableDiagramRuns
open Go Go.Eng
set_option linter.unusedVariables false
set_option linter.unusedSectionVars false
set_option linter.unusedSimpArgs false
noncomputable def S0 : Sums := orS Go.Proofs.Ythcdiaahpodkoac.tabDiagram.sums (Go.Proofs.Ythcdiaahpodkoac.pairDrawn.allsS)
theorem S0_always : Always Try.prog S0 := Go.Proofs.Ythcdiaahpodkoac.pairDrawn.orS_always Go.Proofs.Ythcdiaahpodkoac.tabDiagram.sums_always (Go.Proofs.Ythcdiaahpodkoac.pairDrawn.allsS_always)
noncomputable def run (l : List DI) : Bool := isTrue (drewRun Try.prog S0 47 false 0 l 1000 60 3)
@[reducible] noncomputable def G (tab : Tab) : Prop := CoversG (Drawn Try.prog S0 47 false 0 1000 60 3) Go.Proofs.Ythcdiaahpodkoac.pairDrawn.dR tab
@[reducible] noncomputable def A (ls : List (List DI)) : Prop := AllI (fun l => isTrue (drewRun Try.prog S0 47 false 0 l 1000 60 3) = true) ls
end Go.Proofs.Ythcdiaahpodkoac.fnTableDiagramRuns
