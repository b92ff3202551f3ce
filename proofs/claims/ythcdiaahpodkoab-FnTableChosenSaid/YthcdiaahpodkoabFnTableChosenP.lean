/- Runs of the program at a seat. -/
import Derived.Test.YthcdiaahpodkoabPairH
import Derived.Test.YthcdiaahpodkoabChosenZ
namespace Go.Proofs.Ythcdiaahpodkoab.fnTableChosenRuns
open Go Go.Eng
set_option linter.unusedVariables false
set_option linter.unusedSectionVars false
set_option linter.unusedSimpArgs false
noncomputable def S0 : Sums := orS Go.Proofs.Ythcdiaahpodkoab.tabChosen.sums (Go.Proofs.Ythcdiaahpodkoab.pairDrawn.allsS)
theorem S0_always : Always Try.prog S0 := Go.Proofs.Ythcdiaahpodkoab.pairDrawn.orS_always Go.Proofs.Ythcdiaahpodkoab.tabChosen.sums_always (Go.Proofs.Ythcdiaahpodkoab.pairDrawn.allsS_always)
noncomputable def run (l : List DI) : Bool := isTrue (drewRun Try.prog S0 91 false 0 l 1000 60 11)
@[reducible] noncomputable def G (tab : Tab) : Prop := CoversG (Drawn Try.prog S0 91 false 0 1000 60 11) Go.Proofs.Ythcdiaahpodkoab.pairDrawn.dR tab
@[reducible] noncomputable def A (ls : List (List DI)) : Prop := AllI (fun l => isTrue (drewRun Try.prog S0 91 false 0 l 1000 60 11) = true) ls
end Go.Proofs.Ythcdiaahpodkoab.fnTableChosenRuns
