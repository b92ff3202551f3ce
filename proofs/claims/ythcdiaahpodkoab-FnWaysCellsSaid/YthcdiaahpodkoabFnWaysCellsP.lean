/- Runs of the program at a seat. -/
import Derived.Test.YthcdiaahpodkoabWaysH
import Derived.Test.YthcdiaahpodkoabMemoZ
namespace Go.Proofs.Ythcdiaahpodkoab.fnWaysCellsRuns
open Go Go.Eng
set_option linter.unusedVariables false
set_option linter.unusedSectionVars false
set_option linter.unusedSimpArgs false
noncomputable def S0 : Sums := orS Go.Proofs.Ythcdiaahpodkoab.memo.sums (Go.Proofs.Ythcdiaahpodkoab.waysDrawn.allsS)
theorem S0_always : Always Try.prog S0 := Go.Proofs.Ythcdiaahpodkoab.waysDrawn.orS_always Go.Proofs.Ythcdiaahpodkoab.memo.sums_always (Go.Proofs.Ythcdiaahpodkoab.waysDrawn.allsS_always)
noncomputable def run (l : List DI) : Bool := isTrue (drewRun Try.prog S0 85 false 0 l 1000 60 10)
@[reducible] noncomputable def G (tab : Tab) : Prop := CoversG (Drawn Try.prog S0 85 false 0 1000 60 10) Go.Proofs.Ythcdiaahpodkoab.waysDrawn.dR tab
@[reducible] noncomputable def A (ls : List (List DI)) : Prop := AllI (fun l => isTrue (drewRun Try.prog S0 85 false 0 l 1000 60 10) = true) ls
end Go.Proofs.Ythcdiaahpodkoab.fnWaysCellsRuns
