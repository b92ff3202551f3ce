/- Runs of the program at a seat. -/
import Derived.Test.YthcdiaahpodkoabNumberH
import Derived.Test.YthcdiaahpodkoabFullM
namespace Go.Proofs.Ythcdiaahpodkoab.fnFullRuns
open Go Go.Eng
set_option linter.unusedVariables false
set_option linter.unusedSectionVars false
set_option linter.unusedSimpArgs false
noncomputable def S0 : Sums := orS Go.Proofs.Ythcdiaahpodkoab.fullM.sums (Go.Proofs.Ythcdiaahpodkoab.numberDrawn.allsS)
theorem S0_always : Always Try.prog S0 := Go.Proofs.Ythcdiaahpodkoab.numberDrawn.orS_always Go.Proofs.Ythcdiaahpodkoab.fullM.sums_always (Go.Proofs.Ythcdiaahpodkoab.numberDrawn.allsS_always)
noncomputable def run (l : List DI) : Bool := isTrue (drewRun Try.prog S0 63 false 0 l 1000 60 5)
@[reducible] noncomputable def G (tab : Tab) : Prop := CoversG (Drawn Try.prog S0 63 false 0 1000 60 5) Go.Proofs.Ythcdiaahpodkoab.numberDrawn.dR tab
@[reducible] noncomputable def A (ls : List (List DI)) : Prop := AllI (fun l => isTrue (drewRun Try.prog S0 63 false 0 l 1000 60 5) = true) ls
end Go.Proofs.Ythcdiaahpodkoab.fnFullRuns
