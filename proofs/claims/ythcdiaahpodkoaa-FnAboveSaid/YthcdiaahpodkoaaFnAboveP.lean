/- Runs of the program at a seat. -/
import Derived.Test.YthcdiaahpodkoaaPair3H
namespace Go.Proofs.Ythcdiaahpodkoaa.fnAboveRuns
open Go Go.Eng
set_option linter.unusedVariables false
set_option linter.unusedSectionVars false
set_option linter.unusedSimpArgs false
noncomputable def S0 : Sums := Go.Proofs.Ythcdiaahpodkoaa.pair3Drawn.allsS
theorem S0_always : Always Try.prog S0 := Go.Proofs.Ythcdiaahpodkoaa.pair3Drawn.allsS_always
noncomputable def run1000 (l : List DI) : Bool := isTrue (drewRun Try.prog S0 69 false 1000 l 1000 60 7)
noncomputable def run1001 (l : List DI) : Bool := isTrue (drewRun Try.prog S0 69 false 1001 l 1000 60 7)
@[reducible] noncomputable def G1000 (tab : Tab) : Prop := CoversG (Drawn Try.prog S0 69 false 1000 1000 60 7) Go.Proofs.Ythcdiaahpodkoaa.pair3Drawn.dR1000 tab
@[reducible] noncomputable def A1000 (ls : List (List DI)) : Prop := AllI (fun l => isTrue (drewRun Try.prog S0 69 false 1000 l 1000 60 7) = true) ls
@[reducible] noncomputable def G1001 (tab : Tab) : Prop := CoversG (Drawn Try.prog S0 69 false 1001 1000 60 7) Go.Proofs.Ythcdiaahpodkoaa.pair3Drawn.dR1001 tab
@[reducible] noncomputable def A1001 (ls : List (List DI)) : Prop := AllI (fun l => isTrue (drewRun Try.prog S0 69 false 1001 l 1000 60 7) = true) ls
end Go.Proofs.Ythcdiaahpodkoaa.fnAboveRuns
