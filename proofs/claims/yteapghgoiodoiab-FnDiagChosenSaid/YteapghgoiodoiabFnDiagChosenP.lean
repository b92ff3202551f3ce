/- Runs of the program at a seat. -/
import Derived.Test.YteapghgoiodoiabAtH
import Derived.Test.YteapghgoiodoiabVaZf
import Derived.Test.YteapghgoiodoiabDtZF
import Derived.Test.YteapghgoiodoiabDtZC
namespace Go.Proofs.Yteapghgoiodoiab.fnDiagChosenRuns
open Go Go.Eng
set_option linter.unusedVariables false
set_option linter.unusedSectionVars false
set_option linter.unusedSimpArgs false
noncomputable def S0 : Sums := orS Go.Proofs.Yteapghgoiodoiab.dt.sumsC (orS Go.Proofs.Yteapghgoiodoiab.dt.sumsF (orS Go.Proofs.Yteapghgoiodoiab.va.sumsf (Go.Proofs.Yteapghgoiodoiab.atDrawn.allsS)))
theorem S0_always : Always Try.prog S0 := Go.Proofs.Yteapghgoiodoiab.atDrawn.orS_always Go.Proofs.Yteapghgoiodoiab.dt.sumsC_al (Go.Proofs.Yteapghgoiodoiab.atDrawn.orS_always Go.Proofs.Yteapghgoiodoiab.dt.sumsF_al (Go.Proofs.Yteapghgoiodoiab.atDrawn.orS_always Go.Proofs.Yteapghgoiodoiab.va.sumsf_al (Go.Proofs.Yteapghgoiodoiab.atDrawn.allsS_always)))
noncomputable def run (l : List DI) : Bool := isTrue (drewRun Try.prog S0 44 false 0 l 1000 60 4)
@[reducible] noncomputable def G (tab : Tab) : Prop := CoversG (Drawn Try.prog S0 44 false 0 1000 60 4) Go.Proofs.Yteapghgoiodoiab.atDrawn.dR tab
@[reducible] noncomputable def A (ls : List (List DI)) : Prop := AllI (fun l => isTrue (drewRun Try.prog S0 44 false 0 l 1000 60 4) = true) ls
end Go.Proofs.Yteapghgoiodoiab.fnDiagChosenRuns
