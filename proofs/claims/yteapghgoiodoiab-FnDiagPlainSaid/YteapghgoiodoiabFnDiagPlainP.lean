/- Runs of the program at a seat. -/
import Derived.Test.YteapghgoiodoiabAtH
import Derived.Test.YteapghgoiodoiabVaZp
import Derived.Test.YteapghgoiodoiabVaZd
import Derived.Test.YteapghgoiodoiabDiagramZ
namespace Go.Proofs.Yteapghgoiodoiab.fnDiagPlainRuns
open Go Go.Eng
set_option linter.unusedVariables false
set_option linter.unusedSectionVars false
set_option linter.unusedSimpArgs false
noncomputable def S0 : Sums := orS Go.Proofs.Yteapghgoiodoiab.tabDiagram.sums (orS Go.Proofs.Yteapghgoiodoiab.va.sumsd (orS Go.Proofs.Yteapghgoiodoiab.va.sumsp (Go.Proofs.Yteapghgoiodoiab.atDrawn.allsS)))
theorem S0_always : Always Try.prog S0 := Go.Proofs.Yteapghgoiodoiab.atDrawn.orS_always Go.Proofs.Yteapghgoiodoiab.tabDiagram.sums_always (Go.Proofs.Yteapghgoiodoiab.atDrawn.orS_always Go.Proofs.Yteapghgoiodoiab.va.sumsd_al (Go.Proofs.Yteapghgoiodoiab.atDrawn.orS_always Go.Proofs.Yteapghgoiodoiab.va.sumsp_al (Go.Proofs.Yteapghgoiodoiab.atDrawn.allsS_always)))
noncomputable def run (l : List DI) : Bool := isTrue (drewRun Try.prog S0 44 false 0 l 1000 60 6)
@[reducible] noncomputable def G (tab : Tab) : Prop := CoversG (Drawn Try.prog S0 44 false 0 1000 60 6) Go.Proofs.Yteapghgoiodoiab.atDrawn.dR tab
@[reducible] noncomputable def A (ls : List (List DI)) : Prop := AllI (fun l => isTrue (drewRun Try.prog S0 44 false 0 l 1000 60 6) = true) ls
end Go.Proofs.Yteapghgoiodoiab.fnDiagPlainRuns
