/- Runs of the program at a seat. -/
import Derived.Test.YtcjemdcffmfloabPnumberH
namespace Go.Proofs.Ytcjemdcffmfloab.fnNumberRuns
open Go Go.Eng
set_option linter.unusedVariables false
set_option linter.unusedSectionVars false
set_option linter.unusedSimpArgs false
noncomputable def S0 : Sums := Go.Proofs.Ytcjemdcffmfloab.pnumberDrawn.allsS
theorem S0_always : Always Try.prog S0 := Go.Proofs.Ytcjemdcffmfloab.pnumberDrawn.allsS_always
noncomputable def run (l : List DI) : Bool := isTrue (drewRun Try.prog S0 38 false 0 l 1000 60 9)
@[reducible] noncomputable def G (tab : Tab) : Prop := CoversG (Drawn Try.prog S0 38 false 0 1000 60 9) Go.Proofs.Ytcjemdcffmfloab.pnumberDrawn.dR tab
@[reducible] noncomputable def A (ls : List (List DI)) : Prop := AllI (fun l => isTrue (drewRun Try.prog S0 38 false 0 l 1000 60 9) = true) ls
end Go.Proofs.Ytcjemdcffmfloab.fnNumberRuns
