/- Runs of the program at a seat. -/
import Derived.Test.YtcjemdcffmfloabOneH
namespace Go.Proofs.Ytcjemdcffmfloab.fnLowerRuns
open Go Go.Eng
set_option linter.unusedVariables false
set_option linter.unusedSectionVars false
set_option linter.unusedSimpArgs false
noncomputable def S0 : Sums := Go.Proofs.Ytcjemdcffmfloab.oneDrawn.allsS
theorem S0_always : Always Try.prog S0 := Go.Proofs.Ytcjemdcffmfloab.oneDrawn.allsS_always
noncomputable def run (l : List DI) : Bool := isTrue (drewRun Try.prog S0 61 true 0 l 1000 60 4)
@[reducible] noncomputable def G (tab : Tab) : Prop := CoversG (Drawn Try.prog S0 61 true 0 1000 60 4) Go.Proofs.Ytcjemdcffmfloab.oneDrawn.dR tab
@[reducible] noncomputable def A (ls : List (List DI)) : Prop := AllI (fun l => isTrue (drewRun Try.prog S0 61 true 0 l 1000 60 4) = true) ls
end Go.Proofs.Ytcjemdcffmfloab.fnLowerRuns
