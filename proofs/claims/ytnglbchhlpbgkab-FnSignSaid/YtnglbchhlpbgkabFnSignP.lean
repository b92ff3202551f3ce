/- Runs of the program at a seat. -/
import Derived.Test.YtnglbchhlpbgkabOneH
import Derived.Test.YtnglbchhlpbgkabSLen
namespace Go.Proofs.Ytnglbchhlpbgkab.fnSignRuns
open Go Go.Eng
set_option linter.unusedVariables false
set_option linter.unusedSectionVars false
set_option linter.unusedSimpArgs false
noncomputable def S0 : Sums := orS (lenS 140) (Go.Proofs.Ytnglbchhlpbgkab.oneDrawn.allsS)
theorem S0_always : Always Try.prog S0 := Go.Proofs.Ytnglbchhlpbgkab.oneDrawn.orS_always (lenS_always Go.Proofs.Ytnglbchhlpbgkab.len.lenK) (Go.Proofs.Ytnglbchhlpbgkab.oneDrawn.allsS_always)
noncomputable def run (l : List DI) : Bool := isTrue (drewRun Try.prog S0 96 true 0 l 1000 60 12)
@[reducible] noncomputable def G (tab : Tab) : Prop := CoversG (Drawn Try.prog S0 96 true 0 1000 60 12) Go.Proofs.Ytnglbchhlpbgkab.oneDrawn.dR tab
@[reducible] noncomputable def A (ls : List (List DI)) : Prop := AllI (fun l => isTrue (drewRun Try.prog S0 96 true 0 l 1000 60 12) = true) ls
end Go.Proofs.Ytnglbchhlpbgkab.fnSignRuns
