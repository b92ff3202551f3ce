/- Runs of the program at a seat. -/
import Derived.Test.YtnglbchhlpbgkabSchurH
namespace Go.Proofs.Ytnglbchhlpbgkab.fnSchurRuns
open Go Go.Eng
set_option linter.unusedVariables false
set_option linter.unusedSectionVars false
set_option linter.unusedSimpArgs false
noncomputable def S0 : Sums := Go.Proofs.Ytnglbchhlpbgkab.schurDrawn.allsS
theorem S0_always : Always Try.prog S0 := Go.Proofs.Ytnglbchhlpbgkab.schurDrawn.allsS_always
noncomputable def run (l : List DI) : Bool := isTrue (drewRun Try.prog S0 31 false 0 l 1000 60 8)
@[reducible] noncomputable def G (tab : Tab) : Prop := CoversG (Drawn Try.prog S0 31 false 0 1000 60 8) Go.Proofs.Ytnglbchhlpbgkab.schurDrawn.dR tab
@[reducible] noncomputable def A (ls : List (List DI)) : Prop := AllI (fun l => isTrue (drewRun Try.prog S0 31 false 0 l 1000 60 8) = true) ls
end Go.Proofs.Ytnglbchhlpbgkab.fnSchurRuns
