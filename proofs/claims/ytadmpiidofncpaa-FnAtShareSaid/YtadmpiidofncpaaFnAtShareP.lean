/- Runs of the program at a seat. -/
import Derived.Test.YtadmpiidofncpaaAtshareH
import Derived.Test.YtadmpiidofncpaaLen
namespace Go.Proofs.Ytadmpiidofncpaa.fnAtShareRuns
open Go Go.Eng
set_option linter.unusedVariables false
set_option linter.unusedSectionVars false
set_option linter.unusedSimpArgs false
noncomputable def S0 : Sums := orS (lenS 183) (Go.Proofs.Ytadmpiidofncpaa.atshareDrawn.allsS)
theorem S0_always : Always Try.prog S0 := Go.Proofs.Ytadmpiidofncpaa.atshareDrawn.orS_always (lenS_always Go.Proofs.Ytadmpiidofncpaa.len.lenK) (Go.Proofs.Ytadmpiidofncpaa.atshareDrawn.allsS_always)
noncomputable def run (l : List DI) : Bool := isTrue (drewRun Try.prog S0 13 false 0 l 1000 60 3)
@[reducible] noncomputable def G (tab : Tab) : Prop := CoversG (Drawn Try.prog S0 13 false 0 1000 60 3) Go.Proofs.Ytadmpiidofncpaa.atshareDrawn.dR tab
@[reducible] noncomputable def A (ls : List (List DI)) : Prop := AllI (fun l => isTrue (drewRun Try.prog S0 13 false 0 l 1000 60 3) = true) ls
end Go.Proofs.Ytadmpiidofncpaa.fnAtShareRuns
