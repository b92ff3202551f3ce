/- What is known of calls of the program at a seat. -/
import Derived.Test.YteapghgoiodoiabVaD1
import Derived.Test.YteapghgoiodoiabVaD2
import Derived.Test.YteapghgoiodoiabVaD3
import Derived.Test.YteapghgoiodoiabVaD4
import Derived.Test.YteapghgoiodoiabVaG0
import Derived.Test.YteapghgoiodoiabVaG1
import Derived.Test.YteapghgoiodoiabVaG2
import Derived.Test.YteapghgoiodoiabVaG3
namespace Go.Proofs.Yteapghgoiodoiab.va
open Go Go.Eng
set_option linter.unusedVariables false
set_option linter.unusedSectionVars false
set_option linter.unusedSimpArgs false
set_option maxRecDepth 100000
noncomputable def sumsd : Sums := orS (sdiag1S) (orS (sdiag2S) (orS (sdiag3S) (orS (sdiag4S) (orS (v0diagramS) (orS (v1diagramS) (orS (v2diagramS) (v3diagramS)))))))
theorem sumsd_al : Always Try.prog sumsd := orS_always (sdiag1_al) (orS_always (sdiag2_al) (orS_always (sdiag3_al) (orS_always (sdiag4_al) (orS_always (v0diagram_al) (orS_always (v1diagram_al) (orS_always (v2diagram_al) (v3diagram_al)))))))
end Go.Proofs.Yteapghgoiodoiab.va
