/- What is known of calls of the program at a seat. -/
import Derived.Test.YteapghgoiodoiaaVaSp
import Derived.Test.YteapghgoiodoiaaVaP0
import Derived.Test.YteapghgoiodoiaaVaP1
import Derived.Test.YteapghgoiodoiaaVaP2
import Derived.Test.YteapghgoiodoiaaVaP3
import Derived.Test.YteapghgoiodoiaaVaP4
import Derived.Test.YteapghgoiodoiaaVaP5
import Derived.Test.YteapghgoiodoiaaVaP6
import Derived.Test.YteapghgoiodoiaaVaP7
namespace Go.Proofs.Yteapghgoiodoiaa.va
open Go Go.Eng
set_option linter.unusedVariables false
set_option linter.unusedSectionVars false
set_option linter.unusedSimpArgs false
set_option maxRecDepth 100000
noncomputable def sumsp : Sums := orS (splain1S) (orS (splain2S) (orS (splain3S) (orS (splain4S) (orS (splain5S) (orS (v0plainS) (orS (v1plainS) (orS (v2plainS) (orS (v3plainS) (orS (v4plainS) (orS (v5plainS) (orS (v6plainS) (v7plainS))))))))))))
theorem sumsp_al : Always Try.prog sumsp := orS_always (splain1_al) (orS_always (splain2_al) (orS_always (splain3_al) (orS_always (splain4_al) (orS_always (splain5_al) (orS_always (v0plain_al) (orS_always (v1plain_al) (orS_always (v2plain_al) (orS_always (v3plain_al) (orS_always (v4plain_al) (orS_always (v5plain_al) (orS_always (v6plain_al) (v7plain_al))))))))))))
end Go.Proofs.Yteapghgoiodoiaa.va
