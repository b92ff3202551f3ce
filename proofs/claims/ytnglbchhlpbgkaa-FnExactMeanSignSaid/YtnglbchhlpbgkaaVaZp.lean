/- What is known of calls of the program at a seat. -/
import Derived.Test.YtnglbchhlpbgkaaVaSp
import Derived.Test.YtnglbchhlpbgkaaVaP0
import Derived.Test.YtnglbchhlpbgkaaVaP1
import Derived.Test.YtnglbchhlpbgkaaVaP2
import Derived.Test.YtnglbchhlpbgkaaVaP3
namespace Go.Proofs.Ytnglbchhlpbgkaa.va
open Go Go.Eng
set_option linter.unusedVariables false
set_option linter.unusedSectionVars false
set_option linter.unusedSimpArgs false
set_option maxRecDepth 100000
noncomputable def sumsp : Sums := orS (splain1S) (orS (splain2S) (orS (splain3S) (orS (splain4S) (orS (splain5S) (orS (v0plainS) (orS (v1plainS) (orS (v2plainS) (v3plainS))))))))
theorem sumsp_al : Always Try.prog sumsp := orS_always (splain1_al) (orS_always (splain2_al) (orS_always (splain3_al) (orS_always (splain4_al) (orS_always (splain5_al) (orS_always (v0plain_al) (orS_always (v1plain_al) (orS_always (v2plain_al) (v3plain_al))))))))
end Go.Proofs.Ytnglbchhlpbgkaa.va
