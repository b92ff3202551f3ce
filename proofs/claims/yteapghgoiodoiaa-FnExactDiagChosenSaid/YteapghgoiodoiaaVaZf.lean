/- What is known of calls of the program at a seat. -/
import Derived.Test.YteapghgoiodoiaaVaSf
import Derived.Test.YteapghgoiodoiaaVaF0
import Derived.Test.YteapghgoiodoiaaVaF1
namespace Go.Proofs.Yteapghgoiodoiaa.va
open Go Go.Eng
set_option linter.unusedVariables false
set_option linter.unusedSectionVars false
set_option linter.unusedSimpArgs false
set_option maxRecDepth 100000
noncomputable def sumsf : Sums := orS (sfull1S) (orS (sfull2S) (orS (sfull3S) (orS (sfull4S) (orS (sfull5S) (orS (schosen1S) (orS (schosen2S) (orS (schosen3S) (orS (schosen4S) (orS (schosen5S) (orS (v0fullS) (orS (v0chosenS) (orS (v1fullS) (v1chosenS)))))))))))))
theorem sumsf_al : Always Try.prog sumsf := orS_always (sfull1_al) (orS_always (sfull2_al) (orS_always (sfull3_al) (orS_always (sfull4_al) (orS_always (sfull5_al) (orS_always (schosen1_al) (orS_always (schosen2_al) (orS_always (schosen3_al) (orS_always (schosen4_al) (orS_always (schosen5_al) (orS_always (v0full_al) (orS_always (v0chosen_al) (orS_always (v1full_al) (v1chosen_al)))))))))))))
end Go.Proofs.Yteapghgoiodoiaa.va
