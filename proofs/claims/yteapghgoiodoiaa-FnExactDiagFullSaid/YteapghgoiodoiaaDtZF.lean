/- What is known of calls of the program at a seat. -/
import Derived.Test.YteapghgoiodoiaaDtF0
import Derived.Test.YteapghgoiodoiaaDtF1
import Derived.Test.YteapghgoiodoiaaDtF2
import Derived.Test.YteapghgoiodoiaaDtF3
import Derived.Test.YteapghgoiodoiaaDtF4
import Derived.Test.YteapghgoiodoiaaDtF5
namespace Go.Proofs.Yteapghgoiodoiaa.dt
open Go Go.Eng Go.Proofs.Yteapghgoiodoiaa.va
set_option linter.unusedVariables false
set_option linter.unusedSectionVars false
set_option linter.unusedSimpArgs false
set_option maxRecDepth 100000
noncomputable def sumsF : Sums := orS (iF0_3S) (orS (iF0_4S) (orS (iF0_5S) (orS (iF0_6S) (orS (sF0_3S) (orS (sF0_4S) (orS (sF0_5S) (orS (sF0_6S) (orS (iF1_3S) (orS (iF1_4S) (orS (iF1_5S) (orS (iF1_6S) (orS (sF1_3S) (orS (sF1_4S) (orS (sF1_5S) (orS (sF1_6S) (orS (iF2_3S) (orS (iF2_4S) (orS (iF2_5S) (orS (iF2_6S) (orS (sF2_3S) (orS (sF2_4S) (orS (sF2_5S) (orS (sF2_6S) (orS (iF3_3S) (orS (iF3_4S) (orS (iF3_5S) (orS (iF3_6S) (orS (sF3_3S) (orS (sF3_4S) (orS (sF3_5S) (orS (sF3_6S) (orS (iF4_3S) (orS (iF4_4S) (orS (iF4_5S) (orS (iF4_6S) (orS (sF4_3S) (orS (sF4_4S) (orS (sF4_5S) (orS (sF4_6S) (orS (iF5_3S) (orS (iF5_4S) (orS (iF5_5S) (orS (iF5_6S) (orS (sF5_3S) (orS (sF5_4S) (orS (sF5_5S) (sF5_6S)))))))))))))))))))))))))))))))))))))))))))))))
theorem sumsF_al : Always Try.prog sumsF := orS_always (iF0_3_al) (orS_always (iF0_4_al) (orS_always (iF0_5_al) (orS_always (iF0_6_al) (orS_always (sF0_3_al) (orS_always (sF0_4_al) (orS_always (sF0_5_al) (orS_always (sF0_6_al) (orS_always (iF1_3_al) (orS_always (iF1_4_al) (orS_always (iF1_5_al) (orS_always (iF1_6_al) (orS_always (sF1_3_al) (orS_always (sF1_4_al) (orS_always (sF1_5_al) (orS_always (sF1_6_al) (orS_always (iF2_3_al) (orS_always (iF2_4_al) (orS_always (iF2_5_al) (orS_always (iF2_6_al) (orS_always (sF2_3_al) (orS_always (sF2_4_al) (orS_always (sF2_5_al) (orS_always (sF2_6_al) (orS_always (iF3_3_al) (orS_always (iF3_4_al) (orS_always (iF3_5_al) (orS_always (iF3_6_al) (orS_always (sF3_3_al) (orS_always (sF3_4_al) (orS_always (sF3_5_al) (orS_always (sF3_6_al) (orS_always (iF4_3_al) (orS_always (iF4_4_al) (orS_always (iF4_5_al) (orS_always (iF4_6_al) (orS_always (sF4_3_al) (orS_always (sF4_4_al) (orS_always (sF4_5_al) (orS_always (sF4_6_al) (orS_always (iF5_3_al) (orS_always (iF5_4_al) (orS_always (iF5_5_al) (orS_always (iF5_6_al) (orS_always (sF5_3_al) (orS_always (sF5_4_al) (orS_always (sF5_5_al) (sF5_6_al)))))))))))))))))))))))))))))))))))))))))))))))
end Go.Proofs.Yteapghgoiodoiaa.dt
