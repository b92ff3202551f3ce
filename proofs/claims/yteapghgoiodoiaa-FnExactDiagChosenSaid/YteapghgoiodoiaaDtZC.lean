/- What is known of calls of the program at a seat. -/
import Derived.Test.YteapghgoiodoiaaDtC0
import Derived.Test.YteapghgoiodoiaaDtC1
import Derived.Test.YteapghgoiodoiaaDtC2
import Derived.Test.YteapghgoiodoiaaDtC3
import Derived.Test.YteapghgoiodoiaaDtC4
import Derived.Test.YteapghgoiodoiaaDtC5
namespace Go.Proofs.Yteapghgoiodoiaa.dt
open Go Go.Eng Go.Proofs.Yteapghgoiodoiaa.va
set_option linter.unusedVariables false
set_option linter.unusedSectionVars false
set_option linter.unusedSimpArgs false
set_option maxRecDepth 100000
noncomputable def sumsC : Sums := orS (iC0_3S) (orS (iC0_4S) (orS (iC0_5S) (orS (iC0_6S) (orS (sC0_3S) (orS (sC0_4S) (orS (sC0_5S) (orS (sC0_6S) (orS (iC1_3S) (orS (iC1_4S) (orS (iC1_5S) (orS (iC1_6S) (orS (sC1_3S) (orS (sC1_4S) (orS (sC1_5S) (orS (sC1_6S) (orS (iC2_3S) (orS (iC2_4S) (orS (iC2_5S) (orS (iC2_6S) (orS (sC2_3S) (orS (sC2_4S) (orS (sC2_5S) (orS (sC2_6S) (orS (iC3_3S) (orS (iC3_4S) (orS (iC3_5S) (orS (iC3_6S) (orS (sC3_3S) (orS (sC3_4S) (orS (sC3_5S) (orS (sC3_6S) (orS (iC4_3S) (orS (iC4_4S) (orS (iC4_5S) (orS (iC4_6S) (orS (sC4_3S) (orS (sC4_4S) (orS (sC4_5S) (orS (sC4_6S) (orS (iC5_3S) (orS (iC5_4S) (orS (iC5_5S) (orS (iC5_6S) (orS (sC5_3S) (orS (sC5_4S) (orS (sC5_5S) (sC5_6S)))))))))))))))))))))))))))))))))))))))))))))))
theorem sumsC_al : Always Try.prog sumsC := orS_always (iC0_3_al) (orS_always (iC0_4_al) (orS_always (iC0_5_al) (orS_always (iC0_6_al) (orS_always (sC0_3_al) (orS_always (sC0_4_al) (orS_always (sC0_5_al) (orS_always (sC0_6_al) (orS_always (iC1_3_al) (orS_always (iC1_4_al) (orS_always (iC1_5_al) (orS_always (iC1_6_al) (orS_always (sC1_3_al) (orS_always (sC1_4_al) (orS_always (sC1_5_al) (orS_always (sC1_6_al) (orS_always (iC2_3_al) (orS_always (iC2_4_al) (orS_always (iC2_5_al) (orS_always (iC2_6_al) (orS_always (sC2_3_al) (orS_always (sC2_4_al) (orS_always (sC2_5_al) (orS_always (sC2_6_al) (orS_always (iC3_3_al) (orS_always (iC3_4_al) (orS_always (iC3_5_al) (orS_always (iC3_6_al) (orS_always (sC3_3_al) (orS_always (sC3_4_al) (orS_always (sC3_5_al) (orS_always (sC3_6_al) (orS_always (iC4_3_al) (orS_always (iC4_4_al) (orS_always (iC4_5_al) (orS_always (iC4_6_al) (orS_always (sC4_3_al) (orS_always (sC4_4_al) (orS_always (sC4_5_al) (orS_always (sC4_6_al) (orS_always (iC5_3_al) (orS_always (iC5_4_al) (orS_always (iC5_5_al) (orS_always (iC5_6_al) (orS_always (sC5_3_al) (orS_always (sC5_4_al) (orS_always (sC5_5_al) (sC5_6_al)))))))))))))))))))))))))))))))))))))))))))))))
end Go.Proofs.Yteapghgoiodoiaa.dt
