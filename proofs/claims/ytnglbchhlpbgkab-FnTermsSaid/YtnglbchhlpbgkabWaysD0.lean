/- Runs of the program at a seat. -/
import Derived.Test.YtnglbchhlpbgkabWaysH
namespace Go.Proofs.Ytnglbchhlpbgkab.waysDrawn
open Go Go.Eng
set_option linter.unusedVariables false
set_option linter.unusedSectionVars false
set_option linter.unusedSimpArgs false
set_option maxRecDepth 100000 in
theorem c6_10_5 : chkR (anyDrew false ls179) dR (.three 8252 (.of 400) (.of 400) (.of 400)) [(12294, 5, 5), (4107, 10, 10), (7, 6, 6)] = true := by kernel_rfl
set_option maxRecDepth 100000 in
theorem c6_8_5 : chkR (anyDrew false ls167) dR (.three 8252 (.of 400) (.of 400) (.of 400)) [(12294, 5, 5), (4107, 8, 8), (7, 6, 6)] = true := by kernel_rfl
set_option maxRecDepth 100000 in
theorem c6_7_5 : chkR (anyDrew false ls161) dR (.three 8252 (.of 400) (.of 400) (.of 400)) [(12294, 5, 5), (4107, 7, 7), (7, 6, 6)] = true := by kernel_rfl
set_option maxRecDepth 100000 in
theorem c6_10_2 : chkR (anyDrew false ls176) dR (.three 8252 (.of 400) (.of 400) (.of 400)) [(12294, 2, 2), (4107, 10, 10), (7, 6, 6)] = true := by kernel_rfl
set_option maxRecDepth 100000 in
theorem c6_8_3 : chkR (anyDrew false ls165) dR (.three 8252 (.of 400) (.of 400) (.of 400)) [(12294, 3, 3), (4107, 8, 8), (7, 6, 6)] = true := by kernel_rfl
set_option maxRecDepth 100000 in
theorem c5_6_5 : chkR (anyDrew false ls113) dR (.three 8252 (.of 400) (.of 400) (.of 400)) [(12294, 5, 5), (4103, 6, 6), (7, 5, 5)] = true := by kernel_rfl
set_option maxRecDepth 100000 in
theorem c6_7_3 : chkR (anyDrew false ls159) dR (.three 8252 (.of 400) (.of 400) (.of 400)) [(12294, 3, 3), (4107, 7, 7), (7, 6, 6)] = true := by kernel_rfl
set_option maxRecDepth 100000 in
theorem c6_10_0 : chkR (anyDrew false ls174) dR (.three 8252 (.of 400) (.of 400) (.of 400)) [(12294, 0, 0), (4107, 10, 10), (7, 6, 6)] = true := by kernel_rfl
set_option maxRecDepth 100000 in
theorem c6_4_5 : chkR (anyDrew false ls143) dR (.three 8252 (.of 400) (.of 400) (.of 400)) [(12294, 5, 5), (4107, 4, 4), (7, 6, 6)] = true := by kernel_rfl
set_option maxRecDepth 100000 in
theorem c6_7_2 : chkR (anyDrew false ls158) dR (.three 8252 (.of 400) (.of 400) (.of 400)) [(12294, 2, 2), (4107, 7, 7), (7, 6, 6)] = true := by kernel_rfl
set_option maxRecDepth 100000 in
theorem c5_4_5 : chkR (anyDrew false ls101) dR (.three 8252 (.of 400) (.of 400) (.of 400)) [(12294, 5, 5), (4103, 4, 4), (7, 5, 5)] = true := by kernel_rfl
set_option maxRecDepth 100000 in
theorem c6_3_5 : chkR (anyDrew false ls137) dR (.three 8252 (.of 400) (.of 400) (.of 400)) [(12294, 5, 5), (4107, 3, 3), (7, 6, 6)] = true := by kernel_rfl
set_option maxRecDepth 100000 in
theorem c6_6_2 : chkR (anyDrew false ls152) dR (.three 8252 (.of 400) (.of 400) (.of 400)) [(12294, 2, 2), (4107, 6, 6), (7, 6, 6)] = true := by kernel_rfl
set_option maxRecDepth 100000 in
theorem c4_4_5 : chkR (anyDrew false ls71) dR (.three 8252 (.of 400) (.of 400) (.of 400)) [(12294, 5, 5), (4101, 4, 4), (7, 4, 4)] = true := by kernel_rfl
set_option maxRecDepth 100000 in
theorem c5_5_3 : chkR (anyDrew false ls105) dR (.three 8252 (.of 400) (.of 400) (.of 400)) [(12294, 3, 3), (4103, 5, 5), (7, 5, 5)] = true := by kernel_rfl
set_option maxRecDepth 100000 in
theorem c6_3_4 : chkR (anyDrew false ls136) dR (.three 8252 (.of 400) (.of 400) (.of 400)) [(12294, 4, 4), (4107, 3, 3), (7, 6, 6)] = true := by kernel_rfl
set_option maxRecDepth 100000 in
theorem c6_6_1 : chkR (anyDrew false ls151) dR (.three 8252 (.of 400) (.of 400) (.of 400)) [(12294, 1, 1), (4107, 6, 6), (7, 6, 6)] = true := by kernel_rfl
set_option maxRecDepth 100000 in
theorem c4_4_4 : chkR (anyDrew false ls70) dR (.three 8252 (.of 400) (.of 400) (.of 400)) [(12294, 4, 4), (4101, 4, 4), (7, 4, 4)] = true := by kernel_rfl
set_option maxRecDepth 100000 in
theorem c5_4_3 : chkR (anyDrew false ls99) dR (.three 8252 (.of 400) (.of 400) (.of 400)) [(12294, 3, 3), (4103, 4, 4), (7, 5, 5)] = true := by kernel_rfl
set_option maxRecDepth 100000 in
theorem c6_1_5 : chkR (anyDrew false ls125) dR (.three 8252 (.of 400) (.of 400) (.of 400)) [(12294, 5, 5), (4107, 1, 1), (7, 6, 6)] = true := by kernel_rfl
set_option maxRecDepth 100000 in
theorem c6_4_2 : chkR (anyDrew false ls140) dR (.three 8252 (.of 400) (.of 400) (.of 400)) [(12294, 2, 2), (4107, 4, 4), (7, 6, 6)] = true := by kernel_rfl
set_option maxRecDepth 100000 in
theorem c4_2_5 : chkR (anyDrew false ls59) dR (.three 8252 (.of 400) (.of 400) (.of 400)) [(12294, 5, 5), (4101, 2, 2), (7, 4, 4)] = true := by kernel_rfl
set_option maxRecDepth 100000 in
theorem c5_1_5 : chkR (anyDrew false ls83) dR (.three 8252 (.of 400) (.of 400) (.of 400)) [(12294, 5, 5), (4103, 1, 1), (7, 5, 5)] = true := by kernel_rfl
set_option maxRecDepth 100000 in
theorem c5_4_2 : chkR (anyDrew false ls98) dR (.three 8252 (.of 400) (.of 400) (.of 400)) [(12294, 2, 2), (4103, 4, 4), (7, 5, 5)] = true := by kernel_rfl
set_option maxRecDepth 100000 in
theorem c6_0_5 : chkR (anyDrew false ls119) dR (.three 8252 (.of 400) (.of 400) (.of 400)) [(12294, 5, 5), (4107, 0, 0), (7, 6, 6)] = true := by kernel_rfl
set_option maxRecDepth 100000 in
theorem c6_3_2 : chkR (anyDrew false ls134) dR (.three 8252 (.of 400) (.of 400) (.of 400)) [(12294, 2, 2), (4107, 3, 3), (7, 6, 6)] = true := by kernel_rfl
set_option maxRecDepth 100000 in
theorem c3_2_5 : chkR (anyDrew false ls41) dR (.three 8252 (.of 400) (.of 400) (.of 400)) [(12294, 5, 5), (4099, 2, 2), (7, 3, 3)] = true := by kernel_rfl
set_option maxRecDepth 100000 in
theorem c4_3_3 : chkR (anyDrew false ls63) dR (.three 8252 (.of 400) (.of 400) (.of 400)) [(12294, 3, 3), (4101, 3, 3), (7, 4, 4)] = true := by kernel_rfl
set_option maxRecDepth 100000 in
theorem c5_1_4 : chkR (anyDrew false ls82) dR (.three 8252 (.of 400) (.of 400) (.of 400)) [(12294, 4, 4), (4103, 1, 1), (7, 5, 5)] = true := by kernel_rfl
set_option maxRecDepth 100000 in
theorem c5_4_1 : chkR (anyDrew false ls97) dR (.three 8252 (.of 400) (.of 400) (.of 400)) [(12294, 1, 1), (4103, 4, 4), (7, 5, 5)] = true := by kernel_rfl
set_option maxRecDepth 100000 in
theorem c6_1_3 : chkR (anyDrew false ls123) dR (.three 8252 (.of 400) (.of 400) (.of 400)) [(12294, 3, 3), (4107, 1, 1), (7, 6, 6)] = true := by kernel_rfl
set_option maxRecDepth 100000 in
theorem c6_4_0 : chkR (anyDrew false ls138) dR (.three 8252 (.of 400) (.of 400) (.of 400)) [(12294, 0, 0), (4107, 4, 4), (7, 6, 6)] = true := by kernel_rfl
set_option maxRecDepth 100000 in
theorem c4_0_5 : chkR (anyDrew false ls47) dR (.three 8252 (.of 400) (.of 400) (.of 400)) [(12294, 5, 5), (4101, 0, 0), (7, 4, 4)] = true := by kernel_rfl
set_option maxRecDepth 100000 in
theorem c4_3_2 : chkR (anyDrew false ls62) dR (.three 8252 (.of 400) (.of 400) (.of 400)) [(12294, 2, 2), (4101, 3, 3), (7, 4, 4)] = true := by kernel_rfl
set_option maxRecDepth 100000 in
theorem c5_1_3 : chkR (anyDrew false ls81) dR (.three 8252 (.of 400) (.of 400) (.of 400)) [(12294, 3, 3), (4103, 1, 1), (7, 5, 5)] = true := by kernel_rfl
set_option maxRecDepth 100000 in
theorem c5_4_0 : chkR (anyDrew false ls96) dR (.three 8252 (.of 400) (.of 400) (.of 400)) [(12294, 0, 0), (4103, 4, 4), (7, 5, 5)] = true := by kernel_rfl
set_option maxRecDepth 100000 in
theorem c6_2_1 : chkR (anyDrew false ls127) dR (.three 8252 (.of 400) (.of 400) (.of 400)) [(12294, 1, 1), (4107, 2, 2), (7, 6, 6)] = true := by kernel_rfl
set_option maxRecDepth 100000 in
theorem c3_0_5 : chkR (anyDrew false ls29) dR (.three 8252 (.of 400) (.of 400) (.of 400)) [(12294, 5, 5), (4099, 0, 0), (7, 3, 3)] = true := by kernel_rfl
set_option maxRecDepth 100000 in
theorem c4_0_4 : chkR (anyDrew false ls46) dR (.three 8252 (.of 400) (.of 400) (.of 400)) [(12294, 4, 4), (4101, 0, 0), (7, 4, 4)] = true := by kernel_rfl
set_option maxRecDepth 100000 in
theorem c4_3_1 : chkR (anyDrew false ls61) dR (.three 8252 (.of 400) (.of 400) (.of 400)) [(12294, 1, 1), (4101, 3, 3), (7, 4, 4)] = true := by kernel_rfl
set_option maxRecDepth 100000 in
theorem c5_1_2 : chkR (anyDrew false ls80) dR (.three 8252 (.of 400) (.of 400) (.of 400)) [(12294, 2, 2), (4103, 1, 1), (7, 5, 5)] = true := by kernel_rfl
set_option maxRecDepth 100000 in
theorem c6_0_2 : chkR (anyDrew false ls116) dR (.three 8252 (.of 400) (.of 400) (.of 400)) [(12294, 2, 2), (4107, 0, 0), (7, 6, 6)] = true := by kernel_rfl
set_option maxRecDepth 100000 in
theorem c2_0_5 : chkR (anyDrew false ls17) dR (.three 8252 (.of 400) (.of 400) (.of 400)) [(12294, 5, 5), (4098, 0, 0), (7, 2, 2)] = true := by kernel_rfl
set_option maxRecDepth 100000 in
theorem c3_1_3 : chkR (anyDrew false ls33) dR (.three 8252 (.of 400) (.of 400) (.of 400)) [(12294, 3, 3), (4099, 1, 1), (7, 3, 3)] = true := by kernel_rfl
set_option maxRecDepth 100000 in
theorem c4_1_2 : chkR (anyDrew false ls50) dR (.three 8252 (.of 400) (.of 400) (.of 400)) [(12294, 2, 2), (4101, 1, 1), (7, 4, 4)] = true := by kernel_rfl
set_option maxRecDepth 100000 in
theorem c5_0_2 : chkR (anyDrew false ls74) dR (.three 8252 (.of 400) (.of 400) (.of 400)) [(12294, 2, 2), (4103, 0, 0), (7, 5, 5)] = true := by kernel_rfl
set_option maxRecDepth 100000 in
theorem c6_0_1 : chkR (anyDrew false ls115) dR (.three 8252 (.of 400) (.of 400) (.of 400)) [(12294, 1, 1), (4107, 0, 0), (7, 6, 6)] = true := by kernel_rfl
set_option maxRecDepth 100000 in
theorem c2_0_4 : chkR (anyDrew false ls16) dR (.three 8252 (.of 400) (.of 400) (.of 400)) [(12294, 4, 4), (4098, 0, 0), (7, 2, 2)] = true := by kernel_rfl
set_option maxRecDepth 100000 in
theorem c3_1_2 : chkR (anyDrew false ls32) dR (.three 8252 (.of 400) (.of 400) (.of 400)) [(12294, 2, 2), (4099, 1, 1), (7, 3, 3)] = true := by kernel_rfl
set_option maxRecDepth 100000 in
theorem c4_1_1 : chkR (anyDrew false ls49) dR (.three 8252 (.of 400) (.of 400) (.of 400)) [(12294, 1, 1), (4101, 1, 1), (7, 4, 4)] = true := by kernel_rfl
set_option maxRecDepth 100000 in
theorem c5_1_0 : chkR (anyDrew false ls78) dR (.three 8252 (.of 400) (.of 400) (.of 400)) [(12294, 0, 0), (4103, 1, 1), (7, 5, 5)] = true := by kernel_rfl
set_option maxRecDepth 100000 in
theorem c1_0_4 : chkR (anyDrew false ls10) dR (.three 8252 (.of 400) (.of 400) (.of 400)) [(12294, 4, 4), (7, 1, 1)] = true := by kernel_rfl
set_option maxRecDepth 100000 in
theorem c3_0_2 : chkR (anyDrew false ls26) dR (.three 8252 (.of 400) (.of 400) (.of 400)) [(12294, 2, 2), (4099, 0, 0), (7, 3, 3)] = true := by kernel_rfl
set_option maxRecDepth 100000 in
theorem c4_0_1 : chkR (anyDrew false ls43) dR (.three 8252 (.of 400) (.of 400) (.of 400)) [(12294, 1, 1), (4101, 0, 0), (7, 4, 4)] = true := by kernel_rfl
set_option maxRecDepth 100000 in
theorem c0_0_4 : chkR (anyDrew false ls4) dR (.three 8252 (.of 400) (.of 400) (.of 400)) [(12294, 4, 4), (7, 0, 0)] = true := by kernel_rfl
set_option maxRecDepth 100000 in
theorem c2_1_1 : chkR (anyDrew false ls19) dR (.three 8252 (.of 400) (.of 400) (.of 400)) [(12294, 1, 1), (4098, 1, 1), (7, 2, 2)] = true := by kernel_rfl
set_option maxRecDepth 100000 in
theorem c4_0_0 : chkR (anyDrew false ls42) dR (.three 8252 (.of 400) (.of 400) (.of 400)) [(12294, 0, 0), (4101, 0, 0), (7, 4, 4)] = true := by kernel_rfl
set_option maxRecDepth 100000 in
theorem c2_0_1 : chkR (anyDrew false ls13) dR (.three 8252 (.of 400) (.of 400) (.of 400)) [(12294, 1, 1), (4098, 0, 0), (7, 2, 2)] = true := by kernel_rfl
set_option maxRecDepth 100000 in
theorem c0_0_2 : chkR (anyDrew false ls2) dR (.three 8252 (.of 400) (.of 400) (.of 400)) [(12294, 2, 2), (7, 0, 0)] = true := by kernel_rfl
set_option maxRecDepth 100000 in
theorem c0_0_1 : chkR (anyDrew false ls1) dR (.three 8252 (.of 400) (.of 400) (.of 400)) [(12294, 1, 1), (7, 0, 0)] = true := by kernel_rfl
end Go.Proofs.Ytnglbchhlpbgkab.waysDrawn
