/- Runs of the program at a seat. -/
import Derived.Test.YtnglbchhlpbgkabWaysH
namespace Go.Proofs.Ytnglbchhlpbgkab.waysDrawn
open Go Go.Eng
set_option linter.unusedVariables false
set_option linter.unusedSectionVars false
set_option linter.unusedSimpArgs false
set_option maxRecDepth 100000 in
theorem c6_10_4 : chkR (anyDrew false ls178) dR (.three 8252 (.of 400) (.of 400) (.of 400)) [(12294, 4, 4), (4107, 10, 10), (7, 6, 6)] = true := by kernel_rfl
set_option maxRecDepth 100000 in
theorem c6_10_3 : chkR (anyDrew false ls177) dR (.three 8252 (.of 400) (.of 400) (.of 400)) [(12294, 3, 3), (4107, 10, 10), (7, 6, 6)] = true := by kernel_rfl
set_option maxRecDepth 100000 in
theorem c6_9_3 : chkR (anyDrew false ls171) dR (.three 8252 (.of 400) (.of 400) (.of 400)) [(12294, 3, 3), (4107, 9, 9), (7, 6, 6)] = true := by kernel_rfl
set_option maxRecDepth 100000 in
theorem c6_7_4 : chkR (anyDrew false ls160) dR (.three 8252 (.of 400) (.of 400) (.of 400)) [(12294, 4, 4), (4107, 7, 7), (7, 6, 6)] = true := by kernel_rfl
set_option maxRecDepth 100000 in
theorem c6_10_1 : chkR (anyDrew false ls175) dR (.three 8252 (.of 400) (.of 400) (.of 400)) [(12294, 1, 1), (4107, 10, 10), (7, 6, 6)] = true := by kernel_rfl
set_option maxRecDepth 100000 in
theorem c6_6_4 : chkR (anyDrew false ls154) dR (.three 8252 (.of 400) (.of 400) (.of 400)) [(12294, 4, 4), (4107, 6, 6), (7, 6, 6)] = true := by kernel_rfl
set_option maxRecDepth 100000 in
theorem c6_9_1 : chkR (anyDrew false ls169) dR (.three 8252 (.of 400) (.of 400) (.of 400)) [(12294, 1, 1), (4107, 9, 9), (7, 6, 6)] = true := by kernel_rfl
set_option maxRecDepth 100000 in
theorem c5_6_4 : chkR (anyDrew false ls112) dR (.three 8252 (.of 400) (.of 400) (.of 400)) [(12294, 4, 4), (4103, 6, 6), (7, 5, 5)] = true := by kernel_rfl
set_option maxRecDepth 100000 in
theorem c6_6_3 : chkR (anyDrew false ls153) dR (.three 8252 (.of 400) (.of 400) (.of 400)) [(12294, 3, 3), (4107, 6, 6), (7, 6, 6)] = true := by kernel_rfl
set_option maxRecDepth 100000 in
theorem c6_9_0 : chkR (anyDrew false ls168) dR (.three 8252 (.of 400) (.of 400) (.of 400)) [(12294, 0, 0), (4107, 9, 9), (7, 6, 6)] = true := by kernel_rfl
set_option maxRecDepth 100000 in
theorem c5_6_3 : chkR (anyDrew false ls111) dR (.three 8252 (.of 400) (.of 400) (.of 400)) [(12294, 3, 3), (4103, 6, 6), (7, 5, 5)] = true := by kernel_rfl
set_option maxRecDepth 100000 in
theorem c6_5_3 : chkR (anyDrew false ls147) dR (.three 8252 (.of 400) (.of 400) (.of 400)) [(12294, 3, 3), (4107, 5, 5), (7, 6, 6)] = true := by kernel_rfl
set_option maxRecDepth 100000 in
theorem c6_8_0 : chkR (anyDrew false ls162) dR (.three 8252 (.of 400) (.of 400) (.of 400)) [(12294, 0, 0), (4107, 8, 8), (7, 6, 6)] = true := by kernel_rfl
set_option maxRecDepth 100000 in
theorem c5_4_4 : chkR (anyDrew false ls100) dR (.three 8252 (.of 400) (.of 400) (.of 400)) [(12294, 4, 4), (4103, 4, 4), (7, 5, 5)] = true := by kernel_rfl
set_option maxRecDepth 100000 in
theorem c6_2_5 : chkR (anyDrew false ls131) dR (.three 8252 (.of 400) (.of 400) (.of 400)) [(12294, 5, 5), (4107, 2, 2), (7, 6, 6)] = true := by kernel_rfl
set_option maxRecDepth 100000 in
theorem c6_5_2 : chkR (anyDrew false ls146) dR (.three 8252 (.of 400) (.of 400) (.of 400)) [(12294, 2, 2), (4107, 5, 5), (7, 6, 6)] = true := by kernel_rfl
set_option maxRecDepth 100000 in
theorem c4_3_5 : chkR (anyDrew false ls65) dR (.three 8252 (.of 400) (.of 400) (.of 400)) [(12294, 5, 5), (4101, 3, 3), (7, 4, 4)] = true := by kernel_rfl
set_option maxRecDepth 100000 in
theorem c5_3_4 : chkR (anyDrew false ls94) dR (.three 8252 (.of 400) (.of 400) (.of 400)) [(12294, 4, 4), (4103, 3, 3), (7, 5, 5)] = true := by kernel_rfl
set_option maxRecDepth 100000 in
theorem c5_6_1 : chkR (anyDrew false ls109) dR (.three 8252 (.of 400) (.of 400) (.of 400)) [(12294, 1, 1), (4103, 6, 6), (7, 5, 5)] = true := by kernel_rfl
set_option maxRecDepth 100000 in
theorem c6_3_3 : chkR (anyDrew false ls135) dR (.three 8252 (.of 400) (.of 400) (.of 400)) [(12294, 3, 3), (4107, 3, 3), (7, 6, 6)] = true := by kernel_rfl
set_option maxRecDepth 100000 in
theorem c6_6_0 : chkR (anyDrew false ls150) dR (.three 8252 (.of 400) (.of 400) (.of 400)) [(12294, 0, 0), (4107, 6, 6), (7, 6, 6)] = true := by kernel_rfl
set_option maxRecDepth 100000 in
theorem c4_4_3 : chkR (anyDrew false ls69) dR (.three 8252 (.of 400) (.of 400) (.of 400)) [(12294, 3, 3), (4101, 4, 4), (7, 4, 4)] = true := by kernel_rfl
set_option maxRecDepth 100000 in
theorem c5_3_3 : chkR (anyDrew false ls93) dR (.three 8252 (.of 400) (.of 400) (.of 400)) [(12294, 3, 3), (4103, 3, 3), (7, 5, 5)] = true := by kernel_rfl
set_option maxRecDepth 100000 in
theorem c5_6_0 : chkR (anyDrew false ls108) dR (.three 8252 (.of 400) (.of 400) (.of 400)) [(12294, 0, 0), (4103, 6, 6), (7, 5, 5)] = true := by kernel_rfl
set_option maxRecDepth 100000 in
theorem c6_2_3 : chkR (anyDrew false ls129) dR (.three 8252 (.of 400) (.of 400) (.of 400)) [(12294, 3, 3), (4107, 2, 2), (7, 6, 6)] = true := by kernel_rfl
set_option maxRecDepth 100000 in
theorem c6_5_0 : chkR (anyDrew false ls144) dR (.three 8252 (.of 400) (.of 400) (.of 400)) [(12294, 0, 0), (4107, 5, 5), (7, 6, 6)] = true := by kernel_rfl
set_option maxRecDepth 100000 in
theorem c4_2_4 : chkR (anyDrew false ls58) dR (.three 8252 (.of 400) (.of 400) (.of 400)) [(12294, 4, 4), (4101, 2, 2), (7, 4, 4)] = true := by kernel_rfl
set_option maxRecDepth 100000 in
theorem c5_0_5 : chkR (anyDrew false ls77) dR (.three 8252 (.of 400) (.of 400) (.of 400)) [(12294, 5, 5), (4103, 0, 0), (7, 5, 5)] = true := by kernel_rfl
set_option maxRecDepth 100000 in
theorem c5_3_2 : chkR (anyDrew false ls92) dR (.three 8252 (.of 400) (.of 400) (.of 400)) [(12294, 2, 2), (4103, 3, 3), (7, 5, 5)] = true := by kernel_rfl
set_option maxRecDepth 100000 in
theorem c6_0_4 : chkR (anyDrew false ls118) dR (.three 8252 (.of 400) (.of 400) (.of 400)) [(12294, 4, 4), (4107, 0, 0), (7, 6, 6)] = true := by kernel_rfl
set_option maxRecDepth 100000 in
theorem c6_3_1 : chkR (anyDrew false ls133) dR (.three 8252 (.of 400) (.of 400) (.of 400)) [(12294, 1, 1), (4107, 3, 3), (7, 6, 6)] = true := by kernel_rfl
set_option maxRecDepth 100000 in
theorem c3_2_4 : chkR (anyDrew false ls40) dR (.three 8252 (.of 400) (.of 400) (.of 400)) [(12294, 4, 4), (4099, 2, 2), (7, 3, 3)] = true := by kernel_rfl
set_option maxRecDepth 100000 in
theorem c4_2_3 : chkR (anyDrew false ls57) dR (.three 8252 (.of 400) (.of 400) (.of 400)) [(12294, 3, 3), (4101, 2, 2), (7, 4, 4)] = true := by kernel_rfl
set_option maxRecDepth 100000 in
theorem c5_0_4 : chkR (anyDrew false ls76) dR (.three 8252 (.of 400) (.of 400) (.of 400)) [(12294, 4, 4), (4103, 0, 0), (7, 5, 5)] = true := by kernel_rfl
set_option maxRecDepth 100000 in
theorem c5_3_1 : chkR (anyDrew false ls91) dR (.three 8252 (.of 400) (.of 400) (.of 400)) [(12294, 1, 1), (4103, 3, 3), (7, 5, 5)] = true := by kernel_rfl
set_option maxRecDepth 100000 in
theorem c6_1_2 : chkR (anyDrew false ls122) dR (.three 8252 (.of 400) (.of 400) (.of 400)) [(12294, 2, 2), (4107, 1, 1), (7, 6, 6)] = true := by kernel_rfl
set_option maxRecDepth 100000 in
theorem c2_1_5 : chkR (anyDrew false ls23) dR (.three 8252 (.of 400) (.of 400) (.of 400)) [(12294, 5, 5), (4098, 1, 1), (7, 2, 2)] = true := by kernel_rfl
set_option maxRecDepth 100000 in
theorem c3_2_3 : chkR (anyDrew false ls39) dR (.three 8252 (.of 400) (.of 400) (.of 400)) [(12294, 3, 3), (4099, 2, 2), (7, 3, 3)] = true := by kernel_rfl
set_option maxRecDepth 100000 in
theorem c4_2_2 : chkR (anyDrew false ls56) dR (.three 8252 (.of 400) (.of 400) (.of 400)) [(12294, 2, 2), (4101, 2, 2), (7, 4, 4)] = true := by kernel_rfl
set_option maxRecDepth 100000 in
theorem c5_0_3 : chkR (anyDrew false ls75) dR (.three 8252 (.of 400) (.of 400) (.of 400)) [(12294, 3, 3), (4103, 0, 0), (7, 5, 5)] = true := by kernel_rfl
set_option maxRecDepth 100000 in
theorem c5_3_0 : chkR (anyDrew false ls90) dR (.three 8252 (.of 400) (.of 400) (.of 400)) [(12294, 0, 0), (4103, 3, 3), (7, 5, 5)] = true := by kernel_rfl
set_option maxRecDepth 100000 in
theorem c6_2_0 : chkR (anyDrew false ls126) dR (.three 8252 (.of 400) (.of 400) (.of 400)) [(12294, 0, 0), (4107, 2, 2), (7, 6, 6)] = true := by kernel_rfl
set_option maxRecDepth 100000 in
theorem c3_0_4 : chkR (anyDrew false ls28) dR (.three 8252 (.of 400) (.of 400) (.of 400)) [(12294, 4, 4), (4099, 0, 0), (7, 3, 3)] = true := by kernel_rfl
set_option maxRecDepth 100000 in
theorem c4_0_3 : chkR (anyDrew false ls45) dR (.three 8252 (.of 400) (.of 400) (.of 400)) [(12294, 3, 3), (4101, 0, 0), (7, 4, 4)] = true := by kernel_rfl
set_option maxRecDepth 100000 in
theorem c4_3_0 : chkR (anyDrew false ls60) dR (.three 8252 (.of 400) (.of 400) (.of 400)) [(12294, 0, 0), (4101, 3, 3), (7, 4, 4)] = true := by kernel_rfl
set_option maxRecDepth 100000 in
theorem c5_2_0 : chkR (anyDrew false ls84) dR (.three 8252 (.of 400) (.of 400) (.of 400)) [(12294, 0, 0), (4103, 2, 2), (7, 5, 5)] = true := by kernel_rfl
set_option maxRecDepth 100000 in
theorem c1_0_5 : chkR (anyDrew false ls11) dR (.three 8252 (.of 400) (.of 400) (.of 400)) [(12294, 5, 5), (7, 1, 1)] = true := by kernel_rfl
set_option maxRecDepth 100000 in
theorem c3_0_3 : chkR (anyDrew false ls27) dR (.three 8252 (.of 400) (.of 400) (.of 400)) [(12294, 3, 3), (4099, 0, 0), (7, 3, 3)] = true := by kernel_rfl
set_option maxRecDepth 100000 in
theorem c4_0_2 : chkR (anyDrew false ls44) dR (.three 8252 (.of 400) (.of 400) (.of 400)) [(12294, 2, 2), (4101, 0, 0), (7, 4, 4)] = true := by kernel_rfl
set_option maxRecDepth 100000 in
theorem c5_0_1 : chkR (anyDrew false ls73) dR (.three 8252 (.of 400) (.of 400) (.of 400)) [(12294, 1, 1), (4103, 0, 0), (7, 5, 5)] = true := by kernel_rfl
set_option maxRecDepth 100000 in
theorem c0_0_5 : chkR (anyDrew false ls5) dR (.three 8252 (.of 400) (.of 400) (.of 400)) [(12294, 5, 5), (7, 0, 0)] = true := by kernel_rfl
set_option maxRecDepth 100000 in
theorem c2_1_2 : chkR (anyDrew false ls20) dR (.three 8252 (.of 400) (.of 400) (.of 400)) [(12294, 2, 2), (4098, 1, 1), (7, 2, 2)] = true := by kernel_rfl
set_option maxRecDepth 100000 in
theorem c3_2_0 : chkR (anyDrew false ls36) dR (.three 8252 (.of 400) (.of 400) (.of 400)) [(12294, 0, 0), (4099, 2, 2), (7, 3, 3)] = true := by kernel_rfl
set_option maxRecDepth 100000 in
theorem c5_0_0 : chkR (anyDrew false ls72) dR (.three 8252 (.of 400) (.of 400) (.of 400)) [(12294, 0, 0), (4103, 0, 0), (7, 5, 5)] = true := by kernel_rfl
set_option maxRecDepth 100000 in
theorem c2_0_2 : chkR (anyDrew false ls14) dR (.three 8252 (.of 400) (.of 400) (.of 400)) [(12294, 2, 2), (4098, 0, 0), (7, 2, 2)] = true := by kernel_rfl
set_option maxRecDepth 100000 in
theorem c3_1_0 : chkR (anyDrew false ls30) dR (.three 8252 (.of 400) (.of 400) (.of 400)) [(12294, 0, 0), (4099, 1, 1), (7, 3, 3)] = true := by kernel_rfl
set_option maxRecDepth 100000 in
theorem c1_0_2 : chkR (anyDrew false ls8) dR (.three 8252 (.of 400) (.of 400) (.of 400)) [(12294, 2, 2), (7, 1, 1)] = true := by kernel_rfl
set_option maxRecDepth 100000 in
theorem c3_0_0 : chkR (anyDrew false ls24) dR (.three 8252 (.of 400) (.of 400) (.of 400)) [(12294, 0, 0), (4099, 0, 0), (7, 3, 3)] = true := by kernel_rfl
set_option maxRecDepth 100000 in
theorem c2_0_0 : chkR (anyDrew false ls12) dR (.three 8252 (.of 400) (.of 400) (.of 400)) [(12294, 0, 0), (4098, 0, 0), (7, 2, 2)] = true := by kernel_rfl
set_option maxRecDepth 100000 in
theorem c0_0_0 : chkR (anyDrew false ls0) dR (.three 8252 (.of 400) (.of 400) (.of 400)) [(12294, 0, 0), (7, 0, 0)] = true := by kernel_rfl
end Go.Proofs.Ytnglbchhlpbgkab.waysDrawn
