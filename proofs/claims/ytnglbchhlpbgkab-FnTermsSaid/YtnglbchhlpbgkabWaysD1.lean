/- Runs of the program at a seat. -/
import Derived.Test.YtnglbchhlpbgkabWaysH
namespace Go.Proofs.Ytnglbchhlpbgkab.waysDrawn
open Go Go.Eng
set_option linter.unusedVariables false
set_option linter.unusedSectionVars false
set_option linter.unusedSimpArgs false
set_option maxRecDepth 100000 in
theorem c6_9_5 : chkR (anyDrew false ls173) dR (.three 8252 (.of 400) (.of 400) (.of 400)) [(12294, 5, 5), (4107, 9, 9), (7, 6, 6)] = true := by kernel_rfl
set_option maxRecDepth 100000 in
theorem c6_9_4 : chkR (anyDrew false ls172) dR (.three 8252 (.of 400) (.of 400) (.of 400)) [(12294, 4, 4), (4107, 9, 9), (7, 6, 6)] = true := by kernel_rfl
set_option maxRecDepth 100000 in
theorem c6_8_4 : chkR (anyDrew false ls166) dR (.three 8252 (.of 400) (.of 400) (.of 400)) [(12294, 4, 4), (4107, 8, 8), (7, 6, 6)] = true := by kernel_rfl
set_option maxRecDepth 100000 in
theorem c6_6_5 : chkR (anyDrew false ls155) dR (.three 8252 (.of 400) (.of 400) (.of 400)) [(12294, 5, 5), (4107, 6, 6), (7, 6, 6)] = true := by kernel_rfl
set_option maxRecDepth 100000 in
theorem c6_9_2 : chkR (anyDrew false ls170) dR (.three 8252 (.of 400) (.of 400) (.of 400)) [(12294, 2, 2), (4107, 9, 9), (7, 6, 6)] = true := by kernel_rfl
set_option maxRecDepth 100000 in
theorem c6_5_5 : chkR (anyDrew false ls149) dR (.three 8252 (.of 400) (.of 400) (.of 400)) [(12294, 5, 5), (4107, 5, 5), (7, 6, 6)] = true := by kernel_rfl
set_option maxRecDepth 100000 in
theorem c6_8_2 : chkR (anyDrew false ls164) dR (.three 8252 (.of 400) (.of 400) (.of 400)) [(12294, 2, 2), (4107, 8, 8), (7, 6, 6)] = true := by kernel_rfl
set_option maxRecDepth 100000 in
theorem c5_5_5 : chkR (anyDrew false ls107) dR (.three 8252 (.of 400) (.of 400) (.of 400)) [(12294, 5, 5), (4103, 5, 5), (7, 5, 5)] = true := by kernel_rfl
set_option maxRecDepth 100000 in
theorem c6_5_4 : chkR (anyDrew false ls148) dR (.three 8252 (.of 400) (.of 400) (.of 400)) [(12294, 4, 4), (4107, 5, 5), (7, 6, 6)] = true := by kernel_rfl
set_option maxRecDepth 100000 in
theorem c6_8_1 : chkR (anyDrew false ls163) dR (.three 8252 (.of 400) (.of 400) (.of 400)) [(12294, 1, 1), (4107, 8, 8), (7, 6, 6)] = true := by kernel_rfl
set_option maxRecDepth 100000 in
theorem c5_5_4 : chkR (anyDrew false ls106) dR (.three 8252 (.of 400) (.of 400) (.of 400)) [(12294, 4, 4), (4103, 5, 5), (7, 5, 5)] = true := by kernel_rfl
set_option maxRecDepth 100000 in
theorem c6_4_4 : chkR (anyDrew false ls142) dR (.three 8252 (.of 400) (.of 400) (.of 400)) [(12294, 4, 4), (4107, 4, 4), (7, 6, 6)] = true := by kernel_rfl
set_option maxRecDepth 100000 in
theorem c6_7_1 : chkR (anyDrew false ls157) dR (.three 8252 (.of 400) (.of 400) (.of 400)) [(12294, 1, 1), (4107, 7, 7), (7, 6, 6)] = true := by kernel_rfl
set_option maxRecDepth 100000 in
theorem c5_3_5 : chkR (anyDrew false ls95) dR (.three 8252 (.of 400) (.of 400) (.of 400)) [(12294, 5, 5), (4103, 3, 3), (7, 5, 5)] = true := by kernel_rfl
set_option maxRecDepth 100000 in
theorem c5_6_2 : chkR (anyDrew false ls110) dR (.three 8252 (.of 400) (.of 400) (.of 400)) [(12294, 2, 2), (4103, 6, 6), (7, 5, 5)] = true := by kernel_rfl
set_option maxRecDepth 100000 in
theorem c6_4_3 : chkR (anyDrew false ls141) dR (.three 8252 (.of 400) (.of 400) (.of 400)) [(12294, 3, 3), (4107, 4, 4), (7, 6, 6)] = true := by kernel_rfl
set_option maxRecDepth 100000 in
theorem c6_7_0 : chkR (anyDrew false ls156) dR (.three 8252 (.of 400) (.of 400) (.of 400)) [(12294, 0, 0), (4107, 7, 7), (7, 6, 6)] = true := by kernel_rfl
set_option maxRecDepth 100000 in
theorem c5_2_5 : chkR (anyDrew false ls89) dR (.three 8252 (.of 400) (.of 400) (.of 400)) [(12294, 5, 5), (4103, 2, 2), (7, 5, 5)] = true := by kernel_rfl
set_option maxRecDepth 100000 in
theorem c5_5_2 : chkR (anyDrew false ls104) dR (.three 8252 (.of 400) (.of 400) (.of 400)) [(12294, 2, 2), (4103, 5, 5), (7, 5, 5)] = true := by kernel_rfl
set_option maxRecDepth 100000 in
theorem c6_2_4 : chkR (anyDrew false ls130) dR (.three 8252 (.of 400) (.of 400) (.of 400)) [(12294, 4, 4), (4107, 2, 2), (7, 6, 6)] = true := by kernel_rfl
set_option maxRecDepth 100000 in
theorem c6_5_1 : chkR (anyDrew false ls145) dR (.three 8252 (.of 400) (.of 400) (.of 400)) [(12294, 1, 1), (4107, 5, 5), (7, 6, 6)] = true := by kernel_rfl
set_option maxRecDepth 100000 in
theorem c4_3_4 : chkR (anyDrew false ls64) dR (.three 8252 (.of 400) (.of 400) (.of 400)) [(12294, 4, 4), (4101, 3, 3), (7, 4, 4)] = true := by kernel_rfl
set_option maxRecDepth 100000 in
theorem c5_2_4 : chkR (anyDrew false ls88) dR (.three 8252 (.of 400) (.of 400) (.of 400)) [(12294, 4, 4), (4103, 2, 2), (7, 5, 5)] = true := by kernel_rfl
set_option maxRecDepth 100000 in
theorem c5_5_1 : chkR (anyDrew false ls103) dR (.three 8252 (.of 400) (.of 400) (.of 400)) [(12294, 1, 1), (4103, 5, 5), (7, 5, 5)] = true := by kernel_rfl
set_option maxRecDepth 100000 in
theorem c6_1_4 : chkR (anyDrew false ls124) dR (.three 8252 (.of 400) (.of 400) (.of 400)) [(12294, 4, 4), (4107, 1, 1), (7, 6, 6)] = true := by kernel_rfl
set_option maxRecDepth 100000 in
theorem c6_4_1 : chkR (anyDrew false ls139) dR (.three 8252 (.of 400) (.of 400) (.of 400)) [(12294, 1, 1), (4107, 4, 4), (7, 6, 6)] = true := by kernel_rfl
set_option maxRecDepth 100000 in
theorem c4_1_5 : chkR (anyDrew false ls53) dR (.three 8252 (.of 400) (.of 400) (.of 400)) [(12294, 5, 5), (4101, 1, 1), (7, 4, 4)] = true := by kernel_rfl
set_option maxRecDepth 100000 in
theorem c4_4_2 : chkR (anyDrew false ls68) dR (.three 8252 (.of 400) (.of 400) (.of 400)) [(12294, 2, 2), (4101, 4, 4), (7, 4, 4)] = true := by kernel_rfl
set_option maxRecDepth 100000 in
theorem c5_2_3 : chkR (anyDrew false ls87) dR (.three 8252 (.of 400) (.of 400) (.of 400)) [(12294, 3, 3), (4103, 2, 2), (7, 5, 5)] = true := by kernel_rfl
set_option maxRecDepth 100000 in
theorem c5_5_0 : chkR (anyDrew false ls102) dR (.three 8252 (.of 400) (.of 400) (.of 400)) [(12294, 0, 0), (4103, 5, 5), (7, 5, 5)] = true := by kernel_rfl
set_option maxRecDepth 100000 in
theorem c6_2_2 : chkR (anyDrew false ls128) dR (.three 8252 (.of 400) (.of 400) (.of 400)) [(12294, 2, 2), (4107, 2, 2), (7, 6, 6)] = true := by kernel_rfl
set_option maxRecDepth 100000 in
theorem c3_1_5 : chkR (anyDrew false ls35) dR (.three 8252 (.of 400) (.of 400) (.of 400)) [(12294, 5, 5), (4099, 1, 1), (7, 3, 3)] = true := by kernel_rfl
set_option maxRecDepth 100000 in
theorem c4_1_4 : chkR (anyDrew false ls52) dR (.three 8252 (.of 400) (.of 400) (.of 400)) [(12294, 4, 4), (4101, 1, 1), (7, 4, 4)] = true := by kernel_rfl
set_option maxRecDepth 100000 in
theorem c4_4_1 : chkR (anyDrew false ls67) dR (.three 8252 (.of 400) (.of 400) (.of 400)) [(12294, 1, 1), (4101, 4, 4), (7, 4, 4)] = true := by kernel_rfl
set_option maxRecDepth 100000 in
theorem c5_2_2 : chkR (anyDrew false ls86) dR (.three 8252 (.of 400) (.of 400) (.of 400)) [(12294, 2, 2), (4103, 2, 2), (7, 5, 5)] = true := by kernel_rfl
set_option maxRecDepth 100000 in
theorem c6_0_3 : chkR (anyDrew false ls117) dR (.three 8252 (.of 400) (.of 400) (.of 400)) [(12294, 3, 3), (4107, 0, 0), (7, 6, 6)] = true := by kernel_rfl
set_option maxRecDepth 100000 in
theorem c6_3_0 : chkR (anyDrew false ls132) dR (.three 8252 (.of 400) (.of 400) (.of 400)) [(12294, 0, 0), (4107, 3, 3), (7, 6, 6)] = true := by kernel_rfl
set_option maxRecDepth 100000 in
theorem c3_1_4 : chkR (anyDrew false ls34) dR (.three 8252 (.of 400) (.of 400) (.of 400)) [(12294, 4, 4), (4099, 1, 1), (7, 3, 3)] = true := by kernel_rfl
set_option maxRecDepth 100000 in
theorem c4_1_3 : chkR (anyDrew false ls51) dR (.three 8252 (.of 400) (.of 400) (.of 400)) [(12294, 3, 3), (4101, 1, 1), (7, 4, 4)] = true := by kernel_rfl
set_option maxRecDepth 100000 in
theorem c4_4_0 : chkR (anyDrew false ls66) dR (.three 8252 (.of 400) (.of 400) (.of 400)) [(12294, 0, 0), (4101, 4, 4), (7, 4, 4)] = true := by kernel_rfl
set_option maxRecDepth 100000 in
theorem c5_2_1 : chkR (anyDrew false ls85) dR (.three 8252 (.of 400) (.of 400) (.of 400)) [(12294, 1, 1), (4103, 2, 2), (7, 5, 5)] = true := by kernel_rfl
set_option maxRecDepth 100000 in
theorem c6_1_1 : chkR (anyDrew false ls121) dR (.three 8252 (.of 400) (.of 400) (.of 400)) [(12294, 1, 1), (4107, 1, 1), (7, 6, 6)] = true := by kernel_rfl
set_option maxRecDepth 100000 in
theorem c2_1_4 : chkR (anyDrew false ls22) dR (.three 8252 (.of 400) (.of 400) (.of 400)) [(12294, 4, 4), (4098, 1, 1), (7, 2, 2)] = true := by kernel_rfl
set_option maxRecDepth 100000 in
theorem c3_2_2 : chkR (anyDrew false ls38) dR (.three 8252 (.of 400) (.of 400) (.of 400)) [(12294, 2, 2), (4099, 2, 2), (7, 3, 3)] = true := by kernel_rfl
set_option maxRecDepth 100000 in
theorem c4_2_1 : chkR (anyDrew false ls55) dR (.three 8252 (.of 400) (.of 400) (.of 400)) [(12294, 1, 1), (4101, 2, 2), (7, 4, 4)] = true := by kernel_rfl
set_option maxRecDepth 100000 in
theorem c5_1_1 : chkR (anyDrew false ls79) dR (.three 8252 (.of 400) (.of 400) (.of 400)) [(12294, 1, 1), (4103, 1, 1), (7, 5, 5)] = true := by kernel_rfl
set_option maxRecDepth 100000 in
theorem c6_1_0 : chkR (anyDrew false ls120) dR (.three 8252 (.of 400) (.of 400) (.of 400)) [(12294, 0, 0), (4107, 1, 1), (7, 6, 6)] = true := by kernel_rfl
set_option maxRecDepth 100000 in
theorem c2_1_3 : chkR (anyDrew false ls21) dR (.three 8252 (.of 400) (.of 400) (.of 400)) [(12294, 3, 3), (4098, 1, 1), (7, 2, 2)] = true := by kernel_rfl
set_option maxRecDepth 100000 in
theorem c3_2_1 : chkR (anyDrew false ls37) dR (.three 8252 (.of 400) (.of 400) (.of 400)) [(12294, 1, 1), (4099, 2, 2), (7, 3, 3)] = true := by kernel_rfl
set_option maxRecDepth 100000 in
theorem c4_2_0 : chkR (anyDrew false ls54) dR (.three 8252 (.of 400) (.of 400) (.of 400)) [(12294, 0, 0), (4101, 2, 2), (7, 4, 4)] = true := by kernel_rfl
set_option maxRecDepth 100000 in
theorem c6_0_0 : chkR (anyDrew false ls114) dR (.three 8252 (.of 400) (.of 400) (.of 400)) [(12294, 0, 0), (4107, 0, 0), (7, 6, 6)] = true := by kernel_rfl
set_option maxRecDepth 100000 in
theorem c2_0_3 : chkR (anyDrew false ls15) dR (.three 8252 (.of 400) (.of 400) (.of 400)) [(12294, 3, 3), (4098, 0, 0), (7, 2, 2)] = true := by kernel_rfl
set_option maxRecDepth 100000 in
theorem c3_1_1 : chkR (anyDrew false ls31) dR (.three 8252 (.of 400) (.of 400) (.of 400)) [(12294, 1, 1), (4099, 1, 1), (7, 3, 3)] = true := by kernel_rfl
set_option maxRecDepth 100000 in
theorem c4_1_0 : chkR (anyDrew false ls48) dR (.three 8252 (.of 400) (.of 400) (.of 400)) [(12294, 0, 0), (4101, 1, 1), (7, 4, 4)] = true := by kernel_rfl
set_option maxRecDepth 100000 in
theorem c1_0_3 : chkR (anyDrew false ls9) dR (.three 8252 (.of 400) (.of 400) (.of 400)) [(12294, 3, 3), (7, 1, 1)] = true := by kernel_rfl
set_option maxRecDepth 100000 in
theorem c3_0_1 : chkR (anyDrew false ls25) dR (.three 8252 (.of 400) (.of 400) (.of 400)) [(12294, 1, 1), (4099, 0, 0), (7, 3, 3)] = true := by kernel_rfl
set_option maxRecDepth 100000 in
theorem c0_0_3 : chkR (anyDrew false ls3) dR (.three 8252 (.of 400) (.of 400) (.of 400)) [(12294, 3, 3), (7, 0, 0)] = true := by kernel_rfl
set_option maxRecDepth 100000 in
theorem c2_1_0 : chkR (anyDrew false ls18) dR (.three 8252 (.of 400) (.of 400) (.of 400)) [(12294, 0, 0), (4098, 1, 1), (7, 2, 2)] = true := by kernel_rfl
set_option maxRecDepth 100000 in
theorem c1_0_1 : chkR (anyDrew false ls7) dR (.three 8252 (.of 400) (.of 400) (.of 400)) [(12294, 1, 1), (7, 1, 1)] = true := by kernel_rfl
set_option maxRecDepth 100000 in
theorem c1_0_0 : chkR (anyDrew false ls6) dR (.three 8252 (.of 400) (.of 400) (.of 400)) [(12294, 0, 0), (7, 1, 1)] = true := by kernel_rfl
end Go.Proofs.Ytnglbchhlpbgkab.waysDrawn
