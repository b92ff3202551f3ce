/- Runs of the program at a seat. -/
import Derived.Test.YtnglbchhlpbgkabOneH
namespace Go.Proofs.Ytnglbchhlpbgkab.oneDrawn
open Go Go.Eng
set_option linter.unusedVariables false
set_option linter.unusedSectionVars false
set_option linter.unusedSimpArgs false
set_option maxRecDepth 100000 in
theorem c6_10 : chkR (anyDrew true ls29) dR (.three 8252 (.of 400) (.of 400) (.of 400)) [(4107, 10, 10), (7, 6, 6)] = true := by kernel_rfl
set_option maxRecDepth 100000 in
theorem c6_7 : chkR (anyDrew true ls26) dR (.three 8252 (.of 400) (.of 400) (.of 400)) [(4107, 7, 7), (7, 6, 6)] = true := by kernel_rfl
set_option maxRecDepth 100000 in
theorem c6_5 : chkR (anyDrew true ls24) dR (.three 8252 (.of 400) (.of 400) (.of 400)) [(4107, 5, 5), (7, 6, 6)] = true := by kernel_rfl
set_option maxRecDepth 100000 in
theorem c5_4 : chkR (anyDrew true ls16) dR (.three 8252 (.of 400) (.of 400) (.of 400)) [(4103, 4, 4), (7, 5, 5)] = true := by kernel_rfl
set_option maxRecDepth 100000 in
theorem c5_3 : chkR (anyDrew true ls15) dR (.three 8252 (.of 400) (.of 400) (.of 400)) [(4103, 3, 3), (7, 5, 5)] = true := by kernel_rfl
set_option maxRecDepth 100000 in
theorem c5_2 : chkR (anyDrew true ls14) dR (.three 8252 (.of 400) (.of 400) (.of 400)) [(4103, 2, 2), (7, 5, 5)] = true := by kernel_rfl
set_option maxRecDepth 100000 in
theorem c5_1 : chkR (anyDrew true ls13) dR (.three 8252 (.of 400) (.of 400) (.of 400)) [(4103, 1, 1), (7, 5, 5)] = true := by kernel_rfl
set_option maxRecDepth 100000 in
theorem c4_1 : chkR (anyDrew true ls8) dR (.three 8252 (.of 400) (.of 400) (.of 400)) [(4101, 1, 1), (7, 4, 4)] = true := by kernel_rfl
set_option maxRecDepth 100000 in
theorem c4_0 : chkR (anyDrew true ls7) dR (.three 8252 (.of 400) (.of 400) (.of 400)) [(4101, 0, 0), (7, 4, 4)] = true := by kernel_rfl
set_option maxRecDepth 100000 in
theorem c2_0 : chkR (anyDrew true ls2) dR (.three 8252 (.of 400) (.of 400) (.of 400)) [(4098, 0, 0), (7, 2, 2)] = true := by kernel_rfl
end Go.Proofs.Ytnglbchhlpbgkab.oneDrawn
