/- Runs of the program at a seat. -/
import Derived.Test.YtnglbchhlpbgkabOneH
namespace Go.Proofs.Ytnglbchhlpbgkab.oneDrawn
open Go Go.Eng
set_option linter.unusedVariables false
set_option linter.unusedSectionVars false
set_option linter.unusedSimpArgs false
set_option maxRecDepth 100000 in
theorem c6_8 : chkR (anyDrew true ls27) dR (.three 8252 (.of 400) (.of 400) (.of 400)) [(4107, 8, 8), (7, 6, 6)] = true := by kernel_rfl
set_option maxRecDepth 100000 in
theorem c5_6 : chkR (anyDrew true ls18) dR (.three 8252 (.of 400) (.of 400) (.of 400)) [(4103, 6, 6), (7, 5, 5)] = true := by kernel_rfl
set_option maxRecDepth 100000 in
theorem c6_4 : chkR (anyDrew true ls23) dR (.three 8252 (.of 400) (.of 400) (.of 400)) [(4107, 4, 4), (7, 6, 6)] = true := by kernel_rfl
set_option maxRecDepth 100000 in
theorem c4_4 : chkR (anyDrew true ls11) dR (.three 8252 (.of 400) (.of 400) (.of 400)) [(4101, 4, 4), (7, 4, 4)] = true := by kernel_rfl
set_option maxRecDepth 100000 in
theorem c4_3 : chkR (anyDrew true ls10) dR (.three 8252 (.of 400) (.of 400) (.of 400)) [(4101, 3, 3), (7, 4, 4)] = true := by kernel_rfl
set_option maxRecDepth 100000 in
theorem c4_2 : chkR (anyDrew true ls9) dR (.three 8252 (.of 400) (.of 400) (.of 400)) [(4101, 2, 2), (7, 4, 4)] = true := by kernel_rfl
set_option maxRecDepth 100000 in
theorem c3_2 : chkR (anyDrew true ls6) dR (.three 8252 (.of 400) (.of 400) (.of 400)) [(4099, 2, 2), (7, 3, 3)] = true := by kernel_rfl
set_option maxRecDepth 100000 in
theorem c3_1 : chkR (anyDrew true ls5) dR (.three 8252 (.of 400) (.of 400) (.of 400)) [(4099, 1, 1), (7, 3, 3)] = true := by kernel_rfl
set_option maxRecDepth 100000 in
theorem c3_0 : chkR (anyDrew true ls4) dR (.three 8252 (.of 400) (.of 400) (.of 400)) [(4099, 0, 0), (7, 3, 3)] = true := by kernel_rfl
set_option maxRecDepth 100000 in
theorem c0_0 : chkR (anyDrew true ls0) dR (.three 8252 (.of 400) (.of 400) (.of 400)) [(7, 0, 0)] = true := by kernel_rfl
end Go.Proofs.Ytnglbchhlpbgkab.oneDrawn
