/- Runs of the program at a seat. -/
import Derived.Test.YtnglbchhlpbgkabOneH
namespace Go.Proofs.Ytnglbchhlpbgkab.oneDrawn
open Go Go.Eng
set_option linter.unusedVariables false
set_option linter.unusedSectionVars false
set_option linter.unusedSimpArgs false
set_option maxRecDepth 100000 in
theorem c6_9 : chkR (anyDrew true ls28) dR (.three 8252 (.of 400) (.of 400) (.of 400)) [(4107, 9, 9), (7, 6, 6)] = true := by kernel_rfl
set_option maxRecDepth 100000 in
theorem c6_6 : chkR (anyDrew true ls25) dR (.three 8252 (.of 400) (.of 400) (.of 400)) [(4107, 6, 6), (7, 6, 6)] = true := by kernel_rfl
set_option maxRecDepth 100000 in
theorem c5_5 : chkR (anyDrew true ls17) dR (.three 8252 (.of 400) (.of 400) (.of 400)) [(4103, 5, 5), (7, 5, 5)] = true := by kernel_rfl
set_option maxRecDepth 100000 in
theorem c6_3 : chkR (anyDrew true ls22) dR (.three 8252 (.of 400) (.of 400) (.of 400)) [(4107, 3, 3), (7, 6, 6)] = true := by kernel_rfl
set_option maxRecDepth 100000 in
theorem c6_2 : chkR (anyDrew true ls21) dR (.three 8252 (.of 400) (.of 400) (.of 400)) [(4107, 2, 2), (7, 6, 6)] = true := by kernel_rfl
set_option maxRecDepth 100000 in
theorem c6_1 : chkR (anyDrew true ls20) dR (.three 8252 (.of 400) (.of 400) (.of 400)) [(4107, 1, 1), (7, 6, 6)] = true := by kernel_rfl
set_option maxRecDepth 100000 in
theorem c6_0 : chkR (anyDrew true ls19) dR (.three 8252 (.of 400) (.of 400) (.of 400)) [(4107, 0, 0), (7, 6, 6)] = true := by kernel_rfl
set_option maxRecDepth 100000 in
theorem c5_0 : chkR (anyDrew true ls12) dR (.three 8252 (.of 400) (.of 400) (.of 400)) [(4103, 0, 0), (7, 5, 5)] = true := by kernel_rfl
set_option maxRecDepth 100000 in
theorem c2_1 : chkR (anyDrew true ls3) dR (.three 8252 (.of 400) (.of 400) (.of 400)) [(4098, 1, 1), (7, 2, 2)] = true := by kernel_rfl
set_option maxRecDepth 100000 in
theorem c1_0 : chkR (anyDrew true ls1) dR (.three 8252 (.of 400) (.of 400) (.of 400)) [(7, 1, 1)] = true := by kernel_rfl
end Go.Proofs.Ytnglbchhlpbgkab.oneDrawn
