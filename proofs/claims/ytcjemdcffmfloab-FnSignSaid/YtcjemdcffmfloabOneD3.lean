/- Runs of the program at a seat. -/
import Derived.Test.YtcjemdcffmfloabOneH
namespace Go.Proofs.Ytcjemdcffmfloab.oneDrawn
open Go Go.Eng
set_option linter.unusedVariables false
set_option linter.unusedSectionVars false
set_option linter.unusedSimpArgs false
set_option maxRecDepth 100000 in
theorem c6_7 : chkR (anyDrew true ls26) dR (.three 8252 (.of 400) (.of 400) (.of 400)) [(4107, 7, 7), (7, 6, 6)] = true := by kernel_rfl
set_option maxRecDepth 100000 in
theorem c5_5 : chkR (anyDrew true ls17) dR (.three 8252 (.of 400) (.of 400) (.of 400)) [(4103, 5, 5), (7, 5, 5)] = true := by kernel_rfl
set_option maxRecDepth 100000 in
theorem c4_4 : chkR (anyDrew true ls11) dR (.three 8252 (.of 400) (.of 400) (.of 400)) [(4101, 4, 4), (7, 4, 4)] = true := by kernel_rfl
set_option maxRecDepth 100000 in
theorem c5_2 : chkR (anyDrew true ls14) dR (.three 8252 (.of 400) (.of 400) (.of 400)) [(4103, 2, 2), (7, 5, 5)] = true := by kernel_rfl
set_option maxRecDepth 100000 in
theorem c6_0 : chkR (anyDrew true ls19) dR (.three 8252 (.of 400) (.of 400) (.of 400)) [(4107, 0, 0), (7, 6, 6)] = true := by kernel_rfl
set_option maxRecDepth 100000 in
theorem c3_1 : chkR (anyDrew true ls5) dR (.three 8252 (.of 400) (.of 400) (.of 400)) [(4099, 1, 1), (7, 3, 3)] = true := by kernel_rfl
set_option maxRecDepth 100000 in
theorem c2_0 : chkR (anyDrew true ls2) dR (.three 8252 (.of 400) (.of 400) (.of 400)) [(4098, 0, 0), (7, 2, 2)] = true := by kernel_rfl
end Go.Proofs.Ytcjemdcffmfloab.oneDrawn
