/- Runs of the program at a seat. -/
import Derived.Test.YtcjemdcffmfloabOneH
namespace Go.Proofs.Ytcjemdcffmfloab.oneDrawn
open Go Go.Eng
set_option linter.unusedVariables false
set_option linter.unusedSectionVars false
set_option linter.unusedSimpArgs false
set_option maxRecDepth 100000 in
theorem c6_8 : chkR (anyDrew true ls27) dR (.three 8252 (.of 400) (.of 400) (.of 400)) [(4107, 8, 8), (7, 6, 6)] = true := by kernel_rfl
set_option maxRecDepth 100000 in
theorem c6_5 : chkR (anyDrew true ls24) dR (.three 8252 (.of 400) (.of 400) (.of 400)) [(4107, 5, 5), (7, 6, 6)] = true := by kernel_rfl
set_option maxRecDepth 100000 in
theorem c6_3 : chkR (anyDrew true ls22) dR (.three 8252 (.of 400) (.of 400) (.of 400)) [(4107, 3, 3), (7, 6, 6)] = true := by kernel_rfl
set_option maxRecDepth 100000 in
theorem c4_3 : chkR (anyDrew true ls10) dR (.three 8252 (.of 400) (.of 400) (.of 400)) [(4101, 3, 3), (7, 4, 4)] = true := by kernel_rfl
set_option maxRecDepth 100000 in
theorem c5_1 : chkR (anyDrew true ls13) dR (.three 8252 (.of 400) (.of 400) (.of 400)) [(4103, 1, 1), (7, 5, 5)] = true := by kernel_rfl
set_option maxRecDepth 100000 in
theorem c5_0 : chkR (anyDrew true ls12) dR (.three 8252 (.of 400) (.of 400) (.of 400)) [(4103, 0, 0), (7, 5, 5)] = true := by kernel_rfl
set_option maxRecDepth 100000 in
theorem c3_0 : chkR (anyDrew true ls4) dR (.three 8252 (.of 400) (.of 400) (.of 400)) [(4099, 0, 0), (7, 3, 3)] = true := by kernel_rfl
end Go.Proofs.Ytcjemdcffmfloab.oneDrawn
