/- Runs of the program at a seat. -/
import Derived.Test.YtcjemdcffmfloabOneH
namespace Go.Proofs.Ytcjemdcffmfloab.oneDrawn
open Go Go.Eng
set_option linter.unusedVariables false
set_option linter.unusedSectionVars false
set_option linter.unusedSimpArgs false
set_option maxRecDepth 100000 in
theorem c6_10 : chkR (anyDrew true ls29) dR (.three 8252 (.of 400) (.of 400) (.of 400)) [(4107, 10, 10), (7, 6, 6)] = true := by kernel_rfl
set_option maxRecDepth 100000 in
theorem c6_6 : chkR (anyDrew true ls25) dR (.three 8252 (.of 400) (.of 400) (.of 400)) [(4107, 6, 6), (7, 6, 6)] = true := by kernel_rfl
set_option maxRecDepth 100000 in
theorem c6_4 : chkR (anyDrew true ls23) dR (.three 8252 (.of 400) (.of 400) (.of 400)) [(4107, 4, 4), (7, 6, 6)] = true := by kernel_rfl
set_option maxRecDepth 100000 in
theorem c5_3 : chkR (anyDrew true ls15) dR (.three 8252 (.of 400) (.of 400) (.of 400)) [(4103, 3, 3), (7, 5, 5)] = true := by kernel_rfl
set_option maxRecDepth 100000 in
theorem c6_1 : chkR (anyDrew true ls20) dR (.three 8252 (.of 400) (.of 400) (.of 400)) [(4107, 1, 1), (7, 6, 6)] = true := by kernel_rfl
set_option maxRecDepth 100000 in
theorem c3_2 : chkR (anyDrew true ls6) dR (.three 8252 (.of 400) (.of 400) (.of 400)) [(4099, 2, 2), (7, 3, 3)] = true := by kernel_rfl
set_option maxRecDepth 100000 in
theorem c4_0 : chkR (anyDrew true ls7) dR (.three 8252 (.of 400) (.of 400) (.of 400)) [(4101, 0, 0), (7, 4, 4)] = true := by kernel_rfl
set_option maxRecDepth 100000 in
theorem c1_0 : chkR (anyDrew true ls1) dR (.three 8252 (.of 400) (.of 400) (.of 400)) [(7, 1, 1)] = true := by kernel_rfl
end Go.Proofs.Ytcjemdcffmfloab.oneDrawn
