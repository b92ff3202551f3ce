/- Runs of the program at a seat. -/
import Derived.Test.YtcjemdcffmfloabOneH
namespace Go.Proofs.Ytcjemdcffmfloab.oneDrawn
open Go Go.Eng
set_option linter.unusedVariables false
set_option linter.unusedSectionVars false
set_option linter.unusedSimpArgs false
set_option maxRecDepth 100000 in
theorem c6_9 : chkR (anyDrew true ls28) dR (.three 8252 (.of 400) (.of 400) (.of 400)) [(4107, 9, 9), (7, 6, 6)] = true := by kernel_rfl
set_option maxRecDepth 100000 in
theorem c5_6 : chkR (anyDrew true ls18) dR (.three 8252 (.of 400) (.of 400) (.of 400)) [(4103, 6, 6), (7, 5, 5)] = true := by kernel_rfl
set_option maxRecDepth 100000 in
theorem c5_4 : chkR (anyDrew true ls16) dR (.three 8252 (.of 400) (.of 400) (.of 400)) [(4103, 4, 4), (7, 5, 5)] = true := by kernel_rfl
set_option maxRecDepth 100000 in
theorem c6_2 : chkR (anyDrew true ls21) dR (.three 8252 (.of 400) (.of 400) (.of 400)) [(4107, 2, 2), (7, 6, 6)] = true := by kernel_rfl
set_option maxRecDepth 100000 in
theorem c4_2 : chkR (anyDrew true ls9) dR (.three 8252 (.of 400) (.of 400) (.of 400)) [(4101, 2, 2), (7, 4, 4)] = true := by kernel_rfl
set_option maxRecDepth 100000 in
theorem c4_1 : chkR (anyDrew true ls8) dR (.three 8252 (.of 400) (.of 400) (.of 400)) [(4101, 1, 1), (7, 4, 4)] = true := by kernel_rfl
set_option maxRecDepth 100000 in
theorem c2_1 : chkR (anyDrew true ls3) dR (.three 8252 (.of 400) (.of 400) (.of 400)) [(4098, 1, 1), (7, 2, 2)] = true := by kernel_rfl
set_option maxRecDepth 100000 in
theorem c0_0 : chkR (anyDrew true ls0) dR (.three 8252 (.of 400) (.of 400) (.of 400)) [(7, 0, 0)] = true := by kernel_rfl
end Go.Proofs.Ytcjemdcffmfloab.oneDrawn
