/- Runs of the program at a seat. -/
import Derived.Test.YtcjemdcffmfloabPnumberH
namespace Go.Proofs.Ytcjemdcffmfloab.pnumberDrawn
open Go Go.Eng
set_option linter.unusedVariables false
set_option linter.unusedSectionVars false
set_option linter.unusedSimpArgs false
set_option maxRecDepth 100000 in
theorem c11_111 : chkR (anyDrew false ls27) dR (.two 16408 (.of 400) (.of 400)) [(12291, 2, 2), (8196, 3, 3), (4098, 1, 1), (4, 2, 2)] = true := by kernel_rfl
set_option maxRecDepth 100000 in
theorem c111_3 : chkR (anyDrew false ls46) dR (.two 16408 (.of 400) (.of 400)) [(12291, 0, 0), (8196, 3, 3), (4099, 2, 2), (4, 3, 3)] = true := by kernel_rfl
set_option maxRecDepth 100000 in
theorem c21_11 : chkR (anyDrew false ls38) dR (.two 16408 (.of 400) (.of 400)) [(12290, 1, 1), (8196, 2, 2), (4099, 1, 1), (4, 3, 3)] = true := by kernel_rfl
set_option maxRecDepth 100000 in
theorem c2_21 : chkR (anyDrew false ls19) dR (.two 16408 (.of 400) (.of 400)) [(12291, 1, 1), (8196, 3, 3), (4098, 0, 0), (4, 2, 2)] = true := by kernel_rfl
set_option maxRecDepth 100000 in
theorem c3_3 : chkR (anyDrew false ls32) dR (.two 16408 (.of 400) (.of 400)) [(12291, 0, 0), (8196, 3, 3), (4099, 0, 0), (4, 3, 3)] = true := by kernel_rfl
set_option maxRecDepth 100000 in
theorem c1_21 : chkR (anyDrew false ls12) dR (.two 16408 (.of 400) (.of 400)) [(12291, 1, 1), (8196, 3, 3), (4, 1, 1)] = true := by kernel_rfl
set_option maxRecDepth 100000 in
theorem c3_2 : chkR (anyDrew false ls30) dR (.two 16408 (.of 400) (.of 400)) [(12290, 0, 0), (8196, 2, 2), (4099, 0, 0), (4, 3, 3)] = true := by kernel_rfl
set_option maxRecDepth 100000 in
theorem c1_11 : chkR (anyDrew false ls10) dR (.two 16408 (.of 400) (.of 400)) [(12290, 1, 1), (8196, 2, 2), (4, 1, 1)] = true := by kernel_rfl
set_option maxRecDepth 100000 in
theorem c3_1 : chkR (anyDrew false ls29) dR (.two 16408 (.of 400) (.of 400)) [(8196, 1, 1), (4099, 0, 0), (4, 3, 3)] = true := by kernel_rfl
set_option maxRecDepth 100000 in
theorem c1_2 : chkR (anyDrew false ls9) dR (.two 16408 (.of 400) (.of 400)) [(12290, 0, 0), (8196, 2, 2), (4, 1, 1)] = true := by kernel_rfl
set_option maxRecDepth 100000 in
theorem c_2 : chkR (anyDrew false ls2) dR (.two 16408 (.of 400) (.of 400)) [(12290, 0, 0), (8196, 2, 2), (4, 0, 0)] = true := by kernel_rfl
set_option maxRecDepth 100000 in
theorem c1_ : chkR (anyDrew false ls7) dR (.two 16408 (.of 400) (.of 400)) [(8196, 0, 0), (4, 1, 1)] = true := by kernel_rfl
end Go.Proofs.Ytcjemdcffmfloab.pnumberDrawn
