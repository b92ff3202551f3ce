/- Runs of the program at a seat. -/
import Derived.Test.YtcjemdcffmfloabPnumberH
namespace Go.Proofs.Ytcjemdcffmfloab.pnumberDrawn
open Go Go.Eng
set_option linter.unusedVariables false
set_option linter.unusedSectionVars false
set_option linter.unusedSimpArgs false
set_option maxRecDepth 100000 in
theorem c111_21 : chkR (anyDrew false ls47) dR (.two 16408 (.of 400) (.of 400)) [(12291, 1, 1), (8196, 3, 3), (4099, 2, 2), (4, 3, 3)] = true := by kernel_rfl
set_option maxRecDepth 100000 in
theorem c111_11 : chkR (anyDrew false ls45) dR (.two 16408 (.of 400) (.of 400)) [(12290, 1, 1), (8196, 2, 2), (4099, 2, 2), (4, 3, 3)] = true := by kernel_rfl
set_option maxRecDepth 100000 in
theorem c3_21 : chkR (anyDrew false ls33) dR (.two 16408 (.of 400) (.of 400)) [(12291, 1, 1), (8196, 3, 3), (4099, 0, 0), (4, 3, 3)] = true := by kernel_rfl
set_option maxRecDepth 100000 in
theorem c1_111 : chkR (anyDrew false ls13) dR (.two 16408 (.of 400) (.of 400)) [(12291, 2, 2), (8196, 3, 3), (4, 1, 1)] = true := by kernel_rfl
set_option maxRecDepth 100000 in
theorem c3_11 : chkR (anyDrew false ls31) dR (.two 16408 (.of 400) (.of 400)) [(12290, 1, 1), (8196, 2, 2), (4099, 0, 0), (4, 3, 3)] = true := by kernel_rfl
set_option maxRecDepth 100000 in
theorem c_111 : chkR (anyDrew false ls6) dR (.two 16408 (.of 400) (.of 400)) [(12291, 2, 2), (8196, 3, 3), (4, 0, 0)] = true := by kernel_rfl
set_option maxRecDepth 100000 in
theorem c11_2 : chkR (anyDrew false ls23) dR (.two 16408 (.of 400) (.of 400)) [(12290, 0, 0), (8196, 2, 2), (4098, 1, 1), (4, 2, 2)] = true := by kernel_rfl
set_option maxRecDepth 100000 in
theorem c_21 : chkR (anyDrew false ls5) dR (.two 16408 (.of 400) (.of 400)) [(12291, 1, 1), (8196, 3, 3), (4, 0, 0)] = true := by kernel_rfl
set_option maxRecDepth 100000 in
theorem c11_1 : chkR (anyDrew false ls22) dR (.two 16408 (.of 400) (.of 400)) [(8196, 1, 1), (4098, 1, 1), (4, 2, 2)] = true := by kernel_rfl
set_option maxRecDepth 100000 in
theorem c_3 : chkR (anyDrew false ls4) dR (.two 16408 (.of 400) (.of 400)) [(12291, 0, 0), (8196, 3, 3), (4, 0, 0)] = true := by kernel_rfl
set_option maxRecDepth 100000 in
theorem c3_ : chkR (anyDrew false ls28) dR (.two 16408 (.of 400) (.of 400)) [(8196, 0, 0), (4099, 0, 0), (4, 3, 3)] = true := by kernel_rfl
set_option maxRecDepth 100000 in
theorem c_1 : chkR (anyDrew false ls1) dR (.two 16408 (.of 400) (.of 400)) [(8196, 1, 1), (4, 0, 0)] = true := by kernel_rfl
end Go.Proofs.Ytcjemdcffmfloab.pnumberDrawn
