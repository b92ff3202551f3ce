/- Runs of the program at a seat. -/
import Derived.Test.YtcjemdcffmfloabPnumberH
namespace Go.Proofs.Ytcjemdcffmfloab.pnumberDrawn
open Go Go.Eng
set_option linter.unusedVariables false
set_option linter.unusedSectionVars false
set_option linter.unusedSimpArgs false
set_option maxRecDepth 100000 in
theorem c21_111 : chkR (anyDrew false ls41) dR (.two 16408 (.of 400) (.of 400)) [(12291, 2, 2), (8196, 3, 3), (4099, 1, 1), (4, 3, 3)] = true := by kernel_rfl
set_option maxRecDepth 100000 in
theorem c21_21 : chkR (anyDrew false ls40) dR (.two 16408 (.of 400) (.of 400)) [(12291, 1, 1), (8196, 3, 3), (4099, 1, 1), (4, 3, 3)] = true := by kernel_rfl
set_option maxRecDepth 100000 in
theorem c11_21 : chkR (anyDrew false ls26) dR (.two 16408 (.of 400) (.of 400)) [(12291, 1, 1), (8196, 3, 3), (4098, 1, 1), (4, 2, 2)] = true := by kernel_rfl
set_option maxRecDepth 100000 in
theorem c111_2 : chkR (anyDrew false ls44) dR (.two 16408 (.of 400) (.of 400)) [(12290, 0, 0), (8196, 2, 2), (4099, 2, 2), (4, 3, 3)] = true := by kernel_rfl
set_option maxRecDepth 100000 in
theorem c11_3 : chkR (anyDrew false ls25) dR (.two 16408 (.of 400) (.of 400)) [(12291, 0, 0), (8196, 3, 3), (4098, 1, 1), (4, 2, 2)] = true := by kernel_rfl
set_option maxRecDepth 100000 in
theorem c111_1 : chkR (anyDrew false ls43) dR (.two 16408 (.of 400) (.of 400)) [(8196, 1, 1), (4099, 2, 2), (4, 3, 3)] = true := by kernel_rfl
set_option maxRecDepth 100000 in
theorem c2_3 : chkR (anyDrew false ls18) dR (.two 16408 (.of 400) (.of 400)) [(12291, 0, 0), (8196, 3, 3), (4098, 0, 0), (4, 2, 2)] = true := by kernel_rfl
set_option maxRecDepth 100000 in
theorem c111_ : chkR (anyDrew false ls42) dR (.two 16408 (.of 400) (.of 400)) [(8196, 0, 0), (4099, 2, 2), (4, 3, 3)] = true := by kernel_rfl
set_option maxRecDepth 100000 in
theorem c2_2 : chkR (anyDrew false ls16) dR (.two 16408 (.of 400) (.of 400)) [(12290, 0, 0), (8196, 2, 2), (4098, 0, 0), (4, 2, 2)] = true := by kernel_rfl
set_option maxRecDepth 100000 in
theorem c_11 : chkR (anyDrew false ls3) dR (.two 16408 (.of 400) (.of 400)) [(12290, 1, 1), (8196, 2, 2), (4, 0, 0)] = true := by kernel_rfl
set_option maxRecDepth 100000 in
theorem c11_ : chkR (anyDrew false ls21) dR (.two 16408 (.of 400) (.of 400)) [(8196, 0, 0), (4098, 1, 1), (4, 2, 2)] = true := by kernel_rfl
set_option maxRecDepth 100000 in
theorem c2_ : chkR (anyDrew false ls14) dR (.two 16408 (.of 400) (.of 400)) [(8196, 0, 0), (4098, 0, 0), (4, 2, 2)] = true := by kernel_rfl
end Go.Proofs.Ytcjemdcffmfloab.pnumberDrawn
