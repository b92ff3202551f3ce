/- Runs of the program at a seat. -/
import Derived.Test.YtcjemdcffmfloabPnumberH
namespace Go.Proofs.Ytcjemdcffmfloab.pnumberDrawn
open Go Go.Eng
set_option linter.unusedVariables false
set_option linter.unusedSectionVars false
set_option linter.unusedSimpArgs false
set_option maxRecDepth 100000 in
theorem c111_111 : chkR (anyDrew false ls48) dR (.two 16408 (.of 400) (.of 400)) [(12291, 2, 2), (8196, 3, 3), (4099, 2, 2), (4, 3, 3)] = true := by kernel_rfl
set_option maxRecDepth 100000 in
theorem c3_111 : chkR (anyDrew false ls34) dR (.two 16408 (.of 400) (.of 400)) [(12291, 2, 2), (8196, 3, 3), (4099, 0, 0), (4, 3, 3)] = true := by kernel_rfl
set_option maxRecDepth 100000 in
theorem c2_111 : chkR (anyDrew false ls20) dR (.two 16408 (.of 400) (.of 400)) [(12291, 2, 2), (8196, 3, 3), (4098, 0, 0), (4, 2, 2)] = true := by kernel_rfl
set_option maxRecDepth 100000 in
theorem c21_3 : chkR (anyDrew false ls39) dR (.two 16408 (.of 400) (.of 400)) [(12291, 0, 0), (8196, 3, 3), (4099, 1, 1), (4, 3, 3)] = true := by kernel_rfl
set_option maxRecDepth 100000 in
theorem c11_11 : chkR (anyDrew false ls24) dR (.two 16408 (.of 400) (.of 400)) [(12290, 1, 1), (8196, 2, 2), (4098, 1, 1), (4, 2, 2)] = true := by kernel_rfl
set_option maxRecDepth 100000 in
theorem c21_2 : chkR (anyDrew false ls37) dR (.two 16408 (.of 400) (.of 400)) [(12290, 0, 0), (8196, 2, 2), (4099, 1, 1), (4, 3, 3)] = true := by kernel_rfl
set_option maxRecDepth 100000 in
theorem c2_11 : chkR (anyDrew false ls17) dR (.two 16408 (.of 400) (.of 400)) [(12290, 1, 1), (8196, 2, 2), (4098, 0, 0), (4, 2, 2)] = true := by kernel_rfl
set_option maxRecDepth 100000 in
theorem c21_1 : chkR (anyDrew false ls36) dR (.two 16408 (.of 400) (.of 400)) [(8196, 1, 1), (4099, 1, 1), (4, 3, 3)] = true := by kernel_rfl
set_option maxRecDepth 100000 in
theorem c1_3 : chkR (anyDrew false ls11) dR (.two 16408 (.of 400) (.of 400)) [(12291, 0, 0), (8196, 3, 3), (4, 1, 1)] = true := by kernel_rfl
set_option maxRecDepth 100000 in
theorem c21_ : chkR (anyDrew false ls35) dR (.two 16408 (.of 400) (.of 400)) [(8196, 0, 0), (4099, 1, 1), (4, 3, 3)] = true := by kernel_rfl
set_option maxRecDepth 100000 in
theorem c2_1 : chkR (anyDrew false ls15) dR (.two 16408 (.of 400) (.of 400)) [(8196, 1, 1), (4098, 0, 0), (4, 2, 2)] = true := by kernel_rfl
set_option maxRecDepth 100000 in
theorem c1_1 : chkR (anyDrew false ls8) dR (.two 16408 (.of 400) (.of 400)) [(8196, 1, 1), (4, 1, 1)] = true := by kernel_rfl
set_option maxRecDepth 100000 in
theorem c_ : chkR (anyDrew false ls0) dR (.two 16408 (.of 400) (.of 400)) [(8196, 0, 0), (4, 0, 0)] = true := by kernel_rfl
end Go.Proofs.Ytcjemdcffmfloab.pnumberDrawn
