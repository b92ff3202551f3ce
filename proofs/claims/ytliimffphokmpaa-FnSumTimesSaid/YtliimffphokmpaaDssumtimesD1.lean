/- Runs of the program at a seat. -/
import Derived.Test.YtliimffphokmpaaDssumtimesH
namespace Go.Proofs.Ytliimffphokmpaa.dssumtimes
open Go Go.Eng
set_option linter.unusedVariables false
set_option linter.unusedSectionVars false
set_option linter.unusedSimpArgs false
set_option maxRecDepth 100000
theorem c1 : chkR (anyDrew false l_L0) dR (.of 400) [(20489, 1016, 8), (16464, 1, 1), (8194, 0, 0), (4101, 0, 0), (6, 0, 0)] = true := by kernel_rfl
theorem c7 : chkR (anyDrew false l_L1) dR (.of 400) [(20489, 1016, 8), (16464, 1, 1), (8194, 0, 0), (4101, 1, 1), (6, 0, 0)] = true := by kernel_rfl
theorem c13 : chkR (anyDrew false l_L2) dR (.of 400) [(20489, 1016, 8), (16464, 1, 1), (8194, 0, 0), (4101, 2, 2), (6, 0, 0)] = true := by kernel_rfl
theorem c19 : chkR (anyDrew false l_L3) dR (.of 400) [(20489, 1016, 8), (16464, 1, 1), (8194, 0, 0), (4101, 3, 3), (6, 0, 0)] = true := by kernel_rfl
theorem c25 : chkR (anyDrew false l_L4) dR (.of 400) [(20489, 1016, 8), (16464, 1, 1), (8194, 0, 0), (4101, 4, 4), (6, 0, 0)] = true := by kernel_rfl
theorem c31 : chkR (anyDrew false l_L5) dR (.of 400) [(20489, 1016, 8), (16464, 1, 1), (8194, 0, 0), (4101, 0, 0), (6, 1, 1)] = true := by kernel_rfl
theorem c37 : chkR (anyDrew false l_L6) dR (.of 400) [(20489, 1016, 8), (16464, 1, 1), (8194, 0, 0), (4101, 1, 1), (6, 1, 1)] = true := by kernel_rfl
theorem c43 : chkR (anyDrew false l_L7) dR (.of 400) [(20489, 1016, 8), (16464, 1, 1), (8194, 0, 0), (4101, 2, 2), (6, 1, 1)] = true := by kernel_rfl
theorem c49 : chkR (anyDrew false l_L8) dR (.of 400) [(20489, 1016, 8), (16464, 1, 1), (8194, 0, 0), (4101, 3, 3), (6, 1, 1)] = true := by kernel_rfl
theorem c55 : chkR (anyDrew false l_L9) dR (.of 400) [(20489, 1016, 8), (16464, 1, 1), (8194, 0, 0), (4101, 4, 4), (6, 1, 1)] = true := by kernel_rfl
theorem c61 : chkR (anyDrew false l_L10) dR (.of 400) [(24585, 1016, 8), (20560, 1, 1), (8194, 0, 0), (4101, 0, 0), (6, 2, 2)] = true := by kernel_rfl
theorem c67 : chkR (anyDrew false l_L11) dR (.of 400) [(24585, 1016, 8), (20560, 1, 1), (8194, 0, 0), (4101, 1, 1), (6, 2, 2)] = true := by kernel_rfl
theorem c73 : chkR (anyDrew false l_L12) dR (.of 400) [(24585, 1016, 8), (20560, 1, 1), (8194, 0, 0), (4101, 2, 2), (6, 2, 2)] = true := by kernel_rfl
theorem c79 : chkR (anyDrew false l_L13) dR (.of 400) [(24585, 1016, 8), (20560, 1, 1), (8194, 0, 0), (4101, 3, 3), (6, 2, 2)] = true := by kernel_rfl
theorem c85 : chkR (anyDrew false l_L14) dR (.of 400) [(24585, 1016, 8), (20560, 1, 1), (8194, 0, 0), (4101, 4, 4), (6, 2, 2)] = true := by kernel_rfl
theorem c91 : chkR (anyDrew false l_L15) dR (.of 400) [(28681, 1016, 8), (24656, 1, 1), (8194, 0, 0), (4101, 0, 0), (6, 3, 3)] = true := by kernel_rfl
theorem c97 : chkR (anyDrew false l_L16) dR (.of 400) [(28681, 1016, 8), (24656, 1, 1), (8194, 0, 0), (4101, 1, 1), (6, 3, 3)] = true := by kernel_rfl
theorem c103 : chkR (anyDrew false l_L17) dR (.of 400) [(28681, 1016, 8), (24656, 1, 1), (8194, 0, 0), (4101, 2, 2), (6, 3, 3)] = true := by kernel_rfl
theorem c109 : chkR (anyDrew false l_L18) dR (.of 400) [(28681, 1016, 8), (24656, 1, 1), (8194, 0, 0), (4101, 3, 3), (6, 3, 3)] = true := by kernel_rfl
theorem c115 : chkR (anyDrew false l_L19) dR (.of 400) [(28681, 1016, 8), (24656, 1, 1), (8194, 0, 0), (4101, 4, 4), (6, 3, 3)] = true := by kernel_rfl
theorem c121 : chkR (anyDrew false l_L20) dR (.of 400) [(36873, 1016, 8), (32848, 1, 1), (8194, 0, 0), (4101, 0, 0), (6, 4, 4)] = true := by kernel_rfl
theorem c127 : chkR (anyDrew false l_L21) dR (.of 400) [(36873, 1016, 8), (32848, 1, 1), (8194, 0, 0), (4101, 1, 1), (6, 4, 4)] = true := by kernel_rfl
theorem c133 : chkR (anyDrew false l_L22) dR (.of 400) [(36873, 1016, 8), (32848, 1, 1), (8194, 0, 0), (4101, 2, 2), (6, 4, 4)] = true := by kernel_rfl
theorem c139 : chkR (anyDrew false l_L23) dR (.of 400) [(36873, 1016, 8), (32848, 1, 1), (8194, 0, 0), (4101, 3, 3), (6, 4, 4)] = true := by kernel_rfl
theorem c145 : chkR (anyDrew false l_L24) dR (.of 400) [(36873, 1016, 8), (32848, 1, 1), (8194, 0, 0), (4101, 4, 4), (6, 4, 4)] = true := by kernel_rfl
theorem c151 : chkR (anyDrew false l_L25) dR (.of 400) [(45065, 1016, 8), (41040, 1, 1), (8194, 0, 0), (4101, 0, 0), (6, 5, 5)] = true := by kernel_rfl
theorem c157 : chkR (anyDrew false l_L26) dR (.of 400) [(45065, 1016, 8), (41040, 1, 1), (8194, 0, 0), (4101, 1, 1), (6, 5, 5)] = true := by kernel_rfl
theorem c163 : chkR (anyDrew false l_L27) dR (.of 400) [(45065, 1016, 8), (41040, 1, 1), (8194, 0, 0), (4101, 2, 2), (6, 5, 5)] = true := by kernel_rfl
theorem c169 : chkR (anyDrew false l_L28) dR (.of 400) [(45065, 1016, 8), (41040, 1, 1), (8194, 0, 0), (4101, 3, 3), (6, 5, 5)] = true := by kernel_rfl
theorem c175 : chkR (anyDrew false l_L29) dR (.of 400) [(45065, 1016, 8), (41040, 1, 1), (8194, 0, 0), (4101, 4, 4), (6, 5, 5)] = true := by kernel_rfl
end Go.Proofs.Ytliimffphokmpaa.dssumtimes
