/- Runs of the program at a seat. -/
import Derived.Test.YtliimffphokmpaaDssumtimesH
namespace Go.Proofs.Ytliimffphokmpaa.dssumtimes
open Go Go.Eng
set_option linter.unusedVariables false
set_option linter.unusedSectionVars false
set_option linter.unusedSimpArgs false
set_option maxRecDepth 100000
theorem c2 : chkR (anyDrew false l_L0) dR (.of 400) [(20489, 1016, 8), (16464, 2, 79), (8194, 0, 0), (4101, 0, 0), (6, 0, 0)] = true := by kernel_rfl
theorem c8 : chkR (anyDrew false l_L1) dR (.of 400) [(20489, 1016, 8), (16464, 2, 79), (8194, 0, 0), (4101, 1, 1), (6, 0, 0)] = true := by kernel_rfl
theorem c14 : chkR (anyDrew false l_L2) dR (.of 400) [(20489, 1016, 8), (16464, 2, 79), (8194, 0, 0), (4101, 2, 2), (6, 0, 0)] = true := by kernel_rfl
theorem c20 : chkR (anyDrew false l_L3) dR (.of 400) [(20489, 1016, 8), (16464, 2, 79), (8194, 0, 0), (4101, 3, 3), (6, 0, 0)] = true := by kernel_rfl
theorem c26 : chkR (anyDrew false l_L4) dR (.of 400) [(20489, 1016, 8), (16464, 2, 79), (8194, 0, 0), (4101, 4, 4), (6, 0, 0)] = true := by kernel_rfl
theorem c32 : chkR (anyDrew false l_L5) dR (.of 400) [(20489, 1016, 8), (16464, 2, 79), (8194, 0, 0), (4101, 0, 0), (6, 1, 1)] = true := by kernel_rfl
theorem c38 : chkR (anyDrew false l_L6) dR (.of 400) [(20489, 1016, 8), (16464, 2, 79), (8194, 0, 0), (4101, 1, 1), (6, 1, 1)] = true := by kernel_rfl
theorem c44 : chkR (anyDrew false l_L7) dR (.of 400) [(20489, 1016, 8), (16464, 2, 79), (8194, 0, 0), (4101, 2, 2), (6, 1, 1)] = true := by kernel_rfl
theorem c50 : chkR (anyDrew false l_L8) dR (.of 400) [(20489, 1016, 8), (16464, 2, 79), (8194, 0, 0), (4101, 3, 3), (6, 1, 1)] = true := by kernel_rfl
theorem c56 : chkR (anyDrew false l_L9) dR (.of 400) [(20489, 1016, 8), (16464, 2, 79), (8194, 0, 0), (4101, 4, 4), (6, 1, 1)] = true := by kernel_rfl
theorem c62 : chkR (anyDrew false l_L10) dR (.of 400) [(24585, 1016, 8), (20560, 2, 79), (8194, 0, 0), (4101, 0, 0), (6, 2, 2)] = true := by kernel_rfl
theorem c68 : chkR (anyDrew false l_L11) dR (.of 400) [(24585, 1016, 8), (20560, 2, 79), (8194, 0, 0), (4101, 1, 1), (6, 2, 2)] = true := by kernel_rfl
theorem c74 : chkR (anyDrew false l_L12) dR (.of 400) [(24585, 1016, 8), (20560, 2, 79), (8194, 0, 0), (4101, 2, 2), (6, 2, 2)] = true := by kernel_rfl
theorem c80 : chkR (anyDrew false l_L13) dR (.of 400) [(24585, 1016, 8), (20560, 2, 79), (8194, 0, 0), (4101, 3, 3), (6, 2, 2)] = true := by kernel_rfl
theorem c86 : chkR (anyDrew false l_L14) dR (.of 400) [(24585, 1016, 8), (20560, 2, 79), (8194, 0, 0), (4101, 4, 4), (6, 2, 2)] = true := by kernel_rfl
theorem c92 : chkR (anyDrew false l_L15) dR (.of 400) [(28681, 1016, 8), (24656, 2, 79), (8194, 0, 0), (4101, 0, 0), (6, 3, 3)] = true := by kernel_rfl
theorem c98 : chkR (anyDrew false l_L16) dR (.of 400) [(28681, 1016, 8), (24656, 2, 79), (8194, 0, 0), (4101, 1, 1), (6, 3, 3)] = true := by kernel_rfl
theorem c104 : chkR (anyDrew false l_L17) dR (.of 400) [(28681, 1016, 8), (24656, 2, 79), (8194, 0, 0), (4101, 2, 2), (6, 3, 3)] = true := by kernel_rfl
theorem c110 : chkR (anyDrew false l_L18) dR (.of 400) [(28681, 1016, 8), (24656, 2, 79), (8194, 0, 0), (4101, 3, 3), (6, 3, 3)] = true := by kernel_rfl
theorem c116 : chkR (anyDrew false l_L19) dR (.of 400) [(28681, 1016, 8), (24656, 2, 79), (8194, 0, 0), (4101, 4, 4), (6, 3, 3)] = true := by kernel_rfl
theorem c122 : chkR (anyDrew false l_L20) dR (.of 400) [(36873, 1016, 8), (32848, 2, 79), (8194, 0, 0), (4101, 0, 0), (6, 4, 4)] = true := by kernel_rfl
theorem c128 : chkR (anyDrew false l_L21) dR (.of 400) [(36873, 1016, 8), (32848, 2, 79), (8194, 0, 0), (4101, 1, 1), (6, 4, 4)] = true := by kernel_rfl
theorem c134 : chkR (anyDrew false l_L22) dR (.of 400) [(36873, 1016, 8), (32848, 2, 79), (8194, 0, 0), (4101, 2, 2), (6, 4, 4)] = true := by kernel_rfl
theorem c140 : chkR (anyDrew false l_L23) dR (.of 400) [(36873, 1016, 8), (32848, 2, 79), (8194, 0, 0), (4101, 3, 3), (6, 4, 4)] = true := by kernel_rfl
theorem c146 : chkR (anyDrew false l_L24) dR (.of 400) [(36873, 1016, 8), (32848, 2, 79), (8194, 0, 0), (4101, 4, 4), (6, 4, 4)] = true := by kernel_rfl
theorem c152 : chkR (anyDrew false l_L25) dR (.of 400) [(45065, 1016, 8), (41040, 2, 79), (8194, 0, 0), (4101, 0, 0), (6, 5, 5)] = true := by kernel_rfl
theorem c158 : chkR (anyDrew false l_L26) dR (.of 400) [(45065, 1016, 8), (41040, 2, 79), (8194, 0, 0), (4101, 1, 1), (6, 5, 5)] = true := by kernel_rfl
theorem c164 : chkR (anyDrew false l_L27) dR (.of 400) [(45065, 1016, 8), (41040, 2, 79), (8194, 0, 0), (4101, 2, 2), (6, 5, 5)] = true := by kernel_rfl
theorem c170 : chkR (anyDrew false l_L28) dR (.of 400) [(45065, 1016, 8), (41040, 2, 79), (8194, 0, 0), (4101, 3, 3), (6, 5, 5)] = true := by kernel_rfl
theorem c176 : chkR (anyDrew false l_L29) dR (.of 400) [(45065, 1016, 8), (41040, 2, 79), (8194, 0, 0), (4101, 4, 4), (6, 5, 5)] = true := by kernel_rfl
end Go.Proofs.Ytliimffphokmpaa.dssumtimes
