/- Runs of the program at a seat. -/
import Derived.Test.YtliimffphokmpaaDssumtimesH
namespace Go.Proofs.Ytliimffphokmpaa.dssumtimes
open Go Go.Eng
set_option linter.unusedVariables false
set_option linter.unusedSectionVars false
set_option linter.unusedSimpArgs false
set_option maxRecDepth 100000
theorem c4 : chkR (anyDrew false l_L0) dR (.of 400) [(24585, 1016, 8), (20560, 1, 1), (8194, 1, 1), (4101, 0, 0), (6, 0, 0)] = true := by kernel_rfl
theorem c10 : chkR (anyDrew false l_L1) dR (.of 400) [(24585, 1016, 8), (20560, 1, 1), (8194, 1, 1), (4101, 1, 1), (6, 0, 0)] = true := by kernel_rfl
theorem c16 : chkR (anyDrew false l_L2) dR (.of 400) [(24585, 1016, 8), (20560, 1, 1), (8194, 1, 1), (4101, 2, 2), (6, 0, 0)] = true := by kernel_rfl
theorem c22 : chkR (anyDrew false l_L3) dR (.of 400) [(24585, 1016, 8), (20560, 1, 1), (8194, 1, 1), (4101, 3, 3), (6, 0, 0)] = true := by kernel_rfl
theorem c28 : chkR (anyDrew false l_L4) dR (.of 400) [(24585, 1016, 8), (20560, 1, 1), (8194, 1, 1), (4101, 4, 4), (6, 0, 0)] = true := by kernel_rfl
theorem c34 : chkR (anyDrew false l_L5) dR (.of 400) [(24585, 1016, 8), (20560, 1, 1), (8194, 1, 1), (4101, 0, 0), (6, 1, 1)] = true := by kernel_rfl
theorem c40 : chkR (anyDrew false l_L6) dR (.of 400) [(24585, 1016, 8), (20560, 1, 1), (8194, 1, 1), (4101, 1, 1), (6, 1, 1)] = true := by kernel_rfl
theorem c46 : chkR (anyDrew false l_L7) dR (.of 400) [(24585, 1016, 8), (20560, 1, 1), (8194, 1, 1), (4101, 2, 2), (6, 1, 1)] = true := by kernel_rfl
theorem c52 : chkR (anyDrew false l_L8) dR (.of 400) [(24585, 1016, 8), (20560, 1, 1), (8194, 1, 1), (4101, 3, 3), (6, 1, 1)] = true := by kernel_rfl
theorem c58 : chkR (anyDrew false l_L9) dR (.of 400) [(24585, 1016, 8), (20560, 1, 1), (8194, 1, 1), (4101, 4, 4), (6, 1, 1)] = true := by kernel_rfl
theorem c64 : chkR (anyDrew false l_L10) dR (.of 400) [(32777, 1016, 8), (28752, 1, 1), (8194, 1, 1), (4101, 0, 0), (6, 2, 2)] = true := by kernel_rfl
theorem c70 : chkR (anyDrew false l_L11) dR (.of 400) [(32777, 1016, 8), (28752, 1, 1), (8194, 1, 1), (4101, 1, 1), (6, 2, 2)] = true := by kernel_rfl
theorem c76 : chkR (anyDrew false l_L12) dR (.of 400) [(32777, 1016, 8), (28752, 1, 1), (8194, 1, 1), (4101, 2, 2), (6, 2, 2)] = true := by kernel_rfl
theorem c82 : chkR (anyDrew false l_L13) dR (.of 400) [(32777, 1016, 8), (28752, 1, 1), (8194, 1, 1), (4101, 3, 3), (6, 2, 2)] = true := by kernel_rfl
theorem c88 : chkR (anyDrew false l_L14) dR (.of 400) [(32777, 1016, 8), (28752, 1, 1), (8194, 1, 1), (4101, 4, 4), (6, 2, 2)] = true := by kernel_rfl
theorem c94 : chkR (anyDrew false l_L15) dR (.of 400) [(40969, 1016, 8), (36944, 1, 1), (8194, 1, 1), (4101, 0, 0), (6, 3, 3)] = true := by kernel_rfl
theorem c100 : chkR (anyDrew false l_L16) dR (.of 400) [(40969, 1016, 8), (36944, 1, 1), (8194, 1, 1), (4101, 1, 1), (6, 3, 3)] = true := by kernel_rfl
theorem c106 : chkR (anyDrew false l_L17) dR (.of 400) [(40969, 1016, 8), (36944, 1, 1), (8194, 1, 1), (4101, 2, 2), (6, 3, 3)] = true := by kernel_rfl
theorem c112 : chkR (anyDrew false l_L18) dR (.of 400) [(40969, 1016, 8), (36944, 1, 1), (8194, 1, 1), (4101, 3, 3), (6, 3, 3)] = true := by kernel_rfl
theorem c118 : chkR (anyDrew false l_L19) dR (.of 400) [(40969, 1016, 8), (36944, 1, 1), (8194, 1, 1), (4101, 4, 4), (6, 3, 3)] = true := by kernel_rfl
theorem c124 : chkR (anyDrew false l_L20) dR (.of 400) [(57353, 1016, 8), (53328, 1, 1), (8194, 1, 1), (4101, 0, 0), (6, 4, 4)] = true := by kernel_rfl
theorem c130 : chkR (anyDrew false l_L21) dR (.of 400) [(57353, 1016, 8), (53328, 1, 1), (8194, 1, 1), (4101, 1, 1), (6, 4, 4)] = true := by kernel_rfl
theorem c136 : chkR (anyDrew false l_L22) dR (.of 400) [(57353, 1016, 8), (53328, 1, 1), (8194, 1, 1), (4101, 2, 2), (6, 4, 4)] = true := by kernel_rfl
theorem c142 : chkR (anyDrew false l_L23) dR (.of 400) [(57353, 1016, 8), (53328, 1, 1), (8194, 1, 1), (4101, 3, 3), (6, 4, 4)] = true := by kernel_rfl
theorem c148 : chkR (anyDrew false l_L24) dR (.of 400) [(57353, 1016, 8), (53328, 1, 1), (8194, 1, 1), (4101, 4, 4), (6, 4, 4)] = true := by kernel_rfl
theorem c154 : chkR (anyDrew false l_L25) dR (.of 400) [(73737, 1016, 8), (69712, 1, 1), (8194, 1, 1), (4101, 0, 0), (6, 5, 5)] = true := by kernel_rfl
theorem c160 : chkR (anyDrew false l_L26) dR (.of 400) [(73737, 1016, 8), (69712, 1, 1), (8194, 1, 1), (4101, 1, 1), (6, 5, 5)] = true := by kernel_rfl
theorem c166 : chkR (anyDrew false l_L27) dR (.of 400) [(73737, 1016, 8), (69712, 1, 1), (8194, 1, 1), (4101, 2, 2), (6, 5, 5)] = true := by kernel_rfl
theorem c172 : chkR (anyDrew false l_L28) dR (.of 400) [(73737, 1016, 8), (69712, 1, 1), (8194, 1, 1), (4101, 3, 3), (6, 5, 5)] = true := by kernel_rfl
theorem c178 : chkR (anyDrew false l_L29) dR (.of 400) [(73737, 1016, 8), (69712, 1, 1), (8194, 1, 1), (4101, 4, 4), (6, 5, 5)] = true := by kernel_rfl
end Go.Proofs.Ytliimffphokmpaa.dssumtimes
