/- Runs of the program at a seat. -/
import Derived.Test.YteapghgoiodoiabAtH
namespace Go.Proofs.Yteapghgoiodoiab.atDrawn
open Go Go.Eng
set_option linter.unusedVariables false
set_option linter.unusedSectionVars false
set_option linter.unusedSimpArgs false
set_option maxRecDepth 100000 in
theorem c6_8 : chkR (anyDrew false ls27) dR (.three 8252 (pointQ 3 4) (pointQ 3 4) (pointQ 3 4)) [(4107, 8, 8), (7, 6, 6)] = true := by kernel_rfl
set_option maxRecDepth 100000 in
theorem c6_5 : chkR (anyDrew false ls24) dR (.three 8252 (pointQ 3 4) (pointQ 3 4) (pointQ 3 4)) [(4107, 5, 5), (7, 6, 6)] = true := by kernel_rfl
set_option maxRecDepth 100000 in
theorem c6_3 : chkR (anyDrew false ls22) dR (.three 8252 (pointQ 3 4) (pointQ 3 4) (pointQ 3 4)) [(4107, 3, 3), (7, 6, 6)] = true := by kernel_rfl
set_option maxRecDepth 100000 in
theorem c4_3 : chkR (anyDrew false ls10) dR (.three 8252 (pointQ 3 4) (pointQ 3 4) (pointQ 3 4)) [(4101, 3, 3), (7, 4, 4)] = true := by kernel_rfl
set_option maxRecDepth 100000 in
theorem c5_1 : chkR (anyDrew false ls13) dR (.three 8252 (pointQ 3 4) (pointQ 3 4) (pointQ 3 4)) [(4103, 1, 1), (7, 5, 5)] = true := by kernel_rfl
set_option maxRecDepth 100000 in
theorem c5_0 : chkR (anyDrew false ls12) dR (.three 8252 (pointQ 3 4) (pointQ 3 4) (pointQ 3 4)) [(4103, 0, 0), (7, 5, 5)] = true := by kernel_rfl
set_option maxRecDepth 100000 in
theorem c3_0 : chkR (anyDrew false ls4) dR (.three 8252 (pointQ 3 4) (pointQ 3 4) (pointQ 3 4)) [(4099, 0, 0), (7, 3, 3)] = true := by kernel_rfl
end Go.Proofs.Yteapghgoiodoiab.atDrawn
