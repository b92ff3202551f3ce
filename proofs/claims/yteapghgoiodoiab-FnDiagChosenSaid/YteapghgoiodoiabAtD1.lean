/- Runs of the program at a seat. -/
import Derived.Test.YteapghgoiodoiabAtH
namespace Go.Proofs.Yteapghgoiodoiab.atDrawn
open Go Go.Eng
set_option linter.unusedVariables false
set_option linter.unusedSectionVars false
set_option linter.unusedSimpArgs false
set_option maxRecDepth 100000 in
theorem c6_9 : chkR (anyDrew false ls28) dR (.three 8252 (pointQ 3 4) (pointQ 3 4) (pointQ 3 4)) [(4107, 9, 9), (7, 6, 6)] = true := by kernel_rfl
set_option maxRecDepth 100000 in
theorem c5_6 : chkR (anyDrew false ls18) dR (.three 8252 (pointQ 3 4) (pointQ 3 4) (pointQ 3 4)) [(4103, 6, 6), (7, 5, 5)] = true := by kernel_rfl
set_option maxRecDepth 100000 in
theorem c5_4 : chkR (anyDrew false ls16) dR (.three 8252 (pointQ 3 4) (pointQ 3 4) (pointQ 3 4)) [(4103, 4, 4), (7, 5, 5)] = true := by kernel_rfl
set_option maxRecDepth 100000 in
theorem c6_2 : chkR (anyDrew false ls21) dR (.three 8252 (pointQ 3 4) (pointQ 3 4) (pointQ 3 4)) [(4107, 2, 2), (7, 6, 6)] = true := by kernel_rfl
set_option maxRecDepth 100000 in
theorem c4_2 : chkR (anyDrew false ls9) dR (.three 8252 (pointQ 3 4) (pointQ 3 4) (pointQ 3 4)) [(4101, 2, 2), (7, 4, 4)] = true := by kernel_rfl
set_option maxRecDepth 100000 in
theorem c4_1 : chkR (anyDrew false ls8) dR (.three 8252 (pointQ 3 4) (pointQ 3 4) (pointQ 3 4)) [(4101, 1, 1), (7, 4, 4)] = true := by kernel_rfl
set_option maxRecDepth 100000 in
theorem c2_1 : chkR (anyDrew false ls3) dR (.three 8252 (pointQ 3 4) (pointQ 3 4) (pointQ 3 4)) [(4098, 1, 1), (7, 2, 2)] = true := by kernel_rfl
set_option maxRecDepth 100000 in
theorem c0_0 : chkR (anyDrew false ls0) dR (.three 8252 (pointQ 3 4) (pointQ 3 4) (pointQ 3 4)) [(7, 0, 0)] = true := by kernel_rfl
end Go.Proofs.Yteapghgoiodoiab.atDrawn
