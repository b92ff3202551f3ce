/- Runs of the program at a seat. -/
import Derived.Test.YtcjemdcffmfloabStripH
namespace Go.Proofs.Ytcjemdcffmfloab.stripDrawn
open Go Go.Eng
set_option linter.unusedVariables false
set_option linter.unusedSectionVars false
set_option linter.unusedSimpArgs false
set_option maxRecDepth 100000 in
theorem c5_6 : chkR (anyDrew false ls18) (fun tab => askIn false (dR tab)) (.three 8252 (.part 12292 fun _ => .of 400) (.part 12295 fun _ => .of 400) (.part 12290 fun _ => .of 400)) [(4103, 6, 6), (6, 5, 5)] = true := by kernel_rfl
set_option maxRecDepth 100000 in
theorem c5_3 : chkR (anyDrew false ls15) (fun tab => askIn false (dR tab)) (.three 8252 (.part 12292 fun _ => .of 400) (.part 12295 fun _ => .of 400) (.part 12290 fun _ => .of 400)) [(4103, 3, 3), (6, 5, 5)] = true := by kernel_rfl
set_option maxRecDepth 100000 in
theorem c5_1 : chkR (anyDrew false ls13) (fun tab => askIn false (dR tab)) (.three 8252 (.part 12292 fun _ => .of 400) (.part 12295 fun _ => .of 400) (.part 12290 fun _ => .of 400)) [(4103, 1, 1), (6, 5, 5)] = true := by kernel_rfl
set_option maxRecDepth 100000 in
theorem c3_1 : chkR (anyDrew false ls5) (fun tab => askIn false (dR tab)) (.three 8252 (.part 12292 fun _ => .of 400) (.part 12295 fun _ => .of 400) (.part 12292 fun _ => .of 400)) [(4099, 1, 1), (6, 3, 3)] = true := by kernel_rfl
set_option maxRecDepth 100000 in
theorem c2_0 : chkR (anyDrew false ls2) (fun tab => askIn false (dR tab)) (.three 8252 (.part 12292 fun _ => .of 400) (.part 12295 fun _ => .of 400) (.part 12293 fun _ => .of 400)) [(4098, 0, 0), (6, 2, 2)] = true := by kernel_rfl
end Go.Proofs.Ytcjemdcffmfloab.stripDrawn
