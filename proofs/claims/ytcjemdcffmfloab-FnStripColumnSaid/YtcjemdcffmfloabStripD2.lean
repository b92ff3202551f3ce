/- Runs of the program at a seat. -/
import Derived.Test.YtcjemdcffmfloabStripH
namespace Go.Proofs.Ytcjemdcffmfloab.stripDrawn
open Go Go.Eng
set_option linter.unusedVariables false
set_option linter.unusedSectionVars false
set_option linter.unusedSimpArgs false
set_option maxRecDepth 100000 in
theorem c5_4 : chkR (anyDrew false ls16) (fun tab => askIn false (dR tab)) (.three 8252 (.part 12292 fun _ => .of 400) (.part 12295 fun _ => .of 400) (.part 12290 fun _ => .of 400)) [(4103, 4, 4), (6, 5, 5)] = true := by kernel_rfl
set_option maxRecDepth 100000 in
theorem c5_2 : chkR (anyDrew false ls14) (fun tab => askIn false (dR tab)) (.three 8252 (.part 12292 fun _ => .of 400) (.part 12295 fun _ => .of 400) (.part 12290 fun _ => .of 400)) [(4103, 2, 2), (6, 5, 5)] = true := by kernel_rfl
set_option maxRecDepth 100000 in
theorem c4_1 : chkR (anyDrew false ls8) (fun tab => askIn false (dR tab)) (.three 8252 (.part 12292 fun _ => .of 400) (.part 12295 fun _ => .of 400) (.part 12291 fun _ => .of 400)) [(4101, 1, 1), (6, 4, 4)] = true := by kernel_rfl
set_option maxRecDepth 100000 in
theorem c2_1 : chkR (anyDrew false ls3) (fun tab => askIn false (dR tab)) (.three 8252 (.part 12292 fun _ => .of 400) (.part 12295 fun _ => .of 400) (.part 12293 fun _ => .of 400)) [(4098, 1, 1), (6, 2, 2)] = true := by kernel_rfl
set_option maxRecDepth 100000 in
theorem c0_0 : chkR (anyDrew false ls0) (fun tab => askIn false (dR tab)) (.three 8252 (.part 12292 fun _ => .of 400) (.part 12295 fun _ => .of 400) (.part 12295 fun _ => .of 400)) [(6, 0, 0)] = true := by kernel_rfl
end Go.Proofs.Ytcjemdcffmfloab.stripDrawn
