/- Runs of the program at a seat. -/
import Derived.Test.YtcjemdcffmfloabStripH
namespace Go.Proofs.Ytcjemdcffmfloab.stripDrawn
open Go Go.Eng
set_option linter.unusedVariables false
set_option linter.unusedSectionVars false
set_option linter.unusedSimpArgs false
set_option maxRecDepth 100000 in
theorem c5_5 : chkR (anyDrew false ls17) (fun tab => askIn false (dR tab)) (.three 8252 (.part 12292 fun _ => .of 400) (.part 12295 fun _ => .of 400) (.part 12290 fun _ => .of 400)) [(4103, 5, 5), (6, 5, 5)] = true := by kernel_rfl
set_option maxRecDepth 100000 in
theorem c4_3 : chkR (anyDrew false ls10) (fun tab => askIn false (dR tab)) (.three 8252 (.part 12292 fun _ => .of 400) (.part 12295 fun _ => .of 400) (.part 12291 fun _ => .of 400)) [(4101, 3, 3), (6, 4, 4)] = true := by kernel_rfl
set_option maxRecDepth 100000 in
theorem c3_2 : chkR (anyDrew false ls6) (fun tab => askIn false (dR tab)) (.three 8252 (.part 12292 fun _ => .of 400) (.part 12295 fun _ => .of 400) (.part 12292 fun _ => .of 400)) [(4099, 2, 2), (6, 3, 3)] = true := by kernel_rfl
set_option maxRecDepth 100000 in
theorem c4_0 : chkR (anyDrew false ls7) (fun tab => askIn false (dR tab)) (.three 8252 (.part 12292 fun _ => .of 400) (.part 12295 fun _ => .of 400) (.part 12291 fun _ => .of 400)) [(4101, 0, 0), (6, 4, 4)] = true := by kernel_rfl
set_option maxRecDepth 100000 in
theorem c1_0 : chkR (anyDrew false ls1) (fun tab => askIn false (dR tab)) (.three 8252 (.part 12292 fun _ => .of 400) (.part 12295 fun _ => .of 400) (.part 12294 fun _ => .of 400)) [(6, 1, 1)] = true := by kernel_rfl
end Go.Proofs.Ytcjemdcffmfloab.stripDrawn
