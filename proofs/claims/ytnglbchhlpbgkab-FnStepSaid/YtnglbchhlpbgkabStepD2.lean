/- Runs of the program at a seat. -/
import Derived.Test.YtnglbchhlpbgkabStepH
namespace Go.Proofs.Ytnglbchhlpbgkab.stepDrawn
open Go Go.Eng
set_option linter.unusedVariables false
set_option linter.unusedSectionVars false
set_option linter.unusedSimpArgs false
set_option maxRecDepth 100000 in
theorem c6_8 : chkR (anyDrew false ls27) (fun tab => askIn false (dR tab)) (.three 8252 (.part 12290 fun _ => .of 4000) (.part 12290 fun _ => .of 4000) (.part 12292 fun _ => .of 4000)) [(4107, 8, 8), (7, 6, 6)] = true := by kernel_rfl
set_option maxRecDepth 100000 in
theorem c5_6 : chkR (anyDrew false ls18) (fun tab => askIn false (dR tab)) (.three 8252 (.part 12290 fun _ => .of 4000) (.part 12290 fun _ => .of 4000) (.part 12293 fun _ => .of 4000)) [(4103, 6, 6), (7, 5, 5)] = true := by kernel_rfl
set_option maxRecDepth 100000 in
theorem c6_4 : chkR (anyDrew false ls23) (fun tab => askIn false (dR tab)) (.three 8252 (.part 12290 fun _ => .of 4000) (.part 12290 fun _ => .of 4000) (.part 12290 fun _ => .of 4000)) [(4107, 4, 4), (7, 6, 6)] = true := by kernel_rfl
set_option maxRecDepth 100000 in
theorem c4_4 : chkR (anyDrew false ls11) (fun tab => askIn false (dR tab)) (.three 8252 (.part 12290 fun _ => .of 4000) (.part 12290 fun _ => .of 4000) (.part 12292 fun _ => .of 4000)) [(4101, 4, 4), (7, 4, 4)] = true := by kernel_rfl
set_option maxRecDepth 100000 in
theorem c4_3 : chkR (anyDrew false ls10) (fun tab => askIn false (dR tab)) (.three 8252 (.part 12290 fun _ => .of 4000) (.part 12290 fun _ => .of 4000) (.part 12291 fun _ => .of 4000)) [(4101, 3, 3), (7, 4, 4)] = true := by kernel_rfl
set_option maxRecDepth 100000 in
theorem c4_2 : chkR (anyDrew false ls9) (fun tab => askIn false (dR tab)) (.three 8252 (.part 12290 fun _ => .of 4000) (.part 12290 fun _ => .of 4000) (.part 12290 fun _ => .of 4000)) [(4101, 2, 2), (7, 4, 4)] = true := by kernel_rfl
set_option maxRecDepth 100000 in
theorem c3_2 : chkR (anyDrew false ls6) (fun tab => askIn false (dR tab)) (.three 8252 (.part 12290 fun _ => .of 4000) (.part 12290 fun _ => .of 4000) (.part 12291 fun _ => .of 4000)) [(4099, 2, 2), (7, 3, 3)] = true := by kernel_rfl
set_option maxRecDepth 100000 in
theorem c3_1 : chkR (anyDrew false ls5) (fun tab => askIn false (dR tab)) (.three 8252 (.part 12290 fun _ => .of 4000) (.part 12290 fun _ => .of 4000) (.part 12290 fun _ => .of 4000)) [(4099, 1, 1), (7, 3, 3)] = true := by kernel_rfl
set_option maxRecDepth 100000 in
theorem c3_0 : chkR (anyDrew false ls4) (fun tab => askIn false (dR tab)) (.three 8252 (.part 12290 fun _ => .of 4000) (.part 12290 fun _ => .of 4000) (.part 12289 fun _ => .of 4000)) [(4099, 0, 0), (7, 3, 3)] = true := by kernel_rfl
set_option maxRecDepth 100000 in
theorem c0_0 : chkR (anyDrew false ls0) (fun tab => askIn false (dR tab)) (.three 8252 (.part 12290 fun _ => .of 4000) (.part 12290 fun _ => .of 4000) (.part 12289 fun _ => .of 4000)) [(7, 0, 0)] = true := by kernel_rfl
end Go.Proofs.Ytnglbchhlpbgkab.stepDrawn
