/- Runs of the program at a seat. -/
import Derived.Test.YtnglbchhlpbgkabStepH
namespace Go.Proofs.Ytnglbchhlpbgkab.stepDrawn
open Go Go.Eng
set_option linter.unusedVariables false
set_option linter.unusedSectionVars false
set_option linter.unusedSimpArgs false
set_option maxRecDepth 100000 in
theorem c6_9 : chkR (anyDrew false ls28) (fun tab => askIn false (dR tab)) (.three 8252 (.part 12290 fun _ => .of 4000) (.part 12290 fun _ => .of 4000) (.part 12293 fun _ => .of 4000)) [(4107, 9, 9), (7, 6, 6)] = true := by kernel_rfl
set_option maxRecDepth 100000 in
theorem c6_6 : chkR (anyDrew false ls25) (fun tab => askIn false (dR tab)) (.three 8252 (.part 12290 fun _ => .of 4000) (.part 12290 fun _ => .of 4000) (.part 12292 fun _ => .of 4000)) [(4107, 6, 6), (7, 6, 6)] = true := by kernel_rfl
set_option maxRecDepth 100000 in
theorem c5_5 : chkR (anyDrew false ls17) (fun tab => askIn false (dR tab)) (.three 8252 (.part 12290 fun _ => .of 4000) (.part 12290 fun _ => .of 4000) (.part 12292 fun _ => .of 4000)) [(4103, 5, 5), (7, 5, 5)] = true := by kernel_rfl
set_option maxRecDepth 100000 in
theorem c6_3 : chkR (anyDrew false ls22) (fun tab => askIn false (dR tab)) (.three 8252 (.part 12290 fun _ => .of 4000) (.part 12290 fun _ => .of 4000) (.part 12291 fun _ => .of 4000)) [(4107, 3, 3), (7, 6, 6)] = true := by kernel_rfl
set_option maxRecDepth 100000 in
theorem c6_2 : chkR (anyDrew false ls21) (fun tab => askIn false (dR tab)) (.three 8252 (.part 12290 fun _ => .of 4000) (.part 12290 fun _ => .of 4000) (.part 12290 fun _ => .of 4000)) [(4107, 2, 2), (7, 6, 6)] = true := by kernel_rfl
set_option maxRecDepth 100000 in
theorem c6_1 : chkR (anyDrew false ls20) (fun tab => askIn false (dR tab)) (.three 8252 (.part 12290 fun _ => .of 4000) (.part 12290 fun _ => .of 4000) (.part 12290 fun _ => .of 4000)) [(4107, 1, 1), (7, 6, 6)] = true := by kernel_rfl
set_option maxRecDepth 100000 in
theorem c6_0 : chkR (anyDrew false ls19) (fun tab => askIn false (dR tab)) (.three 8252 (.part 12290 fun _ => .of 4000) (.part 12290 fun _ => .of 4000) (.part 12289 fun _ => .of 4000)) [(4107, 0, 0), (7, 6, 6)] = true := by kernel_rfl
set_option maxRecDepth 100000 in
theorem c5_0 : chkR (anyDrew false ls12) (fun tab => askIn false (dR tab)) (.three 8252 (.part 12290 fun _ => .of 4000) (.part 12290 fun _ => .of 4000) (.part 12289 fun _ => .of 4000)) [(4103, 0, 0), (7, 5, 5)] = true := by kernel_rfl
set_option maxRecDepth 100000 in
theorem c2_1 : chkR (anyDrew false ls3) (fun tab => askIn false (dR tab)) (.three 8252 (.part 12290 fun _ => .of 4000) (.part 12290 fun _ => .of 4000) (.part 12290 fun _ => .of 4000)) [(4098, 1, 1), (7, 2, 2)] = true := by kernel_rfl
set_option maxRecDepth 100000 in
theorem c1_0 : chkR (anyDrew false ls1) (fun tab => askIn false (dR tab)) (.three 8252 (.part 12290 fun _ => .of 4000) (.part 12290 fun _ => .of 4000) (.part 12289 fun _ => .of 4000)) [(7, 1, 1)] = true := by kernel_rfl
end Go.Proofs.Ytnglbchhlpbgkab.stepDrawn
