/- Runs of the program at a seat. -/
import Derived.Test.YtnglbchhlpbgkabStepH
namespace Go.Proofs.Ytnglbchhlpbgkab.stepDrawn
open Go Go.Eng
set_option linter.unusedVariables false
set_option linter.unusedSectionVars false
set_option linter.unusedSimpArgs false
set_option maxRecDepth 100000 in
theorem c6_10 : chkR (anyDrew false ls29) (fun tab => askIn false (dR tab)) (.three 8252 (.part 12290 fun _ => .of 4000) (.part 12290 fun _ => .of 4000) (.part 12294 fun _ => .of 4000)) [(4107, 10, 10), (7, 6, 6)] = true := by kernel_rfl
set_option maxRecDepth 100000 in
theorem c6_7 : chkR (anyDrew false ls26) (fun tab => askIn false (dR tab)) (.three 8252 (.part 12290 fun _ => .of 4000) (.part 12290 fun _ => .of 4000) (.part 12291 fun _ => .of 4000)) [(4107, 7, 7), (7, 6, 6)] = true := by kernel_rfl
set_option maxRecDepth 100000 in
theorem c6_5 : chkR (anyDrew false ls24) (fun tab => askIn false (dR tab)) (.three 8252 (.part 12290 fun _ => .of 4000) (.part 12290 fun _ => .of 4000) (.part 12291 fun _ => .of 4000)) [(4107, 5, 5), (7, 6, 6)] = true := by kernel_rfl
set_option maxRecDepth 100000 in
theorem c5_4 : chkR (anyDrew false ls16) (fun tab => askIn false (dR tab)) (.three 8252 (.part 12290 fun _ => .of 4000) (.part 12290 fun _ => .of 4000) (.part 12291 fun _ => .of 4000)) [(4103, 4, 4), (7, 5, 5)] = true := by kernel_rfl
set_option maxRecDepth 100000 in
theorem c5_3 : chkR (anyDrew false ls15) (fun tab => askIn false (dR tab)) (.three 8252 (.part 12290 fun _ => .of 4000) (.part 12290 fun _ => .of 4000) (.part 12291 fun _ => .of 4000)) [(4103, 3, 3), (7, 5, 5)] = true := by kernel_rfl
set_option maxRecDepth 100000 in
theorem c5_2 : chkR (anyDrew false ls14) (fun tab => askIn false (dR tab)) (.three 8252 (.part 12290 fun _ => .of 4000) (.part 12290 fun _ => .of 4000) (.part 12290 fun _ => .of 4000)) [(4103, 2, 2), (7, 5, 5)] = true := by kernel_rfl
set_option maxRecDepth 100000 in
theorem c5_1 : chkR (anyDrew false ls13) (fun tab => askIn false (dR tab)) (.three 8252 (.part 12290 fun _ => .of 4000) (.part 12290 fun _ => .of 4000) (.part 12290 fun _ => .of 4000)) [(4103, 1, 1), (7, 5, 5)] = true := by kernel_rfl
set_option maxRecDepth 100000 in
theorem c4_1 : chkR (anyDrew false ls8) (fun tab => askIn false (dR tab)) (.three 8252 (.part 12290 fun _ => .of 4000) (.part 12290 fun _ => .of 4000) (.part 12290 fun _ => .of 4000)) [(4101, 1, 1), (7, 4, 4)] = true := by kernel_rfl
set_option maxRecDepth 100000 in
theorem c4_0 : chkR (anyDrew false ls7) (fun tab => askIn false (dR tab)) (.three 8252 (.part 12290 fun _ => .of 4000) (.part 12290 fun _ => .of 4000) (.part 12289 fun _ => .of 4000)) [(4101, 0, 0), (7, 4, 4)] = true := by kernel_rfl
set_option maxRecDepth 100000 in
theorem c2_0 : chkR (anyDrew false ls2) (fun tab => askIn false (dR tab)) (.three 8252 (.part 12290 fun _ => .of 4000) (.part 12290 fun _ => .of 4000) (.part 12289 fun _ => .of 4000)) [(4098, 0, 0), (7, 2, 2)] = true := by kernel_rfl
end Go.Proofs.Ytnglbchhlpbgkab.stepDrawn
