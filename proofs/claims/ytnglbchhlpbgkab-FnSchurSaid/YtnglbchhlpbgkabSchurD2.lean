/- Runs of the program at a seat. -/
import Derived.Test.YtnglbchhlpbgkabSchurH
namespace Go.Proofs.Ytnglbchhlpbgkab.schurDrawn
open Go Go.Eng
set_option linter.unusedVariables false
set_option linter.unusedSectionVars false
set_option linter.unusedSimpArgs false
set_option maxRecDepth 100000 in
theorem c5_4 : chkR (anyDrew false ls34) (fun tab => askIn false (dR tab)) (.part 12294 fun _ => .part 16389 fun _ => .of 400) [(4102, 4, 4), (6, 5, 5)] = true := by kernel_rfl
set_option maxRecDepth 100000 in
theorem c5_3 : chkR (anyDrew false ls33) (fun tab => askIn false (dR tab)) (.part 12294 fun _ => .part 16389 fun _ => .of 400) [(4102, 3, 3), (6, 5, 5)] = true := by kernel_rfl
set_option maxRecDepth 100000 in
theorem c4_3 : chkR (anyDrew false ls27) (fun tab => askIn false (dR tab)) (.part 12294 fun _ => .part 16389 fun _ => .of 400) [(4102, 3, 3), (6, 4, 4)] = true := by kernel_rfl
set_option maxRecDepth 100000 in
theorem c2_4 : chkR (anyDrew false ls16) (fun tab => askIn false (dR tab)) (.part 12294 fun _ => .part 16389 fun _ => .of 400) [(4102, 4, 4), (6, 2, 2)] = true := by kernel_rfl
set_option maxRecDepth 100000 in
theorem c5_1 : chkR (anyDrew false ls31) (fun tab => askIn false (dR tab)) (.part 12294 fun _ => .part 16389 fun _ => .of 400) [(4102, 1, 1), (6, 5, 5)] = true := by kernel_rfl
set_option maxRecDepth 100000 in
theorem c2_3 : chkR (anyDrew false ls15) (fun tab => askIn false (dR tab)) (.part 12294 fun _ => .part 16389 fun _ => .of 400) [(4102, 3, 3), (6, 2, 2)] = true := by kernel_rfl
set_option maxRecDepth 100000 in
theorem c5_0 : chkR (anyDrew false ls30) (fun tab => askIn false (dR tab)) (.part 12294 fun _ => .part 16389 fun _ => .of 400) [(4102, 0, 0), (6, 5, 5)] = true := by kernel_rfl
set_option maxRecDepth 100000 in
theorem c2_2 : chkR (anyDrew false ls14) (fun tab => askIn false (dR tab)) (.part 12294 fun _ => .part 16389 fun _ => .of 400) [(4102, 2, 2), (6, 2, 2)] = true := by kernel_rfl
set_option maxRecDepth 100000 in
theorem c0_3 : chkR (anyDrew false ls3) (fun tab => askIn false (dR tab)) (.part 12294 fun _ => .part 16389 fun _ => .of 400) [(4102, 3, 3), (6, 0, 0)] = true := by kernel_rfl
set_option maxRecDepth 100000 in
theorem c3_0 : chkR (anyDrew false ls18) (fun tab => askIn false (dR tab)) (.part 12294 fun _ => .part 16389 fun _ => .of 400) [(4102, 0, 0), (6, 3, 3)] = true := by kernel_rfl
set_option maxRecDepth 100000 in
theorem c2_0 : chkR (anyDrew false ls12) (fun tab => askIn false (dR tab)) (.part 12294 fun _ => .part 16389 fun _ => .of 400) [(4102, 0, 0), (6, 2, 2)] = true := by kernel_rfl
set_option maxRecDepth 100000 in
theorem c0_0 : chkR (anyDrew false ls0) (fun tab => askIn false (dR tab)) (.part 12294 fun _ => .part 16389 fun _ => .of 400) [(4102, 0, 0), (6, 0, 0)] = true := by kernel_rfl
end Go.Proofs.Ytnglbchhlpbgkab.schurDrawn
