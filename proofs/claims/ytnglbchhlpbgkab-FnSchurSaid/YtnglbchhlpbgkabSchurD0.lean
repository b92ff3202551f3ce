/- Runs of the program at a seat. -/
import Derived.Test.YtnglbchhlpbgkabSchurH
namespace Go.Proofs.Ytnglbchhlpbgkab.schurDrawn
open Go Go.Eng
set_option linter.unusedVariables false
set_option linter.unusedSectionVars false
set_option linter.unusedSimpArgs false
set_option maxRecDepth 100000 in
theorem c5_5 : chkR (anyDrew false ls35) (fun tab => askIn false (dR tab)) (.part 12294 fun _ => .part 16389 fun _ => .of 400) [(4102, 5, 5), (6, 5, 5)] = true := by kernel_rfl
set_option maxRecDepth 100000 in
theorem c3_5 : chkR (anyDrew false ls23) (fun tab => askIn false (dR tab)) (.part 12294 fun _ => .part 16389 fun _ => .of 400) [(4102, 5, 5), (6, 3, 3)] = true := by kernel_rfl
set_option maxRecDepth 100000 in
theorem c2_5 : chkR (anyDrew false ls17) (fun tab => askIn false (dR tab)) (.part 12294 fun _ => .part 16389 fun _ => .of 400) [(4102, 5, 5), (6, 2, 2)] = true := by kernel_rfl
set_option maxRecDepth 100000 in
theorem c5_2 : chkR (anyDrew false ls32) (fun tab => askIn false (dR tab)) (.part 12294 fun _ => .part 16389 fun _ => .of 400) [(4102, 2, 2), (6, 5, 5)] = true := by kernel_rfl
set_option maxRecDepth 100000 in
theorem c3_3 : chkR (anyDrew false ls21) (fun tab => askIn false (dR tab)) (.part 12294 fun _ => .part 16389 fun _ => .of 400) [(4102, 3, 3), (6, 3, 3)] = true := by kernel_rfl
set_option maxRecDepth 100000 in
theorem c0_5 : chkR (anyDrew false ls5) (fun tab => askIn false (dR tab)) (.part 12294 fun _ => .part 16389 fun _ => .of 400) [(4102, 5, 5), (6, 0, 0)] = true := by kernel_rfl
set_option maxRecDepth 100000 in
theorem c3_2 : chkR (anyDrew false ls20) (fun tab => askIn false (dR tab)) (.part 12294 fun _ => .part 16389 fun _ => .of 400) [(4102, 2, 2), (6, 3, 3)] = true := by kernel_rfl
set_option maxRecDepth 100000 in
theorem c0_4 : chkR (anyDrew false ls4) (fun tab => askIn false (dR tab)) (.part 12294 fun _ => .part 16389 fun _ => .of 400) [(4102, 4, 4), (6, 0, 0)] = true := by kernel_rfl
set_option maxRecDepth 100000 in
theorem c3_1 : chkR (anyDrew false ls19) (fun tab => askIn false (dR tab)) (.part 12294 fun _ => .part 16389 fun _ => .of 400) [(4102, 1, 1), (6, 3, 3)] = true := by kernel_rfl
set_option maxRecDepth 100000 in
theorem c1_2 : chkR (anyDrew false ls8) (fun tab => askIn false (dR tab)) (.part 12294 fun _ => .part 16389 fun _ => .of 400) [(4102, 2, 2), (6, 1, 1)] = true := by kernel_rfl
set_option maxRecDepth 100000 in
theorem c0_2 : chkR (anyDrew false ls2) (fun tab => askIn false (dR tab)) (.part 12294 fun _ => .part 16389 fun _ => .of 400) [(4102, 2, 2), (6, 0, 0)] = true := by kernel_rfl
set_option maxRecDepth 100000 in
theorem c0_1 : chkR (anyDrew false ls1) (fun tab => askIn false (dR tab)) (.part 12294 fun _ => .part 16389 fun _ => .of 400) [(4102, 1, 1), (6, 0, 0)] = true := by kernel_rfl
end Go.Proofs.Ytnglbchhlpbgkab.schurDrawn
