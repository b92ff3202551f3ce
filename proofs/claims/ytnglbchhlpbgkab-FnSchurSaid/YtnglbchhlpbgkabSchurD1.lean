/- Runs of the program at a seat. -/
import Derived.Test.YtnglbchhlpbgkabSchurH
namespace Go.Proofs.Ytnglbchhlpbgkab.schurDrawn
open Go Go.Eng
set_option linter.unusedVariables false
set_option linter.unusedSectionVars false
set_option linter.unusedSimpArgs false
set_option maxRecDepth 100000 in
theorem c4_5 : chkR (anyDrew false ls29) (fun tab => askIn false (dR tab)) (.part 12294 fun _ => .part 16389 fun _ => .of 400) [(4102, 5, 5), (6, 4, 4)] = true := by kernel_rfl
set_option maxRecDepth 100000 in
theorem c4_4 : chkR (anyDrew false ls28) (fun tab => askIn false (dR tab)) (.part 12294 fun _ => .part 16389 fun _ => .of 400) [(4102, 4, 4), (6, 4, 4)] = true := by kernel_rfl
set_option maxRecDepth 100000 in
theorem c3_4 : chkR (anyDrew false ls22) (fun tab => askIn false (dR tab)) (.part 12294 fun _ => .part 16389 fun _ => .of 400) [(4102, 4, 4), (6, 3, 3)] = true := by kernel_rfl
set_option maxRecDepth 100000 in
theorem c1_5 : chkR (anyDrew false ls11) (fun tab => askIn false (dR tab)) (.part 12294 fun _ => .part 16389 fun _ => .of 400) [(4102, 5, 5), (6, 1, 1)] = true := by kernel_rfl
set_option maxRecDepth 100000 in
theorem c4_2 : chkR (anyDrew false ls26) (fun tab => askIn false (dR tab)) (.part 12294 fun _ => .part 16389 fun _ => .of 400) [(4102, 2, 2), (6, 4, 4)] = true := by kernel_rfl
set_option maxRecDepth 100000 in
theorem c1_4 : chkR (anyDrew false ls10) (fun tab => askIn false (dR tab)) (.part 12294 fun _ => .part 16389 fun _ => .of 400) [(4102, 4, 4), (6, 1, 1)] = true := by kernel_rfl
set_option maxRecDepth 100000 in
theorem c4_1 : chkR (anyDrew false ls25) (fun tab => askIn false (dR tab)) (.part 12294 fun _ => .part 16389 fun _ => .of 400) [(4102, 1, 1), (6, 4, 4)] = true := by kernel_rfl
set_option maxRecDepth 100000 in
theorem c1_3 : chkR (anyDrew false ls9) (fun tab => askIn false (dR tab)) (.part 12294 fun _ => .part 16389 fun _ => .of 400) [(4102, 3, 3), (6, 1, 1)] = true := by kernel_rfl
set_option maxRecDepth 100000 in
theorem c4_0 : chkR (anyDrew false ls24) (fun tab => askIn false (dR tab)) (.part 12294 fun _ => .part 16389 fun _ => .of 400) [(4102, 0, 0), (6, 4, 4)] = true := by kernel_rfl
set_option maxRecDepth 100000 in
theorem c2_1 : chkR (anyDrew false ls13) (fun tab => askIn false (dR tab)) (.part 12294 fun _ => .part 16389 fun _ => .of 400) [(4102, 1, 1), (6, 2, 2)] = true := by kernel_rfl
set_option maxRecDepth 100000 in
theorem c1_1 : chkR (anyDrew false ls7) (fun tab => askIn false (dR tab)) (.part 12294 fun _ => .part 16389 fun _ => .of 400) [(4102, 1, 1), (6, 1, 1)] = true := by kernel_rfl
set_option maxRecDepth 100000 in
theorem c1_0 : chkR (anyDrew false ls6) (fun tab => askIn false (dR tab)) (.part 12294 fun _ => .part 16389 fun _ => .of 400) [(4102, 0, 0), (6, 1, 1)] = true := by kernel_rfl
end Go.Proofs.Ytnglbchhlpbgkab.schurDrawn
