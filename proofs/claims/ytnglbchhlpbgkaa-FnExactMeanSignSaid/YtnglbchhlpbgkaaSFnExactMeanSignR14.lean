/- Runs of the program at a seat. -/
import Derived.Test.YtnglbchhlpbgkaaSFnExactMeanSignP
namespace Go.Proofs.Ytnglbchhlpbgkaa.fnExactMeanSignRuns
open Go Go.Eng
set_option linter.unusedVariables false
set_option linter.unusedSectionVars false
set_option linter.unusedSimpArgs false
set_option maxRecDepth 100000
theorem w3_2 : gB L3_2 (fun b => gB pclasses (fun c => run .long b c [])) = true := by kernel_rfl
theorem w7_2 : gB L7_2 (fun b => gB pclasses (fun c => run (.row [1, 1, 1]) b c [])) = true := by kernel_rfl
theorem t13_8_5 : FtOk (run (.row [2, 1, 1]) (.row [1, 1, 1, 1]) (.pt 5)) := ⟨tr (df c9_5 c4_5 30 5), by kernel_rfl⟩
theorem t14_9_5 : FtOk (run (.row [2, 1, 1, 1]) (.row [1, 1, 1, 1, 1]) (.pt 5)) := ⟨tr (df c10_5 c5_5 20 1), by kernel_rfl⟩
theorem w16_0 : gB L16_0 (fun b => gB pclasses (fun c => run (.row [2, 2]) b c [])) = true := by kernel_rfl
theorem t19_19_3 : FtOk (run (.row [2, 2, 2]) (.row [2, 2, 2]) (.pt 3)) := ⟨tr (df c15_3 c15_3 1 1), by kernel_rfl⟩
theorem t19_30_3 : FtOk (run (.row [2, 2, 2]) (.row [4, 2]) (.pt 3)) := ⟨tr (df c15_3 c26_3 1 6), by kernel_rfl⟩
theorem w20_2 : gB L20_2 (fun b => gB pclasses (fun c => run (.row [3]) b c [])) = true := by kernel_rfl
theorem l24_22 : gB [.nil, .zero, .no, .long, .pt 0, .pt 1, .pt 2] (fun c => run (.row [3, 2]) (.row [3, 1, 1]) c []) = true := by kernel_rfl
theorem w24_2 : gB L24_2 (fun b => gB pclasses (fun c => run (.row [3, 2]) b c [])) = true := by kernel_rfl
theorem t26_26_5 : FtOk (run (.row [3, 3]) (.row [3, 3]) (.pt 5)) := ⟨tr (df c22_5 c22_5 10 10), by kernel_rfl⟩
theorem l27_21 : gB [.nil, .zero, .no, .long, .pt 0, .pt 1] (fun c => run (.row [4]) (.row [3, 1]) c []) = true := by kernel_rfl
theorem t29_23_5 : FtOk (run (.row [4, 1, 1]) (.row [3, 1, 1, 1]) (.pt 5)) := ⟨tr (df c25_5 c19_5 30 20), by kernel_rfl⟩
theorem l30_26 : gB [.nil, .zero, .no, .long, .pt 0, .pt 1] (fun c => run (.row [4, 2]) (.row [3, 3]) c []) = true := by kernel_rfl
theorem w30_0 : gB L30_0 (fun b => gB pclasses (fun c => run (.row [4, 2]) b c [])) = true := by kernel_rfl
theorem t32_32_3 : FtOk (run (.row [5, 1]) (.row [5, 1]) (.pt 3)) := ⟨tr (df c28_3 c28_3 6 6), by kernel_rfl⟩
end Go.Proofs.Ytnglbchhlpbgkaa.fnExactMeanSignRuns
