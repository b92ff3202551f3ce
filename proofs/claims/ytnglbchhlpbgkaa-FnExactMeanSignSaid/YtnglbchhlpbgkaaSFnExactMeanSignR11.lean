/- Runs of the program at a seat. -/
import Derived.Test.YtnglbchhlpbgkaaSFnExactMeanSignP
namespace Go.Proofs.Ytnglbchhlpbgkaa.fnExactMeanSignRuns
open Go Go.Eng
set_option linter.unusedVariables false
set_option linter.unusedSectionVars false
set_option linter.unusedSimpArgs false
set_option maxRecDepth 100000
theorem w2_3 : gB L2_3 (fun b => gB pclasses (fun c => run .no b c [])) = true := by kernel_rfl
theorem t7_7_5 : FtOk (run (.row [1, 1, 1]) (.row [1, 1, 1]) (.pt 5)) := ⟨tr (df c3_5 c3_5 10 10), by kernel_rfl⟩
theorem t12_12_5 : FtOk (run (.row [2, 1]) (.row [2, 1]) (.pt 5)) := ⟨tr (df c8_5 c8_5 20 20), by kernel_rfl⟩
theorem l14_9 : gB [.nil, .zero, .no, .long, .pt 0, .pt 1, .pt 2, .pt 3, .pt 4] (fun c => run (.row [2, 1, 1, 1]) (.row [1, 1, 1, 1, 1]) c []) = true := by kernel_rfl
theorem w14_2 : gB L14_2 (fun b => gB pclasses (fun c => run (.row [2, 1, 1, 1]) b c [])) = true := by kernel_rfl
theorem t18_32_5 : FtOk (run (.row [2, 2, 1, 1]) (.row [5, 1]) (.pt 5)) := ⟨tr (df c14_5 c28_5 30 20), by kernel_rfl⟩
theorem t19_26_3 : FtOk (run (.row [2, 2, 2]) (.row [3, 3]) (.pt 3)) := ⟨tr (df c15_3 c22_3 1 3), by kernel_rfl⟩
theorem t20_20_2 : FtOk (run (.row [3]) (.row [3]) (.pt 2)) := ⟨tr (df c16_2 c16_2 2 2), by kernel_rfl⟩
theorem w22_0 : gB L22_0 (fun b => gB pclasses (fun c => run (.row [3, 1, 1]) b c [])) = true := by kernel_rfl
theorem t24_31_2 : FtOk (run (.row [3, 2]) (.row [5]) (.pt 2)) := ⟨tr (df c20_2 c27_2 2 2), by kernel_rfl⟩
theorem t26_25_3 : FtOk (run (.row [3, 3]) (.row [3, 2, 1]) (.pt 3)) := ⟨tr (df c22_3 c21_3 3 6), by kernel_rfl⟩
theorem t27_13_3 : FtOk (run (.row [4]) (.row [2, 1, 1]) (.pt 3)) := ⟨tr (df c23_3 c9_3 3 3), by kernel_rfl⟩
theorem w27_1 : gB L27_1 (fun b => gB pclasses (fun c => run (.row [4]) b c [])) = true := by kernel_rfl
theorem t30_15_5 : FtOk (run (.row [4, 2]) (.row [2, 1, 1, 1, 1]) (.pt 5)) := ⟨tr (df c26_5 c11_5 20 5), by kernel_rfl⟩
theorem t30_29_5 : FtOk (run (.row [4, 2]) (.row [4, 1, 1]) (.pt 5)) := ⟨tr (df c26_5 c25_5 20 30), by kernel_rfl⟩
theorem t32_29_3 : FtOk (run (.row [5, 1]) (.row [4, 1, 1]) (.pt 3)) := ⟨tr (df c28_3 c25_3 6 3), by kernel_rfl⟩
end Go.Proofs.Ytnglbchhlpbgkaa.fnExactMeanSignRuns
