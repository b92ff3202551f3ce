/- Runs of the program at a seat. -/
import Derived.Test.YtnglbchhlpbgkaaSFnExactMeanSignP
namespace Go.Proofs.Ytnglbchhlpbgkaa.fnExactMeanSignRuns
open Go Go.Eng
set_option linter.unusedVariables false
set_option linter.unusedSectionVars false
set_option linter.unusedSimpArgs false
set_option maxRecDepth 100000
theorem w5_1 : gB L5_1 (fun b => gB pclasses (fun c => run (.row [1]) b c [])) = true := by kernel_rfl
theorem t8_13_4 : FtOk (run (.row [1, 1, 1, 1]) (.row [2, 1, 1]) (.pt 4)) := ⟨tr (df c4_4 c9_4 1 12), by kernel_rfl⟩
theorem l9_14 : gB [.nil, .zero, .no, .long, .pt 0, .pt 1, .pt 2, .pt 3, .pt 4] (fun c => run (.row [1, 1, 1, 1, 1]) (.row [2, 1, 1, 1]) c []) = true := by kernel_rfl
theorem t12_12_3 : FtOk (run (.row [2, 1]) (.row [2, 1]) (.pt 3)) := ⟨tr (df c8_3 c8_3 6 6), by kernel_rfl⟩
theorem l14_28 : gB [.nil, .zero, .no, .long, .pt 0, .pt 1, .pt 2, .pt 3] (fun c => run (.row [2, 1, 1, 1]) (.row [4, 1]) c []) = true := by kernel_rfl
theorem t15_25_5 : FtOk (run (.row [2, 1, 1, 1, 1]) (.row [3, 2, 1]) (.pt 5)) := ⟨tr (df c11_5 c21_5 5 60), by kernel_rfl⟩
theorem t16_16_2 : FtOk (run (.row [2, 2]) (.row [2, 2]) (.pt 2)) := ⟨tr (df c12_2 c12_2 1 1), by kernel_rfl⟩
theorem l17_22 : gB [.nil, .zero, .no, .long, .pt 0, .pt 1, .pt 2] (fun c => run (.row [2, 2, 1]) (.row [3, 1, 1]) c []) = true := by kernel_rfl
theorem l18_19 : gB [.nil, .zero, .no, .long, .pt 0, .pt 1, .pt 2, .pt 3] (fun c => run (.row [2, 2, 1, 1]) (.row [2, 2, 2]) c []) = true := by kernel_rfl
theorem t18_30_4 : FtOk (run (.row [2, 2, 1, 1]) (.row [4, 2]) (.pt 4)) := ⟨tr (df c14_4 c26_4 6 12), by kernel_rfl⟩
theorem t20_12_4 : FtOk (run (.row [3]) (.row [2, 1]) (.pt 4)) := ⟨tr (df c16_4 c8_4 4 12), by kernel_rfl⟩
theorem t21_16_5 : FtOk (run (.row [3, 1]) (.row [2, 2]) (.pt 5)) := ⟨tr (df c17_5 c12_5 20 10), by kernel_rfl⟩
theorem w23_1 : gB L23_1 (fun b => gB pclasses (fun c => run (.row [3, 1, 1, 1]) b c [])) = true := by kernel_rfl
theorem l25_33 : gB [.nil, .zero, .no, .long, .pt 0, .pt 1, .pt 2] (fun c => run (.row [3, 2, 1]) (.row [6]) c []) = true := by kernel_rfl
theorem t26_18_5 : FtOk (run (.row [3, 3]) (.row [2, 2, 1, 1]) (.pt 5)) := ⟨tr (df c22_5 c14_5 10 30), by kernel_rfl⟩
theorem t26_32_2 : FtOk (run (.row [3, 3]) (.row [5, 1]) (.pt 2)) := ⟨tr (df c22_2 c28_2 1 2), by kernel_rfl⟩
theorem w27_3 : gB L27_3 (fun b => gB pclasses (fun c => run (.row [4]) b c [])) = true := by kernel_rfl
theorem t28_24_5 : FtOk (run (.row [4, 1]) (.row [3, 2]) (.pt 5)) := ⟨tr (df c24_5 c20_5 20 20), by kernel_rfl⟩
theorem t29_23_4 : FtOk (run (.row [4, 1, 1]) (.row [3, 1, 1, 1]) (.pt 4)) := ⟨tr (df c25_4 c19_4 12 4), by kernel_rfl⟩
theorem t30_32_5 : FtOk (run (.row [4, 2]) (.row [5, 1]) (.pt 5)) := ⟨tr (df c26_5 c28_5 20 20), by kernel_rfl⟩
theorem t32_19_4 : FtOk (run (.row [5, 1]) (.row [2, 2, 2]) (.pt 4)) := ⟨tr (df c28_4 c15_4 12 4), by kernel_rfl⟩
theorem t32_32_2 : FtOk (run (.row [5, 1]) (.row [5, 1]) (.pt 2)) := ⟨tr (df c28_2 c28_2 2 2), by kernel_rfl⟩
theorem t33_23_5 : FtOk (run (.row [6]) (.row [3, 1, 1, 1]) (.pt 5)) := ⟨tr (df c29_5 c19_5 5 20), by kernel_rfl⟩
end Go.Proofs.Ytnglbchhlpbgkaa.fnExactMeanSignRuns
