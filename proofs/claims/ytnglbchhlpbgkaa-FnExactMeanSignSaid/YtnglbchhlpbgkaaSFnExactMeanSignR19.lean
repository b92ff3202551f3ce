/- Runs of the program at a seat. -/
import Derived.Test.YtnglbchhlpbgkaaSFnExactMeanSignP
namespace Go.Proofs.Ytnglbchhlpbgkaa.fnExactMeanSignRuns
open Go Go.Eng
set_option linter.unusedVariables false
set_option linter.unusedSectionVars false
set_option linter.unusedSimpArgs false
set_option maxRecDepth 100000
theorem w6_3 : gB L6_3 (fun b => gB pclasses (fun c => run (.row [1, 1]) b c [])) = true := by kernel_rfl
theorem l9_17 : gB [.nil, .zero, .no, .long, .pt 0, .pt 1, .pt 2, .pt 3, .pt 4] (fun c => run (.row [1, 1, 1, 1, 1]) (.row [2, 2, 1]) c []) = true := by kernel_rfl
theorem t12_20_3 : FtOk (run (.row [2, 1]) (.row [3]) (.pt 3)) := ⟨tr (df c8_3 c16_3 6 3), by kernel_rfl⟩
theorem t14_17_5 : FtOk (run (.row [2, 1, 1, 1]) (.row [2, 2, 1]) (.pt 5)) := ⟨tr (df c10_5 c13_5 20 30), by kernel_rfl⟩
theorem t17_17_4 : FtOk (run (.row [2, 2, 1]) (.row [2, 2, 1]) (.pt 4)) := ⟨tr (df c13_4 c13_4 12 12), by kernel_rfl⟩
theorem t19_23_4 : FtOk (run (.row [2, 2, 2]) (.row [3, 1, 1, 1]) (.pt 4)) := ⟨tr (df c15_4 c19_4 4 4), by kernel_rfl⟩
theorem t21_27_4 : FtOk (run (.row [3, 1]) (.row [4]) (.pt 4)) := ⟨tr (df c17_4 c23_4 12 4), by kernel_rfl⟩
theorem t22_24_5 : FtOk (run (.row [3, 1, 1]) (.row [3, 2]) (.pt 5)) := ⟨tr (df c18_5 c20_5 30 20), by kernel_rfl⟩
theorem t23_26_4 : FtOk (run (.row [3, 1, 1, 1]) (.row [3, 3]) (.pt 4)) := ⟨tr (df c19_4 c22_4 4 6), by kernel_rfl⟩
theorem t24_28_2 : FtOk (run (.row [3, 2]) (.row [4, 1]) (.pt 2)) := ⟨tr (df c20_2 c24_2 2 2), by kernel_rfl⟩
theorem l25_32 : gB [.nil, .zero, .no, .long, .pt 0, .pt 1, .pt 2] (fun c => run (.row [3, 2, 1]) (.row [5, 1]) c []) = true := by kernel_rfl
theorem t26_26_2 : FtOk (run (.row [3, 3]) (.row [3, 3]) (.pt 2)) := ⟨tr (df c22_2 c22_2 1 1), by kernel_rfl⟩
theorem t28_28_5 : FtOk (run (.row [4, 1]) (.row [4, 1]) (.pt 5)) := ⟨tr (df c24_5 c24_5 20 20), by kernel_rfl⟩
theorem l29_29 : gB [.nil, .zero, .no, .long, .pt 0, .pt 1, .pt 2] (fun c => run (.row [4, 1, 1]) (.row [4, 1, 1]) c []) = true := by kernel_rfl
theorem l30_30 : gB [.nil, .zero, .no, .long, .pt 0, .pt 1] (fun c => run (.row [4, 2]) (.row [4, 2]) c []) = true := by kernel_rfl
theorem t32_18_5 : FtOk (run (.row [5, 1]) (.row [2, 2, 1, 1]) (.pt 5)) := ⟨tr (df c28_5 c14_5 20 30), by kernel_rfl⟩
theorem t33_15_5 : FtOk (run (.row [6]) (.row [2, 1, 1, 1, 1]) (.pt 5)) := ⟨tr (df c29_5 c11_5 5 5), by kernel_rfl⟩
theorem w33_1 : gB L33_1 (fun b => gB pclasses (fun c => run (.row [6]) b c [])) = true := by kernel_rfl
end Go.Proofs.Ytnglbchhlpbgkaa.fnExactMeanSignRuns
