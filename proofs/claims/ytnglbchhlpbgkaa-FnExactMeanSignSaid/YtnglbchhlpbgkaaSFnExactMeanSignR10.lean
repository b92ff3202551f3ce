/- Runs of the program at a seat. -/
import Derived.Test.YtnglbchhlpbgkaaSFnExactMeanSignP
namespace Go.Proofs.Ytnglbchhlpbgkaa.fnExactMeanSignRuns
open Go Go.Eng
set_option linter.unusedVariables false
set_option linter.unusedSectionVars false
set_option linter.unusedSimpArgs false
set_option maxRecDepth 100000
theorem w2_2 : gB L2_2 (fun b => gB pclasses (fun c => run .no b c [])) = true := by kernel_rfl
theorem t7_12_5 : FtOk (run (.row [1, 1, 1]) (.row [2, 1]) (.pt 5)) := ⟨tr (df c3_5 c8_5 10 20), by kernel_rfl⟩
theorem l8_21 : gB [.nil, .zero, .no, .long, .pt 0, .pt 1, .pt 2, .pt 3] (fun c => run (.row [1, 1, 1, 1]) (.row [3, 1]) c []) = true := by kernel_rfl
theorem t9_17_5 : FtOk (run (.row [1, 1, 1, 1, 1]) (.row [2, 2, 1]) (.pt 5)) := ⟨tr (df c5_5 c13_5 1 30), by kernel_rfl⟩
theorem w12_0 : gB L12_0 (fun b => gB pclasses (fun c => run (.row [2, 1]) b c [])) = true := by kernel_rfl
theorem l14_31 : gB [.nil, .zero, .no, .long, .pt 0, .pt 1, .pt 2, .pt 3] (fun c => run (.row [2, 1, 1, 1]) (.row [5]) c []) = true := by kernel_rfl
theorem l16_8 : gB [.nil, .zero, .no, .long, .pt 0, .pt 1, .pt 2, .pt 3] (fun c => run (.row [2, 2]) (.row [1, 1, 1, 1]) c []) = true := by kernel_rfl
theorem t16_16_5 : FtOk (run (.row [2, 2]) (.row [2, 2]) (.pt 5)) := ⟨tr (df c12_5 c12_5 10 10), by kernel_rfl⟩
theorem t17_22_3 : FtOk (run (.row [2, 2, 1]) (.row [3, 1, 1]) (.pt 3)) := ⟨tr (df c13_3 c18_3 3 3), by kernel_rfl⟩
theorem t18_19_5 : FtOk (run (.row [2, 2, 1, 1]) (.row [2, 2, 2]) (.pt 5)) := ⟨tr (df c14_5 c15_5 30 10), by kernel_rfl⟩
theorem w18_2 : gB L18_2 (fun b => gB pclasses (fun c => run (.row [2, 2, 1, 1]) b c [])) = true := by kernel_rfl
theorem l21_8 : gB [.nil, .zero, .no, .long, .pt 0, .pt 1, .pt 2, .pt 3] (fun c => run (.row [3, 1]) (.row [1, 1, 1, 1]) c []) = true := by kernel_rfl
theorem w21_2 : gB L21_2 (fun b => gB pclasses (fun c => run (.row [3, 1]) b c [])) = true := by kernel_rfl
theorem l25_26 : gB [.nil, .zero, .no, .long, .pt 0, .pt 1, .pt 2] (fun c => run (.row [3, 2, 1]) (.row [3, 3]) c []) = true := by kernel_rfl
theorem t25_33_3 : FtOk (run (.row [3, 2, 1]) (.row [6]) (.pt 3)) := ⟨tr (df c21_3 c29_3 6 3), by kernel_rfl⟩
theorem t26_26_4 : FtOk (run (.row [3, 3]) (.row [3, 3]) (.pt 4)) := ⟨tr (df c22_4 c22_4 6 6), by kernel_rfl⟩
theorem t26_33_5 : FtOk (run (.row [3, 3]) (.row [6]) (.pt 5)) := ⟨tr (df c22_5 c29_5 10 5), by kernel_rfl⟩
theorem l28_22 : gB [.nil, .zero, .no, .long, .pt 0, .pt 1, .pt 2] (fun c => run (.row [4, 1]) (.row [3, 1, 1]) c []) = true := by kernel_rfl
theorem l29_15 : gB [.nil, .zero, .no, .long, .pt 0, .pt 1, .pt 2, .pt 3, .pt 4] (fun c => run (.row [4, 1, 1]) (.row [2, 1, 1, 1, 1]) c []) = true := by kernel_rfl
theorem t29_29_5 : FtOk (run (.row [4, 1, 1]) (.row [4, 1, 1]) (.pt 5)) := ⟨tr (df c25_5 c25_5 30 30), by kernel_rfl⟩
theorem t31_17_5 : FtOk (run (.row [5]) (.row [2, 2, 1]) (.pt 5)) := ⟨tr (df c27_5 c13_5 5 30), by kernel_rfl⟩
theorem t32_25_5 : FtOk (run (.row [5, 1]) (.row [3, 2, 1]) (.pt 5)) := ⟨tr (df c28_5 c21_5 20 60), by kernel_rfl⟩
theorem t32_33_4 : FtOk (run (.row [5, 1]) (.row [6]) (.pt 4)) := ⟨tr (df c28_4 c29_4 12 4), by kernel_rfl⟩
theorem t33_29_5 : FtOk (run (.row [6]) (.row [4, 1, 1]) (.pt 5)) := ⟨tr (df c29_5 c25_5 5 30), by kernel_rfl⟩
end Go.Proofs.Ytnglbchhlpbgkaa.fnExactMeanSignRuns
