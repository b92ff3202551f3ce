/- Runs of the program at a seat. -/
import Derived.Test.YtnglbchhlpbgkaaSFnExactMeanSignP
namespace Go.Proofs.Ytnglbchhlpbgkaa.fnExactMeanSignRuns
open Go Go.Eng
set_option linter.unusedVariables false
set_option linter.unusedSectionVars false
set_option linter.unusedSimpArgs false
set_option maxRecDepth 100000
theorem t5_5_3 : FtOk (run (.row [1]) (.row [1]) (.pt 3)) := ⟨tr (df c1_3 c1_3 3 3), by kernel_rfl⟩
theorem l8_13 : gB [.nil, .zero, .no, .long, .pt 0, .pt 1, .pt 2, .pt 3] (fun c => run (.row [1, 1, 1, 1]) (.row [2, 1, 1]) c []) = true := by kernel_rfl
theorem t8_21_5 : FtOk (run (.row [1, 1, 1, 1]) (.row [3, 1]) (.pt 5)) := ⟨tr (df c4_5 c17_5 5 20), by kernel_rfl⟩
theorem w10_0 : gB L10_0 (fun b => gB pclasses (fun c => run (.row [1, 1, 1, 1, 1, 1]) b c [])) = true := by kernel_rfl
theorem l14_24 : gB [.nil, .zero, .no, .long, .pt 0, .pt 1, .pt 2, .pt 3] (fun c => run (.row [2, 1, 1, 1]) (.row [3, 2]) c []) = true := by kernel_rfl
theorem t14_31_5 : FtOk (run (.row [2, 1, 1, 1]) (.row [5]) (.pt 5)) := ⟨tr (df c10_5 c27_5 20 5), by kernel_rfl⟩
theorem t16_8_4 : FtOk (run (.row [2, 2]) (.row [1, 1, 1, 1]) (.pt 4)) := ⟨tr (df c12_4 c4_4 6 1), by kernel_rfl⟩
theorem w16_3 : gB L16_3 (fun b => gB pclasses (fun c => run (.row [2, 2]) b c [])) = true := by kernel_rfl
theorem t17_28_5 : FtOk (run (.row [2, 2, 1]) (.row [4, 1]) (.pt 5)) := ⟨tr (df c13_5 c24_5 30 20), by kernel_rfl⟩
theorem l18_30 : gB [.nil, .zero, .no, .long, .pt 0, .pt 1, .pt 2, .pt 3] (fun c => run (.row [2, 2, 1, 1]) (.row [4, 2]) c []) = true := by kernel_rfl
theorem t19_32_5 : FtOk (run (.row [2, 2, 2]) (.row [5, 1]) (.pt 5)) := ⟨tr (df c15_5 c28_5 10 20), by kernel_rfl⟩
theorem t21_8_5 : FtOk (run (.row [3, 1]) (.row [1, 1, 1, 1]) (.pt 5)) := ⟨tr (df c17_5 c4_5 20 5), by kernel_rfl⟩
theorem t23_26_5 : FtOk (run (.row [3, 1, 1, 1]) (.row [3, 3]) (.pt 5)) := ⟨tr (df c19_5 c22_5 20 10), by kernel_rfl⟩
theorem t25_26_5 : FtOk (run (.row [3, 2, 1]) (.row [3, 3]) (.pt 5)) := ⟨tr (df c21_5 c22_5 60 10), by kernel_rfl⟩
theorem l26_18 : gB [.nil, .zero, .no, .long, .pt 0, .pt 1, .pt 2, .pt 3] (fun c => run (.row [3, 3]) (.row [2, 2, 1, 1]) c []) = true := by kernel_rfl
theorem l26_32 : gB [.nil, .zero, .no, .long, .pt 0, .pt 1] (fun c => run (.row [3, 3]) (.row [5, 1]) c []) = true := by kernel_rfl
theorem t27_16_5 : FtOk (run (.row [4]) (.row [2, 2]) (.pt 5)) := ⟨tr (df c23_5 c12_5 5 10), by kernel_rfl⟩
theorem t28_22_3 : FtOk (run (.row [4, 1]) (.row [3, 1, 1]) (.pt 3)) := ⟨tr (df c24_3 c18_3 6 3), by kernel_rfl⟩
theorem t29_18_4 : FtOk (run (.row [4, 1, 1]) (.row [2, 2, 1, 1]) (.pt 4)) := ⟨tr (df c25_4 c14_4 12 6), by kernel_rfl⟩
theorem w29_2 : gB L29_2 (fun b => gB pclasses (fun c => run (.row [4, 1, 1]) b c [])) = true := by kernel_rfl
theorem t31_28_5 : FtOk (run (.row [5]) (.row [4, 1]) (.pt 5)) := ⟨tr (df c27_5 c24_5 5 20), by kernel_rfl⟩
theorem l32_32 : gB [.nil, .zero, .no, .long, .pt 0, .pt 1] (fun c => run (.row [5, 1]) (.row [5, 1]) c []) = true := by kernel_rfl
theorem l33_23 : gB [.nil, .zero, .no, .long, .pt 0, .pt 1, .pt 2, .pt 3] (fun c => run (.row [6]) (.row [3, 1, 1, 1]) c []) = true := by kernel_rfl
theorem w33_0 : gB L33_0 (fun b => gB pclasses (fun c => run (.row [6]) b c [])) = true := by kernel_rfl
end Go.Proofs.Ytnglbchhlpbgkaa.fnExactMeanSignRuns
