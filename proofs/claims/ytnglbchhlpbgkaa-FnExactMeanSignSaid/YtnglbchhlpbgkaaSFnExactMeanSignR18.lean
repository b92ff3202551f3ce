/- Runs of the program at a seat. -/
import Derived.Test.YtnglbchhlpbgkaaSFnExactMeanSignP
namespace Go.Proofs.Ytnglbchhlpbgkaa.fnExactMeanSignRuns
open Go Go.Eng
set_option linter.unusedVariables false
set_option linter.unusedSectionVars false
set_option linter.unusedSimpArgs false
set_option maxRecDepth 100000
theorem t6_6_4 : FtOk (run (.row [1, 1]) (.row [1, 1]) (.pt 4)) := ⟨tr (df c2_4 c2_4 6 6), by kernel_rfl⟩
theorem t8_27_4 : FtOk (run (.row [1, 1, 1, 1]) (.row [4]) (.pt 4)) := ⟨tr (df c4_4 c23_4 1 4), by kernel_rfl⟩
theorem l12_20 : gB [.nil, .zero, .no, .long, .pt 0, .pt 1] (fun c => run (.row [2, 1]) (.row [3]) c []) = true := by kernel_rfl
theorem t13_27_5 : FtOk (run (.row [2, 1, 1]) (.row [4]) (.pt 5)) := ⟨tr (df c9_5 c23_5 30 5), by kernel_rfl⟩
theorem l17_17 : gB [.nil, .zero, .no, .long, .pt 0, .pt 1, .pt 2] (fun c => run (.row [2, 2, 1]) (.row [2, 2, 1]) c []) = true := by kernel_rfl
theorem l19_23 : gB [.nil, .zero, .no, .long, .pt 0, .pt 1, .pt 2, .pt 3] (fun c => run (.row [2, 2, 2]) (.row [3, 1, 1, 1]) c []) = true := by kernel_rfl
theorem t21_16_4 : FtOk (run (.row [3, 1]) (.row [2, 2]) (.pt 4)) := ⟨tr (df c17_4 c12_4 12 6), by kernel_rfl⟩
theorem l22_24 : gB [.nil, .zero, .no, .long, .pt 0, .pt 1, .pt 2] (fun c => run (.row [3, 1, 1]) (.row [3, 2]) c []) = true := by kernel_rfl
theorem t23_18_5 : FtOk (run (.row [3, 1, 1, 1]) (.row [2, 2, 1, 1]) (.pt 5)) := ⟨tr (df c19_5 c14_5 20 30), by kernel_rfl⟩
theorem l24_28 : gB [.nil, .zero, .no, .long, .pt 0, .pt 1] (fun c => run (.row [3, 2]) (.row [4, 1]) c []) = true := by kernel_rfl
theorem t25_26_4 : FtOk (run (.row [3, 2, 1]) (.row [3, 3]) (.pt 4)) := ⟨tr (df c21_4 c22_4 24 6), by kernel_rfl⟩
theorem l26_26 : gB [.nil, .zero, .no, .long, .pt 0, .pt 1] (fun c => run (.row [3, 3]) (.row [3, 3]) c []) = true := by kernel_rfl
theorem l28_28 : gB [.nil, .zero, .no, .long, .pt 0, .pt 1] (fun c => run (.row [4, 1]) (.row [4, 1]) c []) = true := by kernel_rfl
theorem t29_25_3 : FtOk (run (.row [4, 1, 1]) (.row [3, 2, 1]) (.pt 3)) := ⟨tr (df c25_3 c21_3 3 6), by kernel_rfl⟩
theorem t30_23_5 : FtOk (run (.row [4, 2]) (.row [3, 1, 1, 1]) (.pt 5)) := ⟨tr (df c26_5 c19_5 20 20), by kernel_rfl⟩
theorem w30_2 : gB L30_2 (fun b => gB pclasses (fun c => run (.row [4, 2]) b c [])) = true := by kernel_rfl
theorem t32_30_5 : FtOk (run (.row [5, 1]) (.row [4, 2]) (.pt 5)) := ⟨tr (df c28_5 c26_5 20 20), by kernel_rfl⟩
theorem t33_30_4 : FtOk (run (.row [6]) (.row [4, 2]) (.pt 4)) := ⟨tr (df c29_4 c26_4 4 12), by kernel_rfl⟩
end Go.Proofs.Ytnglbchhlpbgkaa.fnExactMeanSignRuns
