/- Runs of the program at a seat. -/
import Derived.Test.YtnglbchhlpbgkaaSFnExactMeanSignP
namespace Go.Proofs.Ytnglbchhlpbgkaa.fnExactMeanSignRuns
open Go Go.Eng
set_option linter.unusedVariables false
set_option linter.unusedSectionVars false
set_option linter.unusedSimpArgs false
set_option maxRecDepth 100000
theorem w1_3 : gB L1_3 (fun b => gB pclasses (fun c => run .zero b c [])) = true := by kernel_rfl
theorem l8_16 : gB [.nil, .zero, .no, .long, .pt 0, .pt 1, .pt 2, .pt 3] (fun c => run (.row [1, 1, 1, 1]) (.row [2, 2]) c []) = true := by kernel_rfl
theorem l9_22 : gB [.nil, .zero, .no, .long, .pt 0, .pt 1, .pt 2, .pt 3, .pt 4] (fun c => run (.row [1, 1, 1, 1, 1]) (.row [3, 1, 1]) c []) = true := by kernel_rfl
theorem w12_3 : gB L12_3 (fun b => gB pclasses (fun c => run (.row [2, 1]) b c [])) = true := by kernel_rfl
theorem w14_0 : gB L14_0 (fun b => gB pclasses (fun c => run (.row [2, 1, 1, 1]) b c [])) = true := by kernel_rfl
theorem t17_28_3 : FtOk (run (.row [2, 2, 1]) (.row [4, 1]) (.pt 3)) := ⟨tr (df c13_3 c24_3 3 6), by kernel_rfl⟩
theorem t19_29_5 : FtOk (run (.row [2, 2, 2]) (.row [4, 1, 1]) (.pt 5)) := ⟨tr (df c15_5 c25_5 10 30), by kernel_rfl⟩
theorem l22_17 : gB [.nil, .zero, .no, .long, .pt 0, .pt 1, .pt 2] (fun c => run (.row [3, 1, 1]) (.row [2, 2, 1]) c []) = true := by kernel_rfl
theorem l23_15 : gB [.nil, .zero, .no, .long, .pt 0, .pt 1, .pt 2, .pt 3, .pt 4] (fun c => run (.row [3, 1, 1, 1]) (.row [2, 1, 1, 1, 1]) c []) = true := by kernel_rfl
theorem t23_32_5 : FtOk (run (.row [3, 1, 1, 1]) (.row [5, 1]) (.pt 5)) := ⟨tr (df c19_5 c28_5 20 20), by kernel_rfl⟩
theorem t24_31_4 : FtOk (run (.row [3, 2]) (.row [5]) (.pt 4)) := ⟨tr (df c20_4 c27_4 12 4), by kernel_rfl⟩
theorem t25_32_4 : FtOk (run (.row [3, 2, 1]) (.row [5, 1]) (.pt 4)) := ⟨tr (df c21_4 c28_4 24 12), by kernel_rfl⟩
theorem t26_29_5 : FtOk (run (.row [3, 3]) (.row [4, 1, 1]) (.pt 5)) := ⟨tr (df c22_5 c25_5 10 30), by kernel_rfl⟩
theorem l29_19 : gB [.nil, .zero, .no, .long, .pt 0, .pt 1, .pt 2] (fun c => run (.row [4, 1, 1]) (.row [2, 2, 2]) c []) = true := by kernel_rfl
theorem t29_29_4 : FtOk (run (.row [4, 1, 1]) (.row [4, 1, 1]) (.pt 4)) := ⟨tr (df c25_4 c25_4 12 12), by kernel_rfl⟩
theorem t30_30_2 : FtOk (run (.row [4, 2]) (.row [4, 2]) (.pt 2)) := ⟨tr (df c26_2 c26_2 2 2), by kernel_rfl⟩
theorem l32_26 : gB [.nil, .zero, .no, .long, .pt 0, .pt 1] (fun c => run (.row [5, 1]) (.row [3, 3]) c []) = true := by kernel_rfl
theorem l33_26 : gB [.nil, .zero, .no, .long, .pt 0, .pt 1] (fun c => run (.row [6]) (.row [3, 3]) c []) = true := by kernel_rfl
end Go.Proofs.Ytnglbchhlpbgkaa.fnExactMeanSignRuns
