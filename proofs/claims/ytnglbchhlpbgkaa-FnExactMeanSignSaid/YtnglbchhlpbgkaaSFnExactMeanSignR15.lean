/- Runs of the program at a seat. -/
import Derived.Test.YtnglbchhlpbgkaaSFnExactMeanSignP
namespace Go.Proofs.Ytnglbchhlpbgkaa.fnExactMeanSignRuns
open Go Go.Eng
set_option linter.unusedVariables false
set_option linter.unusedSectionVars false
set_option linter.unusedSimpArgs false
set_option maxRecDepth 100000
theorem t6_6_5 : FtOk (run (.row [1, 1]) (.row [1, 1]) (.pt 5)) := ⟨tr (df c2_5 c2_5 10 10), by kernel_rfl⟩
theorem t13_16_5 : FtOk (run (.row [2, 1, 1]) (.row [2, 2]) (.pt 5)) := ⟨tr (df c9_5 c12_5 30 10), by kernel_rfl⟩
theorem t14_24_4 : FtOk (run (.row [2, 1, 1, 1]) (.row [3, 2]) (.pt 4)) := ⟨tr (df c10_4 c20_4 4 12), by kernel_rfl⟩
theorem t18_26_4 : FtOk (run (.row [2, 2, 1, 1]) (.row [3, 3]) (.pt 4)) := ⟨tr (df c14_4 c22_4 6 6), by kernel_rfl⟩
theorem l19_26 : gB [.nil, .zero, .no, .long, .pt 0, .pt 1, .pt 2] (fun c => run (.row [2, 2, 2]) (.row [3, 3]) c []) = true := by kernel_rfl
theorem t19_33_5 : FtOk (run (.row [2, 2, 2]) (.row [6]) (.pt 5)) := ⟨tr (df c15_5 c29_5 10 5), by kernel_rfl⟩
theorem t22_24_4 : FtOk (run (.row [3, 1, 1]) (.row [3, 2]) (.pt 4)) := ⟨tr (df c18_4 c20_4 12 12), by kernel_rfl⟩
theorem t24_22_4 : FtOk (run (.row [3, 2]) (.row [3, 1, 1]) (.pt 4)) := ⟨tr (df c20_4 c18_4 12 12), by kernel_rfl⟩
theorem l26_25 : gB [.nil, .zero, .no, .long, .pt 0, .pt 1, .pt 2] (fun c => run (.row [3, 3]) (.row [3, 2, 1]) c []) = true := by kernel_rfl
theorem t26_33_3 : FtOk (run (.row [3, 3]) (.row [6]) (.pt 3)) := ⟨tr (df c22_3 c29_3 3 3), by kernel_rfl⟩
theorem t27_21_3 : FtOk (run (.row [4]) (.row [3, 1]) (.pt 3)) := ⟨tr (df c23_3 c17_3 3 6), by kernel_rfl⟩
theorem t29_30_5 : FtOk (run (.row [4, 1, 1]) (.row [4, 2]) (.pt 5)) := ⟨tr (df c25_5 c26_5 30 20), by kernel_rfl⟩
theorem t30_26_2 : FtOk (run (.row [4, 2]) (.row [3, 3]) (.pt 2)) := ⟨tr (df c26_2 c22_2 2 1), by kernel_rfl⟩
theorem t32_26_2 : FtOk (run (.row [5, 1]) (.row [3, 3]) (.pt 2)) := ⟨tr (df c28_2 c22_2 2 1), by kernel_rfl⟩
theorem w32_1 : gB L32_1 (fun b => gB pclasses (fun c => run (.row [5, 1]) b c [])) = true := by kernel_rfl
end Go.Proofs.Ytnglbchhlpbgkaa.fnExactMeanSignRuns
