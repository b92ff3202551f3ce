/- Runs of the program at a seat. -/
import Derived.Test.YtnglbchhlpbgkaaSFnExactMeanSignP
namespace Go.Proofs.Ytnglbchhlpbgkaa.fnExactMeanSignRuns
open Go Go.Eng
set_option linter.unusedVariables false
set_option linter.unusedSectionVars false
set_option linter.unusedSimpArgs false
set_option maxRecDepth 100000
theorem w3_1 : gB L3_1 (fun b => gB pclasses (fun c => run .long b c [])) = true := by kernel_rfl
theorem t8_16_4 : FtOk (run (.row [1, 1, 1, 1]) (.row [2, 2]) (.pt 4)) := ⟨tr (df c4_4 c12_4 1 6), by kernel_rfl⟩
theorem t9_22_5 : FtOk (run (.row [1, 1, 1, 1, 1]) (.row [3, 1, 1]) (.pt 5)) := ⟨tr (df c5_5 c18_5 1 30), by kernel_rfl⟩
theorem l13_27 : gB [.nil, .zero, .no, .long, .pt 0, .pt 1, .pt 2] (fun c => run (.row [2, 1, 1]) (.row [4]) c []) = true := by kernel_rfl
theorem t16_21_5 : FtOk (run (.row [2, 2]) (.row [3, 1]) (.pt 5)) := ⟨tr (df c12_5 c17_5 10 20), by kernel_rfl⟩
theorem w17_0 : gB L17_0 (fun b => gB pclasses (fun c => run (.row [2, 2, 1]) b c [])) = true := by kernel_rfl
theorem w19_2 : gB L19_2 (fun b => gB pclasses (fun c => run (.row [2, 2, 2]) b c [])) = true := by kernel_rfl
theorem t22_17_3 : FtOk (run (.row [3, 1, 1]) (.row [2, 2, 1]) (.pt 3)) := ⟨tr (df c18_3 c13_3 3 3), by kernel_rfl⟩
theorem l23_18 : gB [.nil, .zero, .no, .long, .pt 0, .pt 1, .pt 2, .pt 3] (fun c => run (.row [3, 1, 1, 1]) (.row [2, 2, 1, 1]) c []) = true := by kernel_rfl
theorem t24_17_4 : FtOk (run (.row [3, 2]) (.row [2, 2, 1]) (.pt 4)) := ⟨tr (df c20_4 c13_4 12 12), by kernel_rfl⟩
theorem t25_19_4 : FtOk (run (.row [3, 2, 1]) (.row [2, 2, 2]) (.pt 4)) := ⟨tr (df c21_4 c15_4 24 4), by kernel_rfl⟩
theorem t26_15_5 : FtOk (run (.row [3, 3]) (.row [2, 1, 1, 1, 1]) (.pt 5)) := ⟨tr (df c22_5 c11_5 10 5), by kernel_rfl⟩
theorem w26_0 : gB L26_0 (fun b => gB pclasses (fun c => run (.row [3, 3]) b c [])) = true := by kernel_rfl
theorem t29_19_3 : FtOk (run (.row [4, 1, 1]) (.row [2, 2, 2]) (.pt 3)) := ⟨tr (df c25_3 c15_3 3 1), by kernel_rfl⟩
theorem t29_33_5 : FtOk (run (.row [4, 1, 1]) (.row [6]) (.pt 5)) := ⟨tr (df c25_5 c29_5 30 5), by kernel_rfl⟩
theorem t30_32_3 : FtOk (run (.row [4, 2]) (.row [5, 1]) (.pt 3)) := ⟨tr (df c26_3 c28_3 6 6), by kernel_rfl⟩
theorem t32_26_4 : FtOk (run (.row [5, 1]) (.row [3, 3]) (.pt 4)) := ⟨tr (df c28_4 c22_4 12 6), by kernel_rfl⟩
theorem t33_26_3 : FtOk (run (.row [6]) (.row [3, 3]) (.pt 3)) := ⟨tr (df c29_3 c22_3 3 3), by kernel_rfl⟩
end Go.Proofs.Ytnglbchhlpbgkaa.fnExactMeanSignRuns
