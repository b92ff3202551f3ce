/- Runs of the program at a seat. -/
import Derived.Test.YtnglbchhlpbgkaaSFnExactMeanSignP
namespace Go.Proofs.Ytnglbchhlpbgkaa.fnExactMeanSignRuns
open Go Go.Eng
set_option linter.unusedVariables false
set_option linter.unusedSectionVars false
set_option linter.unusedSimpArgs false
set_option maxRecDepth 100000
theorem w0_3 : gB L0_3 (fun b => gB pclasses (fun c => run .nil b c [])) = true := by kernel_rfl
theorem w3_0 : gB L3_0 (fun b => gB pclasses (fun c => run .long b c [])) = true := by kernel_rfl
theorem t6_6_2 : FtOk (run (.row [1, 1]) (.row [1, 1]) (.pt 2)) := ⟨tr (df c2_2 c2_2 1 1), by kernel_rfl⟩
theorem t6_11_3 : FtOk (run (.row [1, 1]) (.row [2]) (.pt 3)) := ⟨tr (df c2_3 c7_3 3 3), by kernel_rfl⟩
theorem t7_7_4 : FtOk (run (.row [1, 1, 1]) (.row [1, 1, 1]) (.pt 4)) := ⟨tr (df c3_4 c3_4 4 4), by kernel_rfl⟩
theorem w7_0 : gB L7_0 (fun b => gB pclasses (fun c => run (.row [1, 1, 1]) b c [])) = true := by kernel_rfl
theorem l9_31 : gB [.nil, .zero, .no, .long, .pt 0, .pt 1, .pt 2, .pt 3, .pt 4] (fun c => run (.row [1, 1, 1, 1, 1]) (.row [5]) c []) = true := by kernel_rfl
theorem w9_1 : gB L9_1 (fun b => gB pclasses (fun c => run (.row [1, 1, 1, 1, 1]) b c [])) = true := by kernel_rfl
theorem l12_12 : gB [.nil, .zero, .no, .long, .pt 0, .pt 1] (fun c => run (.row [2, 1]) (.row [2, 1]) c []) = true := by kernel_rfl
theorem t12_12_4 : FtOk (run (.row [2, 1]) (.row [2, 1]) (.pt 4)) := ⟨tr (df c8_4 c8_4 12 12), by kernel_rfl⟩
theorem w12_2 : gB L12_2 (fun b => gB pclasses (fun c => run (.row [2, 1]) b c [])) = true := by kernel_rfl
theorem t14_31_4 : FtOk (run (.row [2, 1, 1, 1]) (.row [5]) (.pt 4)) := ⟨tr (df c10_4 c27_4 4 4), by kernel_rfl⟩
theorem l15_19 : gB [.nil, .zero, .no, .long, .pt 0, .pt 1, .pt 2, .pt 3, .pt 4] (fun c => run (.row [2, 1, 1, 1, 1]) (.row [2, 2, 2]) c []) = true := by kernel_rfl
theorem l15_23 : gB [.nil, .zero, .no, .long, .pt 0, .pt 1, .pt 2, .pt 3, .pt 4] (fun c => run (.row [2, 1, 1, 1, 1]) (.row [3, 1, 1, 1]) c []) = true := by kernel_rfl
theorem l15_25 : gB [.nil, .zero, .no, .long, .pt 0, .pt 1, .pt 2, .pt 3, .pt 4] (fun c => run (.row [2, 1, 1, 1, 1]) (.row [3, 2, 1]) c []) = true := by kernel_rfl
theorem l15_26 : gB [.nil, .zero, .no, .long, .pt 0, .pt 1, .pt 2, .pt 3, .pt 4] (fun c => run (.row [2, 1, 1, 1, 1]) (.row [3, 3]) c []) = true := by kernel_rfl
theorem t15_26_5 : FtOk (run (.row [2, 1, 1, 1, 1]) (.row [3, 3]) (.pt 5)) := ⟨tr (df c11_5 c22_5 5 10), by kernel_rfl⟩
theorem t16_8_5 : FtOk (run (.row [2, 2]) (.row [1, 1, 1, 1]) (.pt 5)) := ⟨tr (df c12_5 c4_5 10 5), by kernel_rfl⟩
theorem t16_16_4 : FtOk (run (.row [2, 2]) (.row [2, 2]) (.pt 4)) := ⟨tr (df c12_4 c12_4 6 6), by kernel_rfl⟩
theorem t16_27_5 : FtOk (run (.row [2, 2]) (.row [4]) (.pt 5)) := ⟨tr (df c12_5 c23_5 10 5), by kernel_rfl⟩
theorem t17_17_5 : FtOk (run (.row [2, 2, 1]) (.row [2, 2, 1]) (.pt 5)) := ⟨tr (df c13_5 c13_5 30 30), by kernel_rfl⟩
theorem l17_31 : gB [.nil, .zero, .no, .long, .pt 0, .pt 1, .pt 2] (fun c => run (.row [2, 2, 1]) (.row [5]) c []) = true := by kernel_rfl
theorem t17_31_3 : FtOk (run (.row [2, 2, 1]) (.row [5]) (.pt 3)) := ⟨tr (df c13_3 c27_3 3 3), by kernel_rfl⟩
theorem t18_18_4 : FtOk (run (.row [2, 2, 1, 1]) (.row [2, 2, 1, 1]) (.pt 4)) := ⟨tr (df c14_4 c14_4 6 6), by kernel_rfl⟩
theorem t18_23_5 : FtOk (run (.row [2, 2, 1, 1]) (.row [3, 1, 1, 1]) (.pt 5)) := ⟨tr (df c14_5 c19_5 30 20), by kernel_rfl⟩
theorem l18_32 : gB [.nil, .zero, .no, .long, .pt 0, .pt 1, .pt 2, .pt 3] (fun c => run (.row [2, 2, 1, 1]) (.row [5, 1]) c []) = true := by kernel_rfl
theorem l18_33 : gB [.nil, .zero, .no, .long, .pt 0, .pt 1, .pt 2, .pt 3] (fun c => run (.row [2, 2, 1, 1]) (.row [6]) c []) = true := by kernel_rfl
theorem t18_33_4 : FtOk (run (.row [2, 2, 1, 1]) (.row [6]) (.pt 4)) := ⟨tr (df c14_4 c29_4 6 4), by kernel_rfl⟩
theorem l19_19 : gB [.nil, .zero, .no, .long, .pt 0, .pt 1, .pt 2] (fun c => run (.row [2, 2, 2]) (.row [2, 2, 2]) c []) = true := by kernel_rfl
theorem t19_19_4 : FtOk (run (.row [2, 2, 2]) (.row [2, 2, 2]) (.pt 4)) := ⟨tr (df c15_4 c15_4 4 4), by kernel_rfl⟩
theorem t19_26_5 : FtOk (run (.row [2, 2, 2]) (.row [3, 3]) (.pt 5)) := ⟨tr (df c15_5 c22_5 10 10), by kernel_rfl⟩
theorem t19_33_4 : FtOk (run (.row [2, 2, 2]) (.row [6]) (.pt 4)) := ⟨tr (df c15_4 c29_4 4 4), by kernel_rfl⟩
theorem t20_12_3 : FtOk (run (.row [3]) (.row [2, 1]) (.pt 3)) := ⟨tr (df c16_3 c8_3 3 6), by kernel_rfl⟩
theorem w20_1 : gB L20_1 (fun b => gB pclasses (fun c => run (.row [3]) b c [])) = true := by kernel_rfl
theorem t22_22_5 : FtOk (run (.row [3, 1, 1]) (.row [3, 1, 1]) (.pt 5)) := ⟨tr (df c18_5 c18_5 30 30), by kernel_rfl⟩
theorem w22_2 : gB L22_2 (fun b => gB pclasses (fun c => run (.row [3, 1, 1]) b c [])) = true := by kernel_rfl
theorem l24_24 : gB [.nil, .zero, .no, .long, .pt 0, .pt 1] (fun c => run (.row [3, 2]) (.row [3, 2]) c []) = true := by kernel_rfl
theorem t24_24_3 : FtOk (run (.row [3, 2]) (.row [3, 2]) (.pt 3)) := ⟨tr (df c20_3 c20_3 6 6), by kernel_rfl⟩
theorem l24_31 : gB [.nil, .zero, .no, .long, .pt 0, .pt 1] (fun c => run (.row [3, 2]) (.row [5]) c []) = true := by kernel_rfl
theorem t24_31_3 : FtOk (run (.row [3, 2]) (.row [5]) (.pt 3)) := ⟨tr (df c20_3 c27_3 6 3), by kernel_rfl⟩
theorem t25_18_5 : FtOk (run (.row [3, 2, 1]) (.row [2, 2, 1, 1]) (.pt 5)) := ⟨tr (df c21_5 c14_5 60 30), by kernel_rfl⟩
theorem t25_26_3 : FtOk (run (.row [3, 2, 1]) (.row [3, 3]) (.pt 3)) := ⟨tr (df c21_3 c22_3 6 3), by kernel_rfl⟩
theorem l25_30 : gB [.nil, .zero, .no, .long, .pt 0, .pt 1, .pt 2] (fun c => run (.row [3, 2, 1]) (.row [4, 2]) c []) = true := by kernel_rfl
theorem t25_30_4 : FtOk (run (.row [3, 2, 1]) (.row [4, 2]) (.pt 4)) := ⟨tr (df c21_4 c26_4 24 12), by kernel_rfl⟩
theorem w25_1 : gB L25_1 (fun b => gB pclasses (fun c => run (.row [3, 2, 1]) b c [])) = true := by kernel_rfl
theorem t27_16_4 : FtOk (run (.row [4]) (.row [2, 2]) (.pt 4)) := ⟨tr (df c23_4 c12_4 4 6), by kernel_rfl⟩
theorem w27_0 : gB L27_0 (fun b => gB pclasses (fun c => run (.row [4]) b c [])) = true := by kernel_rfl
theorem l29_23 : gB [.nil, .zero, .no, .long, .pt 0, .pt 1, .pt 2, .pt 3] (fun c => run (.row [4, 1, 1]) (.row [3, 1, 1, 1]) c []) = true := by kernel_rfl
theorem l29_25 : gB [.nil, .zero, .no, .long, .pt 0, .pt 1, .pt 2] (fun c => run (.row [4, 1, 1]) (.row [3, 2, 1]) c []) = true := by kernel_rfl
theorem t29_25_5 : FtOk (run (.row [4, 1, 1]) (.row [3, 2, 1]) (.pt 5)) := ⟨tr (df c25_5 c21_5 30 60), by kernel_rfl⟩
theorem t29_32_3 : FtOk (run (.row [4, 1, 1]) (.row [5, 1]) (.pt 3)) := ⟨tr (df c25_3 c28_3 3 6), by kernel_rfl⟩
theorem w29_0 : gB L29_0 (fun b => gB pclasses (fun c => run (.row [4, 1, 1]) b c [])) = true := by kernel_rfl
theorem l31_22 : gB [.nil, .zero, .no, .long, .pt 0, .pt 1, .pt 2] (fun c => run (.row [5]) (.row [3, 1, 1]) c []) = true := by kernel_rfl
theorem t31_22_5 : FtOk (run (.row [5]) (.row [3, 1, 1]) (.pt 5)) := ⟨tr (df c27_5 c18_5 5 30), by kernel_rfl⟩
theorem t31_31_4 : FtOk (run (.row [5]) (.row [5]) (.pt 4)) := ⟨tr (df c27_4 c27_4 4 4), by kernel_rfl⟩
theorem t32_19_5 : FtOk (run (.row [5, 1]) (.row [2, 2, 2]) (.pt 5)) := ⟨tr (df c28_5 c15_5 20 10), by kernel_rfl⟩
theorem t32_26_5 : FtOk (run (.row [5, 1]) (.row [3, 3]) (.pt 5)) := ⟨tr (df c28_5 c22_5 20 10), by kernel_rfl⟩
theorem t32_32_5 : FtOk (run (.row [5, 1]) (.row [5, 1]) (.pt 5)) := ⟨tr (df c28_5 c28_5 20 20), by kernel_rfl⟩
theorem t33_19_3 : FtOk (run (.row [6]) (.row [2, 2, 2]) (.pt 3)) := ⟨tr (df c29_3 c15_3 3 1), by kernel_rfl⟩
theorem t33_25_4 : FtOk (run (.row [6]) (.row [3, 2, 1]) (.pt 4)) := ⟨tr (df c29_4 c21_4 4 24), by kernel_rfl⟩
theorem t33_30_3 : FtOk (run (.row [6]) (.row [4, 2]) (.pt 3)) := ⟨tr (df c29_3 c26_3 3 6), by kernel_rfl⟩
theorem t33_33_2 : FtOk (run (.row [6]) (.row [6]) (.pt 2)) := ⟨tr (df c29_2 c29_2 2 2), by kernel_rfl⟩
end Go.Proofs.Ytnglbchhlpbgkaa.fnExactMeanSignRuns
