/- Runs of the program at a seat. -/
import Derived.Test.YtnglbchhlpbgkaaSFnExactMeanSignP
namespace Go.Proofs.Ytnglbchhlpbgkaa.fnExactMeanSignRuns
open Go Go.Eng
set_option linter.unusedVariables false
set_option linter.unusedSectionVars false
set_option linter.unusedSimpArgs false
set_option maxRecDepth 100000
theorem w0_2 : gB L0_2 (fun b => gB pclasses (fun c => run .nil b c [])) = true := by kernel_rfl
theorem w4_1 : gB L4_1 (fun b => gB pclasses (fun c => run (.row []) b c [])) = true := by kernel_rfl
theorem w6_1 : gB L6_1 (fun b => gB pclasses (fun c => run (.row [1, 1]) b c [])) = true := by kernel_rfl
theorem l9_9 : gB [.nil, .zero, .no, .long, .pt 0, .pt 1, .pt 2, .pt 3, .pt 4] (fun c => run (.row [1, 1, 1, 1, 1]) (.row [1, 1, 1, 1, 1]) c []) = true := by kernel_rfl
theorem t9_14_5 : FtOk (run (.row [1, 1, 1, 1, 1]) (.row [2, 1, 1, 1]) (.pt 5)) := ⟨tr (df c5_5 c10_5 1 20), by kernel_rfl⟩
theorem w9_0 : gB L9_0 (fun b => gB pclasses (fun c => run (.row [1, 1, 1, 1, 1]) b c [])) = true := by kernel_rfl
theorem t12_7_5 : FtOk (run (.row [2, 1]) (.row [1, 1, 1]) (.pt 5)) := ⟨tr (df c8_5 c3_5 20 10), by kernel_rfl⟩
theorem l13_8 : gB [.nil, .zero, .no, .long, .pt 0, .pt 1, .pt 2, .pt 3] (fun c => run (.row [2, 1, 1]) (.row [1, 1, 1, 1]) c []) = true := by kernel_rfl
theorem t13_8_4 : FtOk (run (.row [2, 1, 1]) (.row [1, 1, 1, 1]) (.pt 4)) := ⟨tr (df c9_4 c4_4 12 1), by kernel_rfl⟩
theorem l13_16 : gB [.nil, .zero, .no, .long, .pt 0, .pt 1, .pt 2] (fun c => run (.row [2, 1, 1]) (.row [2, 2]) c []) = true := by kernel_rfl
theorem t13_16_4 : FtOk (run (.row [2, 1, 1]) (.row [2, 2]) (.pt 4)) := ⟨tr (df c9_4 c12_4 12 6), by kernel_rfl⟩
theorem w13_0 : gB L13_0 (fun b => gB pclasses (fun c => run (.row [2, 1, 1]) b c [])) = true := by kernel_rfl
theorem t15_32_5 : FtOk (run (.row [2, 1, 1, 1, 1]) (.row [5, 1]) (.pt 5)) := ⟨tr (df c11_5 c28_5 5 20), by kernel_rfl⟩
theorem t16_13_5 : FtOk (run (.row [2, 2]) (.row [2, 1, 1]) (.pt 5)) := ⟨tr (df c12_5 c9_5 10 30), by kernel_rfl⟩
theorem l16_27 : gB [.nil, .zero, .no, .long, .pt 0, .pt 1] (fun c => run (.row [2, 2]) (.row [4]) c []) = true := by kernel_rfl
theorem t16_27_4 : FtOk (run (.row [2, 2]) (.row [4]) (.pt 4)) := ⟨tr (df c12_4 c23_4 6 4), by kernel_rfl⟩
theorem t17_17_3 : FtOk (run (.row [2, 2, 1]) (.row [2, 2, 1]) (.pt 3)) := ⟨tr (df c13_3 c13_3 3 3), by kernel_rfl⟩
theorem t17_22_5 : FtOk (run (.row [2, 2, 1]) (.row [3, 1, 1]) (.pt 5)) := ⟨tr (df c13_5 c18_5 30 30), by kernel_rfl⟩
theorem w17_2 : gB L17_2 (fun b => gB pclasses (fun c => run (.row [2, 2, 1]) b c [])) = true := by kernel_rfl
theorem t19_25_3 : FtOk (run (.row [2, 2, 2]) (.row [3, 2, 1]) (.pt 3)) := ⟨tr (df c15_3 c21_3 1 6), by kernel_rfl⟩
theorem l19_29 : gB [.nil, .zero, .no, .long, .pt 0, .pt 1, .pt 2] (fun c => run (.row [2, 2, 2]) (.row [4, 1, 1]) c []) = true := by kernel_rfl
theorem t19_29_3 : FtOk (run (.row [2, 2, 2]) (.row [4, 1, 1]) (.pt 3)) := ⟨tr (df c15_3 c25_3 1 3), by kernel_rfl⟩
theorem l19_33 : gB [.nil, .zero, .no, .long, .pt 0, .pt 1, .pt 2] (fun c => run (.row [2, 2, 2]) (.row [6]) c []) = true := by kernel_rfl
theorem t19_33_3 : FtOk (run (.row [2, 2, 2]) (.row [6]) (.pt 3)) := ⟨tr (df c15_3 c29_3 1 3), by kernel_rfl⟩
theorem l20_12 : gB [.nil, .zero, .no, .long, .pt 0, .pt 1] (fun c => run (.row [3]) (.row [2, 1]) c []) = true := by kernel_rfl
theorem t20_12_2 : FtOk (run (.row [3]) (.row [2, 1]) (.pt 2)) := ⟨tr (df c16_2 c8_2 2 2), by kernel_rfl⟩
theorem t20_20_3 : FtOk (run (.row [3]) (.row [3]) (.pt 3)) := ⟨tr (df c16_3 c16_3 3 3), by kernel_rfl⟩
theorem t21_8_4 : FtOk (run (.row [3, 1]) (.row [1, 1, 1, 1]) (.pt 4)) := ⟨tr (df c17_4 c4_4 12 1), by kernel_rfl⟩
theorem l21_16 : gB [.nil, .zero, .no, .long, .pt 0, .pt 1] (fun c => run (.row [3, 1]) (.row [2, 2]) c []) = true := by kernel_rfl
theorem t21_16_3 : FtOk (run (.row [3, 1]) (.row [2, 2]) (.pt 3)) := ⟨tr (df c17_3 c12_3 6 3), by kernel_rfl⟩
theorem t21_21_5 : FtOk (run (.row [3, 1]) (.row [3, 1]) (.pt 5)) := ⟨tr (df c17_5 c17_5 20 20), by kernel_rfl⟩
theorem t22_14_5 : FtOk (run (.row [3, 1, 1]) (.row [2, 1, 1, 1]) (.pt 5)) := ⟨tr (df c18_5 c10_5 30 20), by kernel_rfl⟩
theorem l22_28 : gB [.nil, .zero, .no, .long, .pt 0, .pt 1, .pt 2] (fun c => run (.row [3, 1, 1]) (.row [4, 1]) c []) = true := by kernel_rfl
theorem t22_28_3 : FtOk (run (.row [3, 1, 1]) (.row [4, 1]) (.pt 3)) := ⟨tr (df c18_3 c24_3 3 6), by kernel_rfl⟩
theorem w22_1 : gB L22_1 (fun b => gB pclasses (fun c => run (.row [3, 1, 1]) b c [])) = true := by kernel_rfl
theorem t24_22_3 : FtOk (run (.row [3, 2]) (.row [3, 1, 1]) (.pt 3)) := ⟨tr (df c20_3 c18_3 6 3), by kernel_rfl⟩
theorem t24_28_4 : FtOk (run (.row [3, 2]) (.row [4, 1]) (.pt 4)) := ⟨tr (df c20_4 c24_4 12 12), by kernel_rfl⟩
theorem t25_15_5 : FtOk (run (.row [3, 2, 1]) (.row [2, 1, 1, 1, 1]) (.pt 5)) := ⟨tr (df c21_5 c11_5 60 5), by kernel_rfl⟩
theorem t25_25_4 : FtOk (run (.row [3, 2, 1]) (.row [3, 2, 1]) (.pt 4)) := ⟨tr (df c21_4 c21_4 24 24), by kernel_rfl⟩
theorem t25_30_3 : FtOk (run (.row [3, 2, 1]) (.row [4, 2]) (.pt 3)) := ⟨tr (df c21_3 c26_3 6 6), by kernel_rfl⟩
theorem t25_33_5 : FtOk (run (.row [3, 2, 1]) (.row [6]) (.pt 5)) := ⟨tr (df c21_5 c29_5 60 5), by kernel_rfl⟩
theorem t26_23_4 : FtOk (run (.row [3, 3]) (.row [3, 1, 1, 1]) (.pt 4)) := ⟨tr (df c22_4 c19_4 6 4), by kernel_rfl⟩
theorem l26_29 : gB [.nil, .zero, .no, .long, .pt 0, .pt 1, .pt 2] (fun c => run (.row [3, 3]) (.row [4, 1, 1]) c []) = true := by kernel_rfl
theorem t26_29_4 : FtOk (run (.row [3, 3]) (.row [4, 1, 1]) (.pt 4)) := ⟨tr (df c22_4 c25_4 6 12), by kernel_rfl⟩
theorem l26_33 : gB [.nil, .zero, .no, .long, .pt 0, .pt 1] (fun c => run (.row [3, 3]) (.row [6]) c []) = true := by kernel_rfl
theorem t26_33_4 : FtOk (run (.row [3, 3]) (.row [6]) (.pt 4)) := ⟨tr (df c22_4 c29_4 6 4), by kernel_rfl⟩
theorem t27_13_5 : FtOk (run (.row [4]) (.row [2, 1, 1]) (.pt 5)) := ⟨tr (df c23_5 c9_5 5 30), by kernel_rfl⟩
theorem t27_27_5 : FtOk (run (.row [4]) (.row [4]) (.pt 5)) := ⟨tr (df c23_5 c23_5 5 5), by kernel_rfl⟩
theorem t28_17_5 : FtOk (run (.row [4, 1]) (.row [2, 2, 1]) (.pt 5)) := ⟨tr (df c24_5 c13_5 20 30), by kernel_rfl⟩
theorem t28_28_4 : FtOk (run (.row [4, 1]) (.row [4, 1]) (.pt 4)) := ⟨tr (df c24_4 c24_4 12 12), by kernel_rfl⟩
theorem t29_15_5 : FtOk (run (.row [4, 1, 1]) (.row [2, 1, 1, 1, 1]) (.pt 5)) := ⟨tr (df c25_5 c11_5 30 5), by kernel_rfl⟩
theorem t29_25_4 : FtOk (run (.row [4, 1, 1]) (.row [3, 2, 1]) (.pt 4)) := ⟨tr (df c25_4 c21_4 12 24), by kernel_rfl⟩
theorem t29_30_3 : FtOk (run (.row [4, 1, 1]) (.row [4, 2]) (.pt 3)) := ⟨tr (df c25_3 c26_3 3 6), by kernel_rfl⟩
theorem t29_33_4 : FtOk (run (.row [4, 1, 1]) (.row [6]) (.pt 4)) := ⟨tr (df c25_4 c29_4 12 4), by kernel_rfl⟩
theorem t30_19_3 : FtOk (run (.row [4, 2]) (.row [2, 2, 2]) (.pt 3)) := ⟨tr (df c26_3 c15_3 6 1), by kernel_rfl⟩
theorem t30_25_5 : FtOk (run (.row [4, 2]) (.row [3, 2, 1]) (.pt 5)) := ⟨tr (df c26_5 c21_5 20 60), by kernel_rfl⟩
theorem t30_30_5 : FtOk (run (.row [4, 2]) (.row [4, 2]) (.pt 5)) := ⟨tr (df c26_5 c26_5 20 20), by kernel_rfl⟩
theorem t31_14_5 : FtOk (run (.row [5]) (.row [2, 1, 1, 1]) (.pt 5)) := ⟨tr (df c27_5 c10_5 5 20), by kernel_rfl⟩
theorem t31_24_5 : FtOk (run (.row [5]) (.row [3, 2]) (.pt 5)) := ⟨tr (df c27_5 c20_5 5 20), by kernel_rfl⟩
theorem t32_15_5 : FtOk (run (.row [5, 1]) (.row [2, 1, 1, 1, 1]) (.pt 5)) := ⟨tr (df c28_5 c11_5 20 5), by kernel_rfl⟩
theorem t32_25_4 : FtOk (run (.row [5, 1]) (.row [3, 2, 1]) (.pt 4)) := ⟨tr (df c28_4 c21_4 12 24), by kernel_rfl⟩
theorem l32_30 : gB [.nil, .zero, .no, .long, .pt 0, .pt 1] (fun c => run (.row [5, 1]) (.row [4, 2]) c []) = true := by kernel_rfl
theorem t32_30_4 : FtOk (run (.row [5, 1]) (.row [4, 2]) (.pt 4)) := ⟨tr (df c28_4 c26_4 12 12), by kernel_rfl⟩
theorem w32_0 : gB L32_0 (fun b => gB pclasses (fun c => run (.row [5, 1]) b c [])) = true := by kernel_rfl
end Go.Proofs.Ytnglbchhlpbgkaa.fnExactMeanSignRuns
