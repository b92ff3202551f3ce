/- Runs of the program at a seat. -/
import Derived.Test.YtnglbchhlpbgkaaSFnExactMeanSignP
namespace Go.Proofs.Ytnglbchhlpbgkaa.fnExactMeanSignRuns
open Go Go.Eng
set_option linter.unusedVariables false
set_option linter.unusedSectionVars false
set_option linter.unusedSimpArgs false
set_option maxRecDepth 100000
theorem w1_1 : gB L1_1 (fun b => gB pclasses (fun c => run .zero b c [])) = true := by kernel_rfl
theorem w4_3 : gB L4_3 (fun b => gB pclasses (fun c => run (.row []) b c [])) = true := by kernel_rfl
theorem t6_6_3 : FtOk (run (.row [1, 1]) (.row [1, 1]) (.pt 3)) := ⟨tr (df c2_3 c2_3 3 3), by kernel_rfl⟩
theorem t6_11_5 : FtOk (run (.row [1, 1]) (.row [2]) (.pt 5)) := ⟨tr (df c2_5 c7_5 10 5), by kernel_rfl⟩
theorem t7_20_3 : FtOk (run (.row [1, 1, 1]) (.row [3]) (.pt 3)) := ⟨tr (df c3_3 c16_3 1 3), by kernel_rfl⟩
theorem l8_8 : gB [.nil, .zero, .no, .long, .pt 0, .pt 1, .pt 2, .pt 3] (fun c => run (.row [1, 1, 1, 1]) (.row [1, 1, 1, 1]) c []) = true := by kernel_rfl
theorem t8_8_4 : FtOk (run (.row [1, 1, 1, 1]) (.row [1, 1, 1, 1]) (.pt 4)) := ⟨tr (df c4_4 c4_4 1 1), by kernel_rfl⟩
theorem t8_16_5 : FtOk (run (.row [1, 1, 1, 1]) (.row [2, 2]) (.pt 5)) := ⟨tr (df c4_5 c12_5 5 10), by kernel_rfl⟩
theorem w8_1 : gB L8_1 (fun b => gB pclasses (fun c => run (.row [1, 1, 1, 1]) b c [])) = true := by kernel_rfl
theorem t11_11_3 : FtOk (run (.row [2]) (.row [2]) (.pt 3)) := ⟨tr (df c7_3 c7_3 3 3), by kernel_rfl⟩
theorem w11_2 : gB L11_2 (fun b => gB pclasses (fun c => run (.row [2]) b c [])) = true := by kernel_rfl
theorem w13_1 : gB L13_1 (fun b => gB pclasses (fun c => run (.row [2, 1, 1]) b c [])) = true := by kernel_rfl
theorem t15_33_5 : FtOk (run (.row [2, 1, 1, 1, 1]) (.row [6]) (.pt 5)) := ⟨tr (df c11_5 c29_5 5 5), by kernel_rfl⟩
theorem l16_16 : gB [.nil, .zero, .no, .long, .pt 0, .pt 1] (fun c => run (.row [2, 2]) (.row [2, 2]) c []) = true := by kernel_rfl
theorem t16_16_3 : FtOk (run (.row [2, 2]) (.row [2, 2]) (.pt 3)) := ⟨tr (df c12_3 c12_3 3 3), by kernel_rfl⟩
theorem t16_21_3 : FtOk (run (.row [2, 2]) (.row [3, 1]) (.pt 3)) := ⟨tr (df c12_3 c17_3 3 6), by kernel_rfl⟩
theorem w16_1 : gB L16_1 (fun b => gB pclasses (fun c => run (.row [2, 2]) b c [])) = true := by kernel_rfl
theorem t18_26_5 : FtOk (run (.row [2, 2, 1, 1]) (.row [3, 3]) (.pt 5)) := ⟨tr (df c14_5 c22_5 30 10), by kernel_rfl⟩
theorem w18_1 : gB L18_1 (fun b => gB pclasses (fun c => run (.row [2, 2, 1, 1]) b c [])) = true := by kernel_rfl
theorem l20_20 : gB [.nil, .zero, .no, .long, .pt 0] (fun c => run (.row [3]) (.row [3]) c []) = true := by kernel_rfl
theorem t20_20_4 : FtOk (run (.row [3]) (.row [3]) (.pt 4)) := ⟨tr (df c16_4 c16_4 4 4), by kernel_rfl⟩
theorem l21_13 : gB [.nil, .zero, .no, .long, .pt 0, .pt 1, .pt 2] (fun c => run (.row [3, 1]) (.row [2, 1, 1]) c []) = true := by kernel_rfl
theorem t21_13_4 : FtOk (run (.row [3, 1]) (.row [2, 1, 1]) (.pt 4)) := ⟨tr (df c17_4 c9_4 12 12), by kernel_rfl⟩
theorem l21_21 : gB [.nil, .zero, .no, .long, .pt 0, .pt 1] (fun c => run (.row [3, 1]) (.row [3, 1]) c []) = true := by kernel_rfl
theorem t21_21_2 : FtOk (run (.row [3, 1]) (.row [3, 1]) (.pt 2)) := ⟨tr (df c17_2 c17_2 2 2), by kernel_rfl⟩
theorem t21_27_2 : FtOk (run (.row [3, 1]) (.row [4]) (.pt 2)) := ⟨tr (df c17_2 c23_2 2 2), by kernel_rfl⟩
theorem w21_0 : gB L21_0 (fun b => gB pclasses (fun c => run (.row [3, 1]) b c [])) = true := by kernel_rfl
theorem t23_25_5 : FtOk (run (.row [3, 1, 1, 1]) (.row [3, 2, 1]) (.pt 5)) := ⟨tr (df c19_5 c21_5 20 60), by kernel_rfl⟩
theorem w23_0 : gB L23_0 (fun b => gB pclasses (fun c => run (.row [3, 1, 1, 1]) b c [])) = true := by kernel_rfl
theorem t25_25_5 : FtOk (run (.row [3, 2, 1]) (.row [3, 2, 1]) (.pt 5)) := ⟨tr (df c21_5 c21_5 60 60), by kernel_rfl⟩
theorem t25_32_3 : FtOk (run (.row [3, 2, 1]) (.row [5, 1]) (.pt 3)) := ⟨tr (df c21_3 c28_3 6 6), by kernel_rfl⟩
theorem w25_2 : gB L25_2 (fun b => gB pclasses (fun c => run (.row [3, 2, 1]) b c [])) = true := by kernel_rfl
theorem t26_32_5 : FtOk (run (.row [3, 3]) (.row [5, 1]) (.pt 5)) := ⟨tr (df c22_5 c28_5 10 20), by kernel_rfl⟩
theorem l27_16 : gB [.nil, .zero, .no, .long, .pt 0, .pt 1] (fun c => run (.row [4]) (.row [2, 2]) c []) = true := by kernel_rfl
theorem t27_16_2 : FtOk (run (.row [4]) (.row [2, 2]) (.pt 2)) := ⟨tr (df c23_2 c12_2 2 1), by kernel_rfl⟩
theorem t27_21_4 : FtOk (run (.row [4]) (.row [3, 1]) (.pt 4)) := ⟨tr (df c23_4 c17_4 4 12), by kernel_rfl⟩
theorem l28_9 : gB [.nil, .zero, .no, .long, .pt 0, .pt 1, .pt 2, .pt 3, .pt 4] (fun c => run (.row [4, 1]) (.row [1, 1, 1, 1, 1]) c []) = true := by kernel_rfl
theorem t28_9_5 : FtOk (run (.row [4, 1]) (.row [1, 1, 1, 1, 1]) (.pt 5)) := ⟨tr (df c24_5 c5_5 20 1), by kernel_rfl⟩
theorem t28_22_5 : FtOk (run (.row [4, 1]) (.row [3, 1, 1]) (.pt 5)) := ⟨tr (df c24_5 c18_5 20 30), by kernel_rfl⟩
theorem t28_31_5 : FtOk (run (.row [4, 1]) (.row [5]) (.pt 5)) := ⟨tr (df c24_5 c27_5 20 5), by kernel_rfl⟩
theorem t29_19_5 : FtOk (run (.row [4, 1, 1]) (.row [2, 2, 2]) (.pt 5)) := ⟨tr (df c25_5 c15_5 30 10), by kernel_rfl⟩
theorem t29_29_3 : FtOk (run (.row [4, 1, 1]) (.row [4, 1, 1]) (.pt 3)) := ⟨tr (df c25_3 c25_3 3 3), by kernel_rfl⟩
theorem l29_33 : gB [.nil, .zero, .no, .long, .pt 0, .pt 1, .pt 2] (fun c => run (.row [4, 1, 1]) (.row [6]) c []) = true := by kernel_rfl
theorem t29_33_3 : FtOk (run (.row [4, 1, 1]) (.row [6]) (.pt 3)) := ⟨tr (df c25_3 c29_3 3 3), by kernel_rfl⟩
theorem l30_18 : gB [.nil, .zero, .no, .long, .pt 0, .pt 1, .pt 2, .pt 3] (fun c => run (.row [4, 2]) (.row [2, 2, 1, 1]) c []) = true := by kernel_rfl
theorem t30_18_5 : FtOk (run (.row [4, 2]) (.row [2, 2, 1, 1]) (.pt 5)) := ⟨tr (df c26_5 c14_5 20 30), by kernel_rfl⟩
theorem t30_26_3 : FtOk (run (.row [4, 2]) (.row [3, 3]) (.pt 3)) := ⟨tr (df c26_3 c22_3 6 3), by kernel_rfl⟩
theorem t30_30_4 : FtOk (run (.row [4, 2]) (.row [4, 2]) (.pt 4)) := ⟨tr (df c26_4 c26_4 12 12), by kernel_rfl⟩
theorem w30_1 : gB L30_1 (fun b => gB pclasses (fun c => run (.row [4, 2]) b c [])) = true := by kernel_rfl
theorem t32_26_3 : FtOk (run (.row [5, 1]) (.row [3, 3]) (.pt 3)) := ⟨tr (df c28_3 c22_3 6 3), by kernel_rfl⟩
theorem t32_30_2 : FtOk (run (.row [5, 1]) (.row [4, 2]) (.pt 2)) := ⟨tr (df c28_2 c26_2 2 2), by kernel_rfl⟩
theorem t32_32_4 : FtOk (run (.row [5, 1]) (.row [5, 1]) (.pt 4)) := ⟨tr (df c28_4 c28_4 12 12), by kernel_rfl⟩
theorem l33_15 : gB [.nil, .zero, .no, .long, .pt 0, .pt 1, .pt 2, .pt 3, .pt 4] (fun c => run (.row [6]) (.row [2, 1, 1, 1, 1]) c []) = true := by kernel_rfl
theorem t33_18_4 : FtOk (run (.row [6]) (.row [2, 2, 1, 1]) (.pt 4)) := ⟨tr (df c29_4 c14_4 4 6), by kernel_rfl⟩
theorem t33_25_5 : FtOk (run (.row [6]) (.row [3, 2, 1]) (.pt 5)) := ⟨tr (df c29_5 c21_5 5 60), by kernel_rfl⟩
theorem t33_30_5 : FtOk (run (.row [6]) (.row [4, 2]) (.pt 5)) := ⟨tr (df c29_5 c26_5 5 20), by kernel_rfl⟩
end Go.Proofs.Ytnglbchhlpbgkaa.fnExactMeanSignRuns
