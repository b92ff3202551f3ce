/- Runs of the program at a seat. -/
import Derived.Test.YtnglbchhlpbgkaaSFnExactMeanSignP
namespace Go.Proofs.Ytnglbchhlpbgkaa.fnExactMeanSignRuns
open Go Go.Eng
set_option linter.unusedVariables false
set_option linter.unusedSectionVars false
set_option linter.unusedSimpArgs false
set_option maxRecDepth 100000
theorem w0_0 : gB L0_0 (fun b => gB pclasses (fun c => run .nil b c [])) = true := by kernel_rfl
theorem w3_3 : gB L3_3 (fun b => gB pclasses (fun c => run .long b c [])) = true := by kernel_rfl
theorem l6_6 : gB [.nil, .zero, .no, .long, .pt 0, .pt 1] (fun c => run (.row [1, 1]) (.row [1, 1]) c []) = true := by kernel_rfl
theorem l6_11 : gB [.nil, .zero, .no, .long, .pt 0, .pt 1] (fun c => run (.row [1, 1]) (.row [2]) c []) = true := by kernel_rfl
theorem t6_11_2 : FtOk (run (.row [1, 1]) (.row [2]) (.pt 2)) := ⟨tr (df c2_2 c7_2 1 2), by kernel_rfl⟩
theorem t6_11_4 : FtOk (run (.row [1, 1]) (.row [2]) (.pt 4)) := ⟨tr (df c2_4 c7_4 6 4), by kernel_rfl⟩
theorem t7_12_4 : FtOk (run (.row [1, 1, 1]) (.row [2, 1]) (.pt 4)) := ⟨tr (df c3_4 c8_4 4 12), by kernel_rfl⟩
theorem w7_3 : gB L7_3 (fun b => gB pclasses (fun c => run (.row [1, 1, 1]) b c [])) = true := by kernel_rfl
theorem t8_27_5 : FtOk (run (.row [1, 1, 1, 1]) (.row [4]) (.pt 5)) := ⟨tr (df c4_5 c23_5 5 5), by kernel_rfl⟩
theorem l9_24 : gB [.nil, .zero, .no, .long, .pt 0, .pt 1, .pt 2, .pt 3, .pt 4] (fun c => run (.row [1, 1, 1, 1, 1]) (.row [3, 2]) c []) = true := by kernel_rfl
theorem t9_24_5 : FtOk (run (.row [1, 1, 1, 1, 1]) (.row [3, 2]) (.pt 5)) := ⟨tr (df c5_5 c20_5 1 20), by kernel_rfl⟩
theorem w10_3 : gB L10_3 (fun b => gB pclasses (fun c => run (.row [1, 1, 1, 1, 1, 1]) b c [])) = true := by kernel_rfl
theorem l12_7 : gB [.nil, .zero, .no, .long, .pt 0, .pt 1, .pt 2] (fun c => run (.row [2, 1]) (.row [1, 1, 1]) c []) = true := by kernel_rfl
theorem t12_7_3 : FtOk (run (.row [2, 1]) (.row [1, 1, 1]) (.pt 3)) := ⟨tr (df c8_3 c3_3 6 1), by kernel_rfl⟩
theorem t12_20_2 : FtOk (run (.row [2, 1]) (.row [3]) (.pt 2)) := ⟨tr (df c8_2 c16_2 2 2), by kernel_rfl⟩
theorem w12_1 : gB L12_1 (fun b => gB pclasses (fun c => run (.row [2, 1]) b c [])) = true := by kernel_rfl
theorem t14_24_5 : FtOk (run (.row [2, 1, 1, 1]) (.row [3, 2]) (.pt 5)) := ⟨tr (df c10_5 c20_5 20 20), by kernel_rfl⟩
theorem t15_18_5 : FtOk (run (.row [2, 1, 1, 1, 1]) (.row [2, 2, 1, 1]) (.pt 5)) := ⟨tr (df c11_5 c14_5 5 30), by kernel_rfl⟩
theorem t15_29_5 : FtOk (run (.row [2, 1, 1, 1, 1]) (.row [4, 1, 1]) (.pt 5)) := ⟨tr (df c11_5 c25_5 5 30), by kernel_rfl⟩
theorem l16_13 : gB [.nil, .zero, .no, .long, .pt 0, .pt 1, .pt 2] (fun c => run (.row [2, 2]) (.row [2, 1, 1]) c []) = true := by kernel_rfl
theorem t16_13_4 : FtOk (run (.row [2, 2]) (.row [2, 1, 1]) (.pt 4)) := ⟨tr (df c12_4 c9_4 6 12), by kernel_rfl⟩
theorem t16_21_4 : FtOk (run (.row [2, 2]) (.row [3, 1]) (.pt 4)) := ⟨tr (df c12_4 c17_4 6 12), by kernel_rfl⟩
theorem t17_9_5 : FtOk (run (.row [2, 2, 1]) (.row [1, 1, 1, 1, 1]) (.pt 5)) := ⟨tr (df c13_5 c5_5 30 1), by kernel_rfl⟩
theorem l17_24 : gB [.nil, .zero, .no, .long, .pt 0, .pt 1, .pt 2] (fun c => run (.row [2, 2, 1]) (.row [3, 2]) c []) = true := by kernel_rfl
theorem t17_24_3 : FtOk (run (.row [2, 2, 1]) (.row [3, 2]) (.pt 3)) := ⟨tr (df c13_3 c20_3 3 6), by kernel_rfl⟩
theorem t17_31_5 : FtOk (run (.row [2, 2, 1]) (.row [5]) (.pt 5)) := ⟨tr (df c13_5 c27_5 30 5), by kernel_rfl⟩
theorem l18_23 : gB [.nil, .zero, .no, .long, .pt 0, .pt 1, .pt 2, .pt 3] (fun c => run (.row [2, 2, 1, 1]) (.row [3, 1, 1, 1]) c []) = true := by kernel_rfl
theorem t18_23_4 : FtOk (run (.row [2, 2, 1, 1]) (.row [3, 1, 1, 1]) (.pt 4)) := ⟨tr (df c14_4 c19_4 6 4), by kernel_rfl⟩
theorem t18_30_5 : FtOk (run (.row [2, 2, 1, 1]) (.row [4, 2]) (.pt 5)) := ⟨tr (df c14_5 c26_5 30 20), by kernel_rfl⟩
theorem l19_18 : gB [.nil, .zero, .no, .long, .pt 0, .pt 1, .pt 2, .pt 3] (fun c => run (.row [2, 2, 2]) (.row [2, 2, 1, 1]) c []) = true := by kernel_rfl
theorem t19_18_4 : FtOk (run (.row [2, 2, 2]) (.row [2, 2, 1, 1]) (.pt 4)) := ⟨tr (df c15_4 c14_4 4 6), by kernel_rfl⟩
theorem t19_23_5 : FtOk (run (.row [2, 2, 2]) (.row [3, 1, 1, 1]) (.pt 5)) := ⟨tr (df c15_5 c19_5 10 20), by kernel_rfl⟩
theorem t19_30_5 : FtOk (run (.row [2, 2, 2]) (.row [4, 2]) (.pt 5)) := ⟨tr (df c15_5 c26_5 10 20), by kernel_rfl⟩
theorem t20_7_4 : FtOk (run (.row [3]) (.row [1, 1, 1]) (.pt 4)) := ⟨tr (df c16_4 c3_4 4 4), by kernel_rfl⟩
theorem w20_0 : gB L20_0 (fun b => gB pclasses (fun c => run (.row [3]) b c [])) = true := by kernel_rfl
theorem t22_22_3 : FtOk (run (.row [3, 1, 1]) (.row [3, 1, 1]) (.pt 3)) := ⟨tr (df c18_3 c18_3 3 3), by kernel_rfl⟩
theorem t22_28_5 : FtOk (run (.row [3, 1, 1]) (.row [4, 1]) (.pt 5)) := ⟨tr (df c18_5 c24_5 30 20), by kernel_rfl⟩
theorem t23_19_4 : FtOk (run (.row [3, 1, 1, 1]) (.row [2, 2, 2]) (.pt 4)) := ⟨tr (df c19_4 c15_4 4 4), by kernel_rfl⟩
theorem l23_29 : gB [.nil, .zero, .no, .long, .pt 0, .pt 1, .pt 2, .pt 3] (fun c => run (.row [3, 1, 1, 1]) (.row [4, 1, 1]) c []) = true := by kernel_rfl
theorem t23_29_5 : FtOk (run (.row [3, 1, 1, 1]) (.row [4, 1, 1]) (.pt 5)) := ⟨tr (df c19_5 c25_5 20 30), by kernel_rfl⟩
theorem w23_2 : gB L23_2 (fun b => gB pclasses (fun c => run (.row [3, 1, 1, 1]) b c [])) = true := by kernel_rfl
theorem l25_15 : gB [.nil, .zero, .no, .long, .pt 0, .pt 1, .pt 2, .pt 3, .pt 4] (fun c => run (.row [3, 2, 1]) (.row [2, 1, 1, 1, 1]) c []) = true := by kernel_rfl
theorem t25_18_4 : FtOk (run (.row [3, 2, 1]) (.row [2, 2, 1, 1]) (.pt 4)) := ⟨tr (df c21_4 c14_4 24 6), by kernel_rfl⟩
theorem l25_25 : gB [.nil, .zero, .no, .long, .pt 0, .pt 1, .pt 2] (fun c => run (.row [3, 2, 1]) (.row [3, 2, 1]) c []) = true := by kernel_rfl
theorem t25_25_3 : FtOk (run (.row [3, 2, 1]) (.row [3, 2, 1]) (.pt 3)) := ⟨tr (df c21_3 c21_3 6 6), by kernel_rfl⟩
theorem t25_29_5 : FtOk (run (.row [3, 2, 1]) (.row [4, 1, 1]) (.pt 5)) := ⟨tr (df c21_5 c25_5 60 30), by kernel_rfl⟩
theorem w25_0 : gB L25_0 (fun b => gB pclasses (fun c => run (.row [3, 2, 1]) b c [])) = true := by kernel_rfl
theorem t27_16_3 : FtOk (run (.row [4]) (.row [2, 2]) (.pt 3)) := ⟨tr (df c23_3 c12_3 3 3), by kernel_rfl⟩
theorem t27_27_1 : FtOk (run (.row [4]) (.row [4]) (.pt 1)) := ⟨tr (df c23_1 c23_1 1 1), by kernel_rfl⟩
theorem t27_27_4 : FtOk (run (.row [4]) (.row [4]) (.pt 4)) := ⟨tr (df c23_4 c23_4 4 4), by kernel_rfl⟩
theorem l28_17 : gB [.nil, .zero, .no, .long, .pt 0, .pt 1, .pt 2] (fun c => run (.row [4, 1]) (.row [2, 2, 1]) c []) = true := by kernel_rfl
theorem t28_17_3 : FtOk (run (.row [4, 1]) (.row [2, 2, 1]) (.pt 3)) := ⟨tr (df c24_3 c13_3 6 3), by kernel_rfl⟩
theorem l28_24 : gB [.nil, .zero, .no, .long, .pt 0, .pt 1] (fun c => run (.row [4, 1]) (.row [3, 2]) c []) = true := by kernel_rfl
theorem t28_24_2 : FtOk (run (.row [4, 1]) (.row [3, 2]) (.pt 2)) := ⟨tr (df c24_2 c20_2 2 2), by kernel_rfl⟩
theorem t28_28_3 : FtOk (run (.row [4, 1]) (.row [4, 1]) (.pt 3)) := ⟨tr (df c24_3 c24_3 6 6), by kernel_rfl⟩
theorem w28_1 : gB L28_1 (fun b => gB pclasses (fun c => run (.row [4, 1]) b c [])) = true := by kernel_rfl
theorem l30_23 : gB [.nil, .zero, .no, .long, .pt 0, .pt 1, .pt 2, .pt 3] (fun c => run (.row [4, 2]) (.row [3, 1, 1, 1]) c []) = true := by kernel_rfl
theorem l30_25 : gB [.nil, .zero, .no, .long, .pt 0, .pt 1, .pt 2] (fun c => run (.row [4, 2]) (.row [3, 2, 1]) c []) = true := by kernel_rfl
theorem t30_25_3 : FtOk (run (.row [4, 2]) (.row [3, 2, 1]) (.pt 3)) := ⟨tr (df c26_3 c21_3 6 6), by kernel_rfl⟩
theorem t30_26_5 : FtOk (run (.row [4, 2]) (.row [3, 3]) (.pt 5)) := ⟨tr (df c26_5 c22_5 20 10), by kernel_rfl⟩
theorem t30_33_3 : FtOk (run (.row [4, 2]) (.row [6]) (.pt 3)) := ⟨tr (df c26_3 c29_3 6 3), by kernel_rfl⟩
theorem t31_14_4 : FtOk (run (.row [5]) (.row [2, 1, 1, 1]) (.pt 4)) := ⟨tr (df c27_4 c10_4 4 4), by kernel_rfl⟩
theorem t31_24_2 : FtOk (run (.row [5]) (.row [3, 2]) (.pt 2)) := ⟨tr (df c27_2 c20_2 2 2), by kernel_rfl⟩
theorem t31_28_4 : FtOk (run (.row [5]) (.row [4, 1]) (.pt 4)) := ⟨tr (df c27_4 c24_4 4 12), by kernel_rfl⟩
theorem l32_15 : gB [.nil, .zero, .no, .long, .pt 0, .pt 1, .pt 2, .pt 3, .pt 4] (fun c => run (.row [5, 1]) (.row [2, 1, 1, 1, 1]) c []) = true := by kernel_rfl
theorem t32_18_4 : FtOk (run (.row [5, 1]) (.row [2, 2, 1, 1]) (.pt 4)) := ⟨tr (df c28_4 c14_4 12 6), by kernel_rfl⟩
theorem l32_25 : gB [.nil, .zero, .no, .long, .pt 0, .pt 1, .pt 2] (fun c => run (.row [5, 1]) (.row [3, 2, 1]) c []) = true := by kernel_rfl
theorem t32_25_3 : FtOk (run (.row [5, 1]) (.row [3, 2, 1]) (.pt 3)) := ⟨tr (df c28_3 c21_3 6 6), by kernel_rfl⟩
theorem t32_29_4 : FtOk (run (.row [5, 1]) (.row [4, 1, 1]) (.pt 4)) := ⟨tr (df c28_4 c25_4 12 12), by kernel_rfl⟩
theorem l32_33 : gB [.nil, .zero, .no, .long, .pt 0, .pt 1] (fun c => run (.row [5, 1]) (.row [6]) c []) = true := by kernel_rfl
theorem t32_33_3 : FtOk (run (.row [5, 1]) (.row [6]) (.pt 3)) := ⟨tr (df c28_3 c29_3 6 3), by kernel_rfl⟩
theorem l33_18 : gB [.nil, .zero, .no, .long, .pt 0, .pt 1, .pt 2, .pt 3] (fun c => run (.row [6]) (.row [2, 2, 1, 1]) c []) = true := by kernel_rfl
theorem t33_18_5 : FtOk (run (.row [6]) (.row [2, 2, 1, 1]) (.pt 5)) := ⟨tr (df c29_5 c14_5 5 30), by kernel_rfl⟩
theorem t33_26_4 : FtOk (run (.row [6]) (.row [3, 3]) (.pt 4)) := ⟨tr (df c29_4 c22_4 4 6), by kernel_rfl⟩
theorem t33_32_2 : FtOk (run (.row [6]) (.row [5, 1]) (.pt 2)) := ⟨tr (df c29_2 c28_2 2 2), by kernel_rfl⟩
theorem t33_33_4 : FtOk (run (.row [6]) (.row [6]) (.pt 4)) := ⟨tr (df c29_4 c29_4 4 4), by kernel_rfl⟩
end Go.Proofs.Ytnglbchhlpbgkaa.fnExactMeanSignRuns
