/- Runs of the program at a seat. -/
import Derived.Test.YtnglbchhlpbgkaaSFnExactMeanSignP
namespace Go.Proofs.Ytnglbchhlpbgkaa.fnExactMeanSignRuns
open Go Go.Eng
set_option linter.unusedVariables false
set_option linter.unusedSectionVars false
set_option linter.unusedSimpArgs false
set_option maxRecDepth 100000
theorem w2_1 : gB L2_1 (fun b => gB pclasses (fun c => run .no b c [])) = true := by kernel_rfl
theorem t5_5_2 : FtOk (run (.row [1]) (.row [1]) (.pt 2)) := ⟨tr (df c1_2 c1_2 2 2), by kernel_rfl⟩
theorem w5_0 : gB L5_0 (fun b => gB pclasses (fun c => run (.row [1]) b c [])) = true := by kernel_rfl
theorem l7_12 : gB [.nil, .zero, .no, .long, .pt 0, .pt 1, .pt 2] (fun c => run (.row [1, 1, 1]) (.row [2, 1]) c []) = true := by kernel_rfl
theorem t7_12_3 : FtOk (run (.row [1, 1, 1]) (.row [2, 1]) (.pt 3)) := ⟨tr (df c3_3 c8_3 1 6), by kernel_rfl⟩
theorem w7_1 : gB L7_1 (fun b => gB pclasses (fun c => run (.row [1, 1, 1]) b c [])) = true := by kernel_rfl
theorem w9_2 : gB L9_2 (fun b => gB pclasses (fun c => run (.row [1, 1, 1, 1, 1]) b c [])) = true := by kernel_rfl
theorem t12_12_2 : FtOk (run (.row [2, 1]) (.row [2, 1]) (.pt 2)) := ⟨tr (df c8_2 c8_2 2 2), by kernel_rfl⟩
theorem t12_20_4 : FtOk (run (.row [2, 1]) (.row [3]) (.pt 4)) := ⟨tr (df c8_4 c16_4 12 4), by kernel_rfl⟩
theorem l13_13 : gB [.nil, .zero, .no, .long, .pt 0, .pt 1, .pt 2] (fun c => run (.row [2, 1, 1]) (.row [2, 1, 1]) c []) = true := by kernel_rfl
theorem t13_13_3 : FtOk (run (.row [2, 1, 1]) (.row [2, 1, 1]) (.pt 3)) := ⟨tr (df c9_3 c9_3 3 3), by kernel_rfl⟩
theorem t13_16_3 : FtOk (run (.row [2, 1, 1]) (.row [2, 2]) (.pt 3)) := ⟨tr (df c9_3 c12_3 3 3), by kernel_rfl⟩
theorem t13_27_4 : FtOk (run (.row [2, 1, 1]) (.row [4]) (.pt 4)) := ⟨tr (df c9_4 c23_4 12 4), by kernel_rfl⟩
theorem t14_14_4 : FtOk (run (.row [2, 1, 1, 1]) (.row [2, 1, 1, 1]) (.pt 4)) := ⟨tr (df c10_4 c10_4 4 4), by kernel_rfl⟩
theorem t14_22_5 : FtOk (run (.row [2, 1, 1, 1]) (.row [3, 1, 1]) (.pt 5)) := ⟨tr (df c10_5 c18_5 20 30), by kernel_rfl⟩
theorem l15_15 : gB [.nil, .zero, .no, .long, .pt 0, .pt 1, .pt 2, .pt 3, .pt 4] (fun c => run (.row [2, 1, 1, 1, 1]) (.row [2, 1, 1, 1, 1]) c []) = true := by kernel_rfl
theorem l15_18 : gB [.nil, .zero, .no, .long, .pt 0, .pt 1, .pt 2, .pt 3, .pt 4] (fun c => run (.row [2, 1, 1, 1, 1]) (.row [2, 2, 1, 1]) c []) = true := by kernel_rfl
theorem t15_19_5 : FtOk (run (.row [2, 1, 1, 1, 1]) (.row [2, 2, 2]) (.pt 5)) := ⟨tr (df c11_5 c15_5 5 10), by kernel_rfl⟩
theorem t15_30_5 : FtOk (run (.row [2, 1, 1, 1, 1]) (.row [4, 2]) (.pt 5)) := ⟨tr (df c11_5 c26_5 5 20), by kernel_rfl⟩
theorem t16_13_3 : FtOk (run (.row [2, 2]) (.row [2, 1, 1]) (.pt 3)) := ⟨tr (df c12_3 c9_3 3 3), by kernel_rfl⟩
theorem l16_21 : gB [.nil, .zero, .no, .long, .pt 0, .pt 1] (fun c => run (.row [2, 2]) (.row [3, 1]) c []) = true := by kernel_rfl
theorem t16_21_2 : FtOk (run (.row [2, 2]) (.row [3, 1]) (.pt 2)) := ⟨tr (df c12_2 c17_2 1 2), by kernel_rfl⟩
theorem t16_27_3 : FtOk (run (.row [2, 2]) (.row [4]) (.pt 3)) := ⟨tr (df c12_3 c23_3 3 3), by kernel_rfl⟩
theorem t17_14_4 : FtOk (run (.row [2, 2, 1]) (.row [2, 1, 1, 1]) (.pt 4)) := ⟨tr (df c13_4 c10_4 12 4), by kernel_rfl⟩
theorem t17_22_4 : FtOk (run (.row [2, 2, 1]) (.row [3, 1, 1]) (.pt 4)) := ⟨tr (df c13_4 c18_4 12 12), by kernel_rfl⟩
theorem t17_31_4 : FtOk (run (.row [2, 2, 1]) (.row [5]) (.pt 4)) := ⟨tr (df c13_4 c27_4 12 4), by kernel_rfl⟩
theorem t18_19_4 : FtOk (run (.row [2, 2, 1, 1]) (.row [2, 2, 2]) (.pt 4)) := ⟨tr (df c14_4 c15_4 6 4), by kernel_rfl⟩
theorem l18_26 : gB [.nil, .zero, .no, .long, .pt 0, .pt 1, .pt 2, .pt 3] (fun c => run (.row [2, 2, 1, 1]) (.row [3, 3]) c []) = true := by kernel_rfl
theorem l18_29 : gB [.nil, .zero, .no, .long, .pt 0, .pt 1, .pt 2, .pt 3] (fun c => run (.row [2, 2, 1, 1]) (.row [4, 1, 1]) c []) = true := by kernel_rfl
theorem t18_29_5 : FtOk (run (.row [2, 2, 1, 1]) (.row [4, 1, 1]) (.pt 5)) := ⟨tr (df c14_5 c25_5 30 30), by kernel_rfl⟩
theorem l19_15 : gB [.nil, .zero, .no, .long, .pt 0, .pt 1, .pt 2, .pt 3, .pt 4] (fun c => run (.row [2, 2, 2]) (.row [2, 1, 1, 1, 1]) c []) = true := by kernel_rfl
theorem t19_15_5 : FtOk (run (.row [2, 2, 2]) (.row [2, 1, 1, 1, 1]) (.pt 5)) := ⟨tr (df c15_5 c11_5 10 5), by kernel_rfl⟩
theorem t19_25_4 : FtOk (run (.row [2, 2, 2]) (.row [3, 2, 1]) (.pt 4)) := ⟨tr (df c15_4 c21_4 4 24), by kernel_rfl⟩
theorem l19_30 : gB [.nil, .zero, .no, .long, .pt 0, .pt 1, .pt 2] (fun c => run (.row [2, 2, 2]) (.row [4, 2]) c []) = true := by kernel_rfl
theorem t19_30_4 : FtOk (run (.row [2, 2, 2]) (.row [4, 2]) (.pt 4)) := ⟨tr (df c15_4 c26_4 4 12), by kernel_rfl⟩
theorem l20_7 : gB [.nil, .zero, .no, .long, .pt 0, .pt 1, .pt 2] (fun c => run (.row [3]) (.row [1, 1, 1]) c []) = true := by kernel_rfl
theorem t20_7_3 : FtOk (run (.row [3]) (.row [1, 1, 1]) (.pt 3)) := ⟨tr (df c16_3 c3_3 3 1), by kernel_rfl⟩
theorem t20_20_1 : FtOk (run (.row [3]) (.row [3]) (.pt 1)) := ⟨tr (df c16_1 c16_1 1 1), by kernel_rfl⟩
theorem t20_20_5 : FtOk (run (.row [3]) (.row [3]) (.pt 5)) := ⟨tr (df c16_5 c16_5 5 5), by kernel_rfl⟩
theorem t21_13_5 : FtOk (run (.row [3, 1]) (.row [2, 1, 1]) (.pt 5)) := ⟨tr (df c17_5 c9_5 20 30), by kernel_rfl⟩
theorem l21_27 : gB [.nil, .zero, .no, .long, .pt 0, .pt 1] (fun c => run (.row [3, 1]) (.row [4]) c []) = true := by kernel_rfl
theorem t21_27_3 : FtOk (run (.row [3, 1]) (.row [4]) (.pt 3)) := ⟨tr (df c17_3 c23_3 6 3), by kernel_rfl⟩
theorem l22_9 : gB [.nil, .zero, .no, .long, .pt 0, .pt 1, .pt 2, .pt 3, .pt 4] (fun c => run (.row [3, 1, 1]) (.row [1, 1, 1, 1, 1]) c []) = true := by kernel_rfl
theorem l22_14 : gB [.nil, .zero, .no, .long, .pt 0, .pt 1, .pt 2, .pt 3] (fun c => run (.row [3, 1, 1]) (.row [2, 1, 1, 1]) c []) = true := by kernel_rfl
theorem t22_14_4 : FtOk (run (.row [3, 1, 1]) (.row [2, 1, 1, 1]) (.pt 4)) := ⟨tr (df c18_4 c10_4 12 4), by kernel_rfl⟩
theorem l22_22 : gB [.nil, .zero, .no, .long, .pt 0, .pt 1, .pt 2] (fun c => run (.row [3, 1, 1]) (.row [3, 1, 1]) c []) = true := by kernel_rfl
theorem t22_24_3 : FtOk (run (.row [3, 1, 1]) (.row [3, 2]) (.pt 3)) := ⟨tr (df c18_3 c20_3 3 6), by kernel_rfl⟩
theorem l22_31 : gB [.nil, .zero, .no, .long, .pt 0, .pt 1, .pt 2] (fun c => run (.row [3, 1, 1]) (.row [5]) c []) = true := by kernel_rfl
theorem t22_31_4 : FtOk (run (.row [3, 1, 1]) (.row [5]) (.pt 4)) := ⟨tr (df c18_4 c27_4 12 4), by kernel_rfl⟩
theorem l23_19 : gB [.nil, .zero, .no, .long, .pt 0, .pt 1, .pt 2, .pt 3] (fun c => run (.row [3, 1, 1, 1]) (.row [2, 2, 2]) c []) = true := by kernel_rfl
theorem t23_19_5 : FtOk (run (.row [3, 1, 1, 1]) (.row [2, 2, 2]) (.pt 5)) := ⟨tr (df c19_5 c15_5 20 10), by kernel_rfl⟩
theorem l23_30 : gB [.nil, .zero, .no, .long, .pt 0, .pt 1, .pt 2, .pt 3] (fun c => run (.row [3, 1, 1, 1]) (.row [4, 2]) c []) = true := by kernel_rfl
theorem t23_30_5 : FtOk (run (.row [3, 1, 1, 1]) (.row [4, 2]) (.pt 5)) := ⟨tr (df c19_5 c26_5 20 20), by kernel_rfl⟩
theorem l24_14 : gB [.nil, .zero, .no, .long, .pt 0, .pt 1, .pt 2, .pt 3] (fun c => run (.row [3, 2]) (.row [2, 1, 1, 1]) c []) = true := by kernel_rfl
theorem t24_14_4 : FtOk (run (.row [3, 2]) (.row [2, 1, 1, 1]) (.pt 4)) := ⟨tr (df c20_4 c10_4 12 4), by kernel_rfl⟩
theorem t24_24_2 : FtOk (run (.row [3, 2]) (.row [3, 2]) (.pt 2)) := ⟨tr (df c20_2 c20_2 2 2), by kernel_rfl⟩
theorem t24_28_3 : FtOk (run (.row [3, 2]) (.row [4, 1]) (.pt 3)) := ⟨tr (df c20_3 c24_3 6 6), by kernel_rfl⟩
theorem w24_1 : gB L24_1 (fun b => gB pclasses (fun c => run (.row [3, 2]) b c [])) = true := by kernel_rfl
theorem l26_23 : gB [.nil, .zero, .no, .long, .pt 0, .pt 1, .pt 2, .pt 3] (fun c => run (.row [3, 3]) (.row [3, 1, 1, 1]) c []) = true := by kernel_rfl
theorem t26_23_5 : FtOk (run (.row [3, 3]) (.row [3, 1, 1, 1]) (.pt 5)) := ⟨tr (df c22_5 c19_5 10 20), by kernel_rfl⟩
theorem l26_30 : gB [.nil, .zero, .no, .long, .pt 0, .pt 1] (fun c => run (.row [3, 3]) (.row [4, 2]) c []) = true := by kernel_rfl
theorem t26_30_4 : FtOk (run (.row [3, 3]) (.row [4, 2]) (.pt 4)) := ⟨tr (df c22_4 c26_4 6 12), by kernel_rfl⟩
theorem w26_1 : gB L26_1 (fun b => gB pclasses (fun c => run (.row [3, 3]) b c [])) = true := by kernel_rfl
theorem t28_28_2 : FtOk (run (.row [4, 1]) (.row [4, 1]) (.pt 2)) := ⟨tr (df c24_2 c24_2 2 2), by kernel_rfl⟩
theorem t28_31_4 : FtOk (run (.row [4, 1]) (.row [5]) (.pt 4)) := ⟨tr (df c24_4 c27_4 12 4), by kernel_rfl⟩
theorem t29_19_4 : FtOk (run (.row [4, 1, 1]) (.row [2, 2, 2]) (.pt 4)) := ⟨tr (df c25_4 c15_4 12 4), by kernel_rfl⟩
theorem t29_26_5 : FtOk (run (.row [4, 1, 1]) (.row [3, 3]) (.pt 5)) := ⟨tr (df c25_5 c22_5 30 10), by kernel_rfl⟩
theorem t29_32_5 : FtOk (run (.row [4, 1, 1]) (.row [5, 1]) (.pt 5)) := ⟨tr (df c25_5 c28_5 30 20), by kernel_rfl⟩
theorem l30_19 : gB [.nil, .zero, .no, .long, .pt 0, .pt 1, .pt 2] (fun c => run (.row [4, 2]) (.row [2, 2, 2]) c []) = true := by kernel_rfl
theorem t30_19_4 : FtOk (run (.row [4, 2]) (.row [2, 2, 2]) (.pt 4)) := ⟨tr (df c26_4 c15_4 12 4), by kernel_rfl⟩
theorem t30_26_4 : FtOk (run (.row [4, 2]) (.row [3, 3]) (.pt 4)) := ⟨tr (df c26_4 c22_4 12 6), by kernel_rfl⟩
theorem l30_32 : gB [.nil, .zero, .no, .long, .pt 0, .pt 1] (fun c => run (.row [4, 2]) (.row [5, 1]) c []) = true := by kernel_rfl
theorem t30_32_4 : FtOk (run (.row [4, 2]) (.row [5, 1]) (.pt 4)) := ⟨tr (df c26_4 c28_4 12 12), by kernel_rfl⟩
theorem l31_14 : gB [.nil, .zero, .no, .long, .pt 0, .pt 1, .pt 2, .pt 3] (fun c => run (.row [5]) (.row [2, 1, 1, 1]) c []) = true := by kernel_rfl
theorem l31_17 : gB [.nil, .zero, .no, .long, .pt 0, .pt 1, .pt 2] (fun c => run (.row [5]) (.row [2, 2, 1]) c []) = true := by kernel_rfl
theorem t31_17_3 : FtOk (run (.row [5]) (.row [2, 2, 1]) (.pt 3)) := ⟨tr (df c27_3 c13_3 3 3), by kernel_rfl⟩
theorem l31_24 : gB [.nil, .zero, .no, .long, .pt 0, .pt 1] (fun c => run (.row [5]) (.row [3, 2]) c []) = true := by kernel_rfl
theorem t31_24_4 : FtOk (run (.row [5]) (.row [3, 2]) (.pt 4)) := ⟨tr (df c27_4 c20_4 4 12), by kernel_rfl⟩
theorem w31_0 : gB L31_0 (fun b => gB pclasses (fun c => run (.row [5]) b c [])) = true := by kernel_rfl
theorem l33_19 : gB [.nil, .zero, .no, .long, .pt 0, .pt 1, .pt 2] (fun c => run (.row [6]) (.row [2, 2, 2]) c []) = true := by kernel_rfl
theorem t33_19_5 : FtOk (run (.row [6]) (.row [2, 2, 2]) (.pt 5)) := ⟨tr (df c29_5 c15_5 5 10), by kernel_rfl⟩
theorem t33_29_3 : FtOk (run (.row [6]) (.row [4, 1, 1]) (.pt 3)) := ⟨tr (df c29_3 c25_3 3 3), by kernel_rfl⟩
theorem l33_32 : gB [.nil, .zero, .no, .long, .pt 0, .pt 1] (fun c => run (.row [6]) (.row [5, 1]) c []) = true := by kernel_rfl
theorem t33_32_4 : FtOk (run (.row [6]) (.row [5, 1]) (.pt 4)) := ⟨tr (df c29_4 c28_4 4 12), by kernel_rfl⟩
end Go.Proofs.Ytnglbchhlpbgkaa.fnExactMeanSignRuns
