/- Runs of the program at a seat. -/
import Derived.Test.YtnglbchhlpbgkaaSFnExactMeanSignP
namespace Go.Proofs.Ytnglbchhlpbgkaa.fnExactMeanSignRuns
open Go Go.Eng
set_option linter.unusedVariables false
set_option linter.unusedSectionVars false
set_option linter.unusedSimpArgs false
set_option maxRecDepth 100000
theorem w2_0 : gB L2_0 (fun b => gB pclasses (fun c => run .no b c [])) = true := by kernel_rfl
theorem t5_5_1 : FtOk (run (.row [1]) (.row [1]) (.pt 1)) := ⟨tr (df c1_1 c1_1 1 1), by kernel_rfl⟩
theorem t5_5_5 : FtOk (run (.row [1]) (.row [1]) (.pt 5)) := ⟨tr (df c1_5 c1_5 5 5), by kernel_rfl⟩
theorem w5_3 : gB L5_3 (fun b => gB pclasses (fun c => run (.row [1]) b c [])) = true := by kernel_rfl
theorem l7_7 : gB [.nil, .zero, .no, .long, .pt 0, .pt 1, .pt 2] (fun c => run (.row [1, 1, 1]) (.row [1, 1, 1]) c []) = true := by kernel_rfl
theorem t7_7_3 : FtOk (run (.row [1, 1, 1]) (.row [1, 1, 1]) (.pt 3)) := ⟨tr (df c3_3 c3_3 1 1), by kernel_rfl⟩
theorem l7_20 : gB [.nil, .zero, .no, .long, .pt 0, .pt 1, .pt 2] (fun c => run (.row [1, 1, 1]) (.row [3]) c []) = true := by kernel_rfl
theorem t7_20_4 : FtOk (run (.row [1, 1, 1]) (.row [3]) (.pt 4)) := ⟨tr (df c3_4 c16_4 4 4), by kernel_rfl⟩
theorem t8_8_5 : FtOk (run (.row [1, 1, 1, 1]) (.row [1, 1, 1, 1]) (.pt 5)) := ⟨tr (df c4_5 c4_5 5 5), by kernel_rfl⟩
theorem t8_21_4 : FtOk (run (.row [1, 1, 1, 1]) (.row [3, 1]) (.pt 4)) := ⟨tr (df c4_4 c17_4 1 12), by kernel_rfl⟩
theorem w8_2 : gB L8_2 (fun b => gB pclasses (fun c => run (.row [1, 1, 1, 1]) b c [])) = true := by kernel_rfl
theorem t11_11_5 : FtOk (run (.row [2]) (.row [2]) (.pt 5)) := ⟨tr (df c7_5 c7_5 5 5), by kernel_rfl⟩
theorem t12_7_4 : FtOk (run (.row [2, 1]) (.row [1, 1, 1]) (.pt 4)) := ⟨tr (df c8_4 c3_4 12 4), by kernel_rfl⟩
theorem t12_20_5 : FtOk (run (.row [2, 1]) (.row [3]) (.pt 5)) := ⟨tr (df c8_5 c16_5 20 5), by kernel_rfl⟩
theorem t13_13_5 : FtOk (run (.row [2, 1, 1]) (.row [2, 1, 1]) (.pt 5)) := ⟨tr (df c9_5 c9_5 30 30), by kernel_rfl⟩
theorem t13_27_3 : FtOk (run (.row [2, 1, 1]) (.row [4]) (.pt 3)) := ⟨tr (df c9_3 c23_3 3 3), by kernel_rfl⟩
theorem w13_3 : gB L13_3 (fun b => gB pclasses (fun c => run (.row [2, 1, 1]) b c [])) = true := by kernel_rfl
theorem l14_22 : gB [.nil, .zero, .no, .long, .pt 0, .pt 1, .pt 2, .pt 3] (fun c => run (.row [2, 1, 1, 1]) (.row [3, 1, 1]) c []) = true := by kernel_rfl
theorem t14_22_4 : FtOk (run (.row [2, 1, 1, 1]) (.row [3, 1, 1]) (.pt 4)) := ⟨tr (df c10_4 c18_4 4 12), by kernel_rfl⟩
theorem w14_1 : gB L14_1 (fun b => gB pclasses (fun c => run (.row [2, 1, 1, 1]) b c [])) = true := by kernel_rfl
theorem t16_27_2 : FtOk (run (.row [2, 2]) (.row [4]) (.pt 2)) := ⟨tr (df c12_2 c23_2 1 2), by kernel_rfl⟩
theorem w16_2 : gB L16_2 (fun b => gB pclasses (fun c => run (.row [2, 2]) b c [])) = true := by kernel_rfl
theorem t18_29_4 : FtOk (run (.row [2, 2, 1, 1]) (.row [4, 1, 1]) (.pt 4)) := ⟨tr (df c14_4 c25_4 6 12), by kernel_rfl⟩
theorem w18_0 : gB L18_0 (fun b => gB pclasses (fun c => run (.row [2, 2, 1, 1]) b c [])) = true := by kernel_rfl
theorem t20_12_5 : FtOk (run (.row [3]) (.row [2, 1]) (.pt 5)) := ⟨tr (df c16_5 c8_5 5 20), by kernel_rfl⟩
theorem t21_13_3 : FtOk (run (.row [3, 1]) (.row [2, 1, 1]) (.pt 3)) := ⟨tr (df c17_3 c9_3 6 3), by kernel_rfl⟩
theorem t21_16_2 : FtOk (run (.row [3, 1]) (.row [2, 2]) (.pt 2)) := ⟨tr (df c17_2 c12_2 2 1), by kernel_rfl⟩
theorem t21_21_3 : FtOk (run (.row [3, 1]) (.row [3, 1]) (.pt 3)) := ⟨tr (df c17_3 c17_3 6 6), by kernel_rfl⟩
theorem t21_27_5 : FtOk (run (.row [3, 1]) (.row [4]) (.pt 5)) := ⟨tr (df c17_5 c23_5 20 5), by kernel_rfl⟩
theorem t22_17_4 : FtOk (run (.row [3, 1, 1]) (.row [2, 2, 1]) (.pt 4)) := ⟨tr (df c18_4 c13_4 12 12), by kernel_rfl⟩
theorem t22_28_4 : FtOk (run (.row [3, 1, 1]) (.row [4, 1]) (.pt 4)) := ⟨tr (df c18_4 c24_4 12 12), by kernel_rfl⟩
theorem t23_15_5 : FtOk (run (.row [3, 1, 1, 1]) (.row [2, 1, 1, 1, 1]) (.pt 5)) := ⟨tr (df c19_5 c11_5 20 5), by kernel_rfl⟩
theorem l23_25 : gB [.nil, .zero, .no, .long, .pt 0, .pt 1, .pt 2, .pt 3] (fun c => run (.row [3, 1, 1, 1]) (.row [3, 2, 1]) c []) = true := by kernel_rfl
theorem t23_25_4 : FtOk (run (.row [3, 1, 1, 1]) (.row [3, 2, 1]) (.pt 4)) := ⟨tr (df c19_4 c21_4 4 24), by kernel_rfl⟩
theorem l23_32 : gB [.nil, .zero, .no, .long, .pt 0, .pt 1, .pt 2, .pt 3] (fun c => run (.row [3, 1, 1, 1]) (.row [5, 1]) c []) = true := by kernel_rfl
theorem l23_33 : gB [.nil, .zero, .no, .long, .pt 0, .pt 1, .pt 2, .pt 3] (fun c => run (.row [3, 1, 1, 1]) (.row [6]) c []) = true := by kernel_rfl
theorem t23_33_5 : FtOk (run (.row [3, 1, 1, 1]) (.row [6]) (.pt 5)) := ⟨tr (df c19_5 c29_5 20 5), by kernel_rfl⟩
theorem t24_17_5 : FtOk (run (.row [3, 2]) (.row [2, 2, 1]) (.pt 5)) := ⟨tr (df c20_5 c13_5 20 30), by kernel_rfl⟩
theorem t24_28_5 : FtOk (run (.row [3, 2]) (.row [4, 1]) (.pt 5)) := ⟨tr (df c20_5 c24_5 20 20), by kernel_rfl⟩
theorem t25_19_5 : FtOk (run (.row [3, 2, 1]) (.row [2, 2, 2]) (.pt 5)) := ⟨tr (df c21_5 c15_5 60 10), by kernel_rfl⟩
theorem l25_29 : gB [.nil, .zero, .no, .long, .pt 0, .pt 1, .pt 2] (fun c => run (.row [3, 2, 1]) (.row [4, 1, 1]) c []) = true := by kernel_rfl
theorem t25_29_3 : FtOk (run (.row [3, 2, 1]) (.row [4, 1, 1]) (.pt 3)) := ⟨tr (df c21_3 c25_3 6 3), by kernel_rfl⟩
theorem t25_32_5 : FtOk (run (.row [3, 2, 1]) (.row [5, 1]) (.pt 5)) := ⟨tr (df c21_5 c28_5 60 20), by kernel_rfl⟩
theorem l26_19 : gB [.nil, .zero, .no, .long, .pt 0, .pt 1, .pt 2] (fun c => run (.row [3, 3]) (.row [2, 2, 2]) c []) = true := by kernel_rfl
theorem t26_19_4 : FtOk (run (.row [3, 3]) (.row [2, 2, 2]) (.pt 4)) := ⟨tr (df c22_4 c15_4 6 4), by kernel_rfl⟩
theorem t26_26_3 : FtOk (run (.row [3, 3]) (.row [3, 3]) (.pt 3)) := ⟨tr (df c22_3 c22_3 3 3), by kernel_rfl⟩
theorem t26_30_3 : FtOk (run (.row [3, 3]) (.row [4, 2]) (.pt 3)) := ⟨tr (df c22_3 c26_3 3 6), by kernel_rfl⟩
theorem t26_33_2 : FtOk (run (.row [3, 3]) (.row [6]) (.pt 2)) := ⟨tr (df c22_2 c29_2 1 2), by kernel_rfl⟩
theorem l27_8 : gB [.nil, .zero, .no, .long, .pt 0, .pt 1, .pt 2, .pt 3] (fun c => run (.row [4]) (.row [1, 1, 1, 1]) c []) = true := by kernel_rfl
theorem t27_8_4 : FtOk (run (.row [4]) (.row [1, 1, 1, 1]) (.pt 4)) := ⟨tr (df c23_4 c4_4 4 1), by kernel_rfl⟩
theorem t27_21_2 : FtOk (run (.row [4]) (.row [3, 1]) (.pt 2)) := ⟨tr (df c23_2 c17_2 2 2), by kernel_rfl⟩
theorem t27_27_3 : FtOk (run (.row [4]) (.row [4]) (.pt 3)) := ⟨tr (df c23_3 c23_3 3 3), by kernel_rfl⟩
theorem l28_14 : gB [.nil, .zero, .no, .long, .pt 0, .pt 1, .pt 2, .pt 3] (fun c => run (.row [4, 1]) (.row [2, 1, 1, 1]) c []) = true := by kernel_rfl
theorem t28_14_4 : FtOk (run (.row [4, 1]) (.row [2, 1, 1, 1]) (.pt 4)) := ⟨tr (df c24_4 c10_4 12 4), by kernel_rfl⟩
theorem t28_22_4 : FtOk (run (.row [4, 1]) (.row [3, 1, 1]) (.pt 4)) := ⟨tr (df c24_4 c18_4 12 12), by kernel_rfl⟩
theorem l28_31 : gB [.nil, .zero, .no, .long, .pt 0, .pt 1] (fun c => run (.row [4, 1]) (.row [5]) c []) = true := by kernel_rfl
theorem t28_31_3 : FtOk (run (.row [4, 1]) (.row [5]) (.pt 3)) := ⟨tr (df c24_3 c27_3 6 3), by kernel_rfl⟩
theorem l29_18 : gB [.nil, .zero, .no, .long, .pt 0, .pt 1, .pt 2, .pt 3] (fun c => run (.row [4, 1, 1]) (.row [2, 2, 1, 1]) c []) = true := by kernel_rfl
theorem t29_18_5 : FtOk (run (.row [4, 1, 1]) (.row [2, 2, 1, 1]) (.pt 5)) := ⟨tr (df c25_5 c14_5 30 30), by kernel_rfl⟩
theorem t29_26_4 : FtOk (run (.row [4, 1, 1]) (.row [3, 3]) (.pt 4)) := ⟨tr (df c25_4 c22_4 12 6), by kernel_rfl⟩
theorem l29_32 : gB [.nil, .zero, .no, .long, .pt 0, .pt 1, .pt 2] (fun c => run (.row [4, 1, 1]) (.row [5, 1]) c []) = true := by kernel_rfl
theorem t29_32_4 : FtOk (run (.row [4, 1, 1]) (.row [5, 1]) (.pt 4)) := ⟨tr (df c25_4 c28_4 12 12), by kernel_rfl⟩
theorem l30_15 : gB [.nil, .zero, .no, .long, .pt 0, .pt 1, .pt 2, .pt 3, .pt 4] (fun c => run (.row [4, 2]) (.row [2, 1, 1, 1, 1]) c []) = true := by kernel_rfl
theorem t30_18_4 : FtOk (run (.row [4, 2]) (.row [2, 2, 1, 1]) (.pt 4)) := ⟨tr (df c26_4 c14_4 12 6), by kernel_rfl⟩
theorem t30_25_4 : FtOk (run (.row [4, 2]) (.row [3, 2, 1]) (.pt 4)) := ⟨tr (df c26_4 c21_4 12 24), by kernel_rfl⟩
theorem t30_30_3 : FtOk (run (.row [4, 2]) (.row [4, 2]) (.pt 3)) := ⟨tr (df c26_3 c26_3 6 6), by kernel_rfl⟩
theorem t30_33_2 : FtOk (run (.row [4, 2]) (.row [6]) (.pt 2)) := ⟨tr (df c26_2 c29_2 2 2), by kernel_rfl⟩
theorem l31_9 : gB [.nil, .zero, .no, .long, .pt 0, .pt 1, .pt 2, .pt 3, .pt 4] (fun c => run (.row [5]) (.row [1, 1, 1, 1, 1]) c []) = true := by kernel_rfl
theorem t31_9_5 : FtOk (run (.row [5]) (.row [1, 1, 1, 1, 1]) (.pt 5)) := ⟨tr (df c27_5 c5_5 5 1), by kernel_rfl⟩
theorem t31_24_3 : FtOk (run (.row [5]) (.row [3, 2]) (.pt 3)) := ⟨tr (df c27_3 c20_3 3 6), by kernel_rfl⟩
theorem t31_31_3 : FtOk (run (.row [5]) (.row [5]) (.pt 3)) := ⟨tr (df c27_3 c27_3 3 3), by kernel_rfl⟩
theorem l32_18 : gB [.nil, .zero, .no, .long, .pt 0, .pt 1, .pt 2, .pt 3] (fun c => run (.row [5, 1]) (.row [2, 2, 1, 1]) c []) = true := by kernel_rfl
theorem l32_19 : gB [.nil, .zero, .no, .long, .pt 0, .pt 1, .pt 2] (fun c => run (.row [5, 1]) (.row [2, 2, 2]) c []) = true := by kernel_rfl
theorem t32_19_3 : FtOk (run (.row [5, 1]) (.row [2, 2, 2]) (.pt 3)) := ⟨tr (df c28_3 c15_3 6 1), by kernel_rfl⟩
theorem t32_23_5 : FtOk (run (.row [5, 1]) (.row [3, 1, 1, 1]) (.pt 5)) := ⟨tr (df c28_5 c19_5 20 20), by kernel_rfl⟩
theorem t32_30_3 : FtOk (run (.row [5, 1]) (.row [4, 2]) (.pt 3)) := ⟨tr (df c28_3 c26_3 6 6), by kernel_rfl⟩
theorem t32_33_2 : FtOk (run (.row [5, 1]) (.row [6]) (.pt 2)) := ⟨tr (df c28_2 c29_2 2 2), by kernel_rfl⟩
theorem w32_2 : gB L32_2 (fun b => gB pclasses (fun c => run (.row [5, 1]) b c [])) = true := by kernel_rfl
theorem t33_33_1 : FtOk (run (.row [6]) (.row [6]) (.pt 1)) := ⟨tr (df c29_1 c29_1 1 1), by kernel_rfl⟩
theorem t33_33_5 : FtOk (run (.row [6]) (.row [6]) (.pt 5)) := ⟨tr (df c29_5 c29_5 5 5), by kernel_rfl⟩
end Go.Proofs.Ytnglbchhlpbgkaa.fnExactMeanSignRuns
