/- Runs of the program at a seat. -/
import Derived.Test.YtnglbchhlpbgkaaSFnExactMeanSignP
namespace Go.Proofs.Ytnglbchhlpbgkaa.fnExactMeanSignRuns
open Go Go.Eng
set_option linter.unusedVariables false
set_option linter.unusedSectionVars false
set_option linter.unusedSimpArgs false
set_option maxRecDepth 100000
theorem w1_2 : gB L1_2 (fun b => gB pclasses (fun c => run .zero b c [])) = true := by kernel_rfl
theorem l5_5 : gB [.nil, .zero, .no, .long, .pt 0] (fun c => run (.row [1]) (.row [1]) c []) = true := by kernel_rfl
theorem t5_5_4 : FtOk (run (.row [1]) (.row [1]) (.pt 4)) := ⟨tr (df c1_4 c1_4 4 4), by kernel_rfl⟩
theorem w5_2 : gB L5_2 (fun b => gB pclasses (fun c => run (.row [1]) b c [])) = true := by kernel_rfl
theorem t7_20_5 : FtOk (run (.row [1, 1, 1]) (.row [3]) (.pt 5)) := ⟨tr (df c3_5 c16_5 10 5), by kernel_rfl⟩
theorem t8_13_5 : FtOk (run (.row [1, 1, 1, 1]) (.row [2, 1, 1]) (.pt 5)) := ⟨tr (df c4_5 c9_5 5 30), by kernel_rfl⟩
theorem l8_27 : gB [.nil, .zero, .no, .long, .pt 0, .pt 1, .pt 2, .pt 3] (fun c => run (.row [1, 1, 1, 1]) (.row [4]) c []) = true := by kernel_rfl
theorem w8_0 : gB L8_0 (fun b => gB pclasses (fun c => run (.row [1, 1, 1, 1]) b c [])) = true := by kernel_rfl
theorem l11_11 : gB [.nil, .zero, .no, .long, .pt 0] (fun c => run (.row [2]) (.row [2]) c []) = true := by kernel_rfl
theorem t11_11_1 : FtOk (run (.row [2]) (.row [2]) (.pt 1)) := ⟨tr (df c7_1 c7_1 1 1), by kernel_rfl⟩
theorem t11_11_4 : FtOk (run (.row [2]) (.row [2]) (.pt 4)) := ⟨tr (df c7_4 c7_4 4 4), by kernel_rfl⟩
theorem w11_3 : gB L11_3 (fun b => gB pclasses (fun c => run (.row [2]) b c [])) = true := by kernel_rfl
theorem t13_13_4 : FtOk (run (.row [2, 1, 1]) (.row [2, 1, 1]) (.pt 4)) := ⟨tr (df c9_4 c9_4 12 12), by kernel_rfl⟩
theorem l13_21 : gB [.nil, .zero, .no, .long, .pt 0, .pt 1, .pt 2] (fun c => run (.row [2, 1, 1]) (.row [3, 1]) c []) = true := by kernel_rfl
theorem t13_21_3 : FtOk (run (.row [2, 1, 1]) (.row [3, 1]) (.pt 3)) := ⟨tr (df c9_3 c17_3 3 6), by kernel_rfl⟩
theorem w13_2 : gB L13_2 (fun b => gB pclasses (fun c => run (.row [2, 1, 1]) b c [])) = true := by kernel_rfl
theorem w15_2 : gB L15_2 (fun b => gB pclasses (fun c => run (.row [2, 1, 1, 1, 1]) b c [])) = true := by kernel_rfl
theorem l17_9 : gB [.nil, .zero, .no, .long, .pt 0, .pt 1, .pt 2, .pt 3, .pt 4] (fun c => run (.row [2, 2, 1]) (.row [1, 1, 1, 1, 1]) c []) = true := by kernel_rfl
theorem l17_14 : gB [.nil, .zero, .no, .long, .pt 0, .pt 1, .pt 2, .pt 3] (fun c => run (.row [2, 2, 1]) (.row [2, 1, 1, 1]) c []) = true := by kernel_rfl
theorem t17_14_5 : FtOk (run (.row [2, 2, 1]) (.row [2, 1, 1, 1]) (.pt 5)) := ⟨tr (df c13_5 c10_5 30 20), by kernel_rfl⟩
theorem l17_28 : gB [.nil, .zero, .no, .long, .pt 0, .pt 1, .pt 2] (fun c => run (.row [2, 2, 1]) (.row [4, 1]) c []) = true := by kernel_rfl
theorem t17_28_4 : FtOk (run (.row [2, 2, 1]) (.row [4, 1]) (.pt 4)) := ⟨tr (df c13_4 c24_4 12 12), by kernel_rfl⟩
theorem l18_15 : gB [.nil, .zero, .no, .long, .pt 0, .pt 1, .pt 2, .pt 3, .pt 4] (fun c => run (.row [2, 2, 1, 1]) (.row [2, 1, 1, 1, 1]) c []) = true := by kernel_rfl
theorem l18_18 : gB [.nil, .zero, .no, .long, .pt 0, .pt 1, .pt 2, .pt 3] (fun c => run (.row [2, 2, 1, 1]) (.row [2, 2, 1, 1]) c []) = true := by kernel_rfl
theorem t18_18_5 : FtOk (run (.row [2, 2, 1, 1]) (.row [2, 2, 1, 1]) (.pt 5)) := ⟨tr (df c14_5 c14_5 30 30), by kernel_rfl⟩
theorem t18_25_5 : FtOk (run (.row [2, 2, 1, 1]) (.row [3, 2, 1]) (.pt 5)) := ⟨tr (df c14_5 c21_5 30 60), by kernel_rfl⟩
theorem t18_33_5 : FtOk (run (.row [2, 2, 1, 1]) (.row [6]) (.pt 5)) := ⟨tr (df c14_5 c29_5 30 5), by kernel_rfl⟩
theorem t19_19_5 : FtOk (run (.row [2, 2, 2]) (.row [2, 2, 2]) (.pt 5)) := ⟨tr (df c15_5 c15_5 10 10), by kernel_rfl⟩
theorem t19_29_4 : FtOk (run (.row [2, 2, 2]) (.row [4, 1, 1]) (.pt 4)) := ⟨tr (df c15_4 c25_4 4 12), by kernel_rfl⟩
theorem w19_0 : gB L19_0 (fun b => gB pclasses (fun c => run (.row [2, 2, 2]) b c [])) = true := by kernel_rfl
theorem w21_1 : gB L21_1 (fun b => gB pclasses (fun c => run (.row [3, 1]) b c [])) = true := by kernel_rfl
theorem l23_26 : gB [.nil, .zero, .no, .long, .pt 0, .pt 1, .pt 2, .pt 3] (fun c => run (.row [3, 1, 1, 1]) (.row [3, 3]) c []) = true := by kernel_rfl
theorem t23_29_4 : FtOk (run (.row [3, 1, 1, 1]) (.row [4, 1, 1]) (.pt 4)) := ⟨tr (df c19_4 c25_4 4 12), by kernel_rfl⟩
theorem t23_33_4 : FtOk (run (.row [3, 1, 1, 1]) (.row [6]) (.pt 4)) := ⟨tr (df c19_4 c29_4 4 4), by kernel_rfl⟩
theorem l24_17 : gB [.nil, .zero, .no, .long, .pt 0, .pt 1, .pt 2] (fun c => run (.row [3, 2]) (.row [2, 2, 1]) c []) = true := by kernel_rfl
theorem t24_17_3 : FtOk (run (.row [3, 2]) (.row [2, 2, 1]) (.pt 3)) := ⟨tr (df c20_3 c13_3 6 3), by kernel_rfl⟩
theorem t24_24_4 : FtOk (run (.row [3, 2]) (.row [3, 2]) (.pt 4)) := ⟨tr (df c20_4 c20_4 12 12), by kernel_rfl⟩
theorem t24_31_5 : FtOk (run (.row [3, 2]) (.row [5]) (.pt 5)) := ⟨tr (df c20_5 c27_5 20 5), by kernel_rfl⟩
theorem l25_23 : gB [.nil, .zero, .no, .long, .pt 0, .pt 1, .pt 2, .pt 3] (fun c => run (.row [3, 2, 1]) (.row [3, 1, 1, 1]) c []) = true := by kernel_rfl
theorem t25_23_4 : FtOk (run (.row [3, 2, 1]) (.row [3, 1, 1, 1]) (.pt 4)) := ⟨tr (df c21_4 c19_4 24 4), by kernel_rfl⟩
theorem t25_29_4 : FtOk (run (.row [3, 2, 1]) (.row [4, 1, 1]) (.pt 4)) := ⟨tr (df c21_4 c25_4 24 12), by kernel_rfl⟩
theorem t25_33_4 : FtOk (run (.row [3, 2, 1]) (.row [6]) (.pt 4)) := ⟨tr (df c21_4 c29_4 24 4), by kernel_rfl⟩
theorem t26_19_3 : FtOk (run (.row [3, 3]) (.row [2, 2, 2]) (.pt 3)) := ⟨tr (df c22_3 c15_3 3 1), by kernel_rfl⟩
theorem t26_25_5 : FtOk (run (.row [3, 3]) (.row [3, 2, 1]) (.pt 5)) := ⟨tr (df c22_5 c21_5 10 60), by kernel_rfl⟩
theorem t26_30_5 : FtOk (run (.row [3, 3]) (.row [4, 2]) (.pt 5)) := ⟨tr (df c22_5 c26_5 10 20), by kernel_rfl⟩
theorem l27_13 : gB [.nil, .zero, .no, .long, .pt 0, .pt 1, .pt 2] (fun c => run (.row [4]) (.row [2, 1, 1]) c []) = true := by kernel_rfl
theorem t27_13_4 : FtOk (run (.row [4]) (.row [2, 1, 1]) (.pt 4)) := ⟨tr (df c23_4 c9_4 4 12), by kernel_rfl⟩
theorem t27_21_5 : FtOk (run (.row [4]) (.row [3, 1]) (.pt 5)) := ⟨tr (df c23_5 c17_5 5 20), by kernel_rfl⟩
theorem t28_14_5 : FtOk (run (.row [4, 1]) (.row [2, 1, 1, 1]) (.pt 5)) := ⟨tr (df c24_5 c10_5 20 20), by kernel_rfl⟩
theorem t28_24_3 : FtOk (run (.row [4, 1]) (.row [3, 2]) (.pt 3)) := ⟨tr (df c24_3 c20_3 6 6), by kernel_rfl⟩
theorem t28_31_2 : FtOk (run (.row [4, 1]) (.row [5]) (.pt 2)) := ⟨tr (df c24_2 c27_2 2 2), by kernel_rfl⟩
theorem w28_2 : gB L28_2 (fun b => gB pclasses (fun c => run (.row [4, 1]) b c [])) = true := by kernel_rfl
theorem t30_23_4 : FtOk (run (.row [4, 2]) (.row [3, 1, 1, 1]) (.pt 4)) := ⟨tr (df c26_4 c19_4 12 4), by kernel_rfl⟩
theorem l30_29 : gB [.nil, .zero, .no, .long, .pt 0, .pt 1, .pt 2] (fun c => run (.row [4, 2]) (.row [4, 1, 1]) c []) = true := by kernel_rfl
theorem t30_29_4 : FtOk (run (.row [4, 2]) (.row [4, 1, 1]) (.pt 4)) := ⟨tr (df c26_4 c25_4 12 12), by kernel_rfl⟩
theorem l30_33 : gB [.nil, .zero, .no, .long, .pt 0, .pt 1] (fun c => run (.row [4, 2]) (.row [6]) c []) = true := by kernel_rfl
theorem t30_33_4 : FtOk (run (.row [4, 2]) (.row [6]) (.pt 4)) := ⟨tr (df c26_4 c29_4 12 4), by kernel_rfl⟩
theorem t31_17_4 : FtOk (run (.row [5]) (.row [2, 2, 1]) (.pt 4)) := ⟨tr (df c27_4 c13_4 4 12), by kernel_rfl⟩
theorem t31_28_2 : FtOk (run (.row [5]) (.row [4, 1]) (.pt 2)) := ⟨tr (df c27_2 c24_2 2 2), by kernel_rfl⟩
theorem t31_31_2 : FtOk (run (.row [5]) (.row [5]) (.pt 2)) := ⟨tr (df c27_2 c27_2 2 2), by kernel_rfl⟩
theorem w31_2 : gB L31_2 (fun b => gB pclasses (fun c => run (.row [5]) b c [])) = true := by kernel_rfl
theorem t33_23_4 : FtOk (run (.row [6]) (.row [3, 1, 1, 1]) (.pt 4)) := ⟨tr (df c29_4 c19_4 4 4), by kernel_rfl⟩
theorem t33_26_5 : FtOk (run (.row [6]) (.row [3, 3]) (.pt 5)) := ⟨tr (df c29_5 c22_5 5 10), by kernel_rfl⟩
theorem l33_33 : gB [.nil, .zero, .no, .long, .pt 0] (fun c => run (.row [6]) (.row [6]) c []) = true := by kernel_rfl
theorem t33_33_3 : FtOk (run (.row [6]) (.row [6]) (.pt 3)) := ⟨tr (df c29_3 c29_3 3 3), by kernel_rfl⟩
end Go.Proofs.Ytnglbchhlpbgkaa.fnExactMeanSignRuns
