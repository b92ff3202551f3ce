/- Runs of the program at a seat. -/
import Derived.Test.YtnglbchhlpbgkaaSFnExactMeanSignP
namespace Go.Proofs.Ytnglbchhlpbgkaa.fnExactMeanSignRuns
open Go Go.Eng
set_option linter.unusedVariables false
set_option linter.unusedSectionVars false
set_option linter.unusedSimpArgs false
set_option maxRecDepth 100000
theorem w1_0 : gB L1_0 (fun b => gB pclasses (fun c => run .zero b c [])) = true := by kernel_rfl
theorem w4_2 : gB L4_2 (fun b => gB pclasses (fun c => run (.row []) b c [])) = true := by kernel_rfl
theorem w6_2 : gB L6_2 (fun b => gB pclasses (fun c => run (.row [1, 1]) b c [])) = true := by kernel_rfl
theorem t9_9_5 : FtOk (run (.row [1, 1, 1, 1, 1]) (.row [1, 1, 1, 1, 1]) (.pt 5)) := ⟨tr (df c5_5 c5_5 1 1), by kernel_rfl⟩
theorem t9_31_5 : FtOk (run (.row [1, 1, 1, 1, 1]) (.row [5]) (.pt 5)) := ⟨tr (df c5_5 c27_5 1 5), by kernel_rfl⟩
theorem t11_6_3 : FtOk (run (.row [2]) (.row [1, 1]) (.pt 3)) := ⟨tr (df c7_3 c2_3 3 3), by kernel_rfl⟩
theorem t11_6_5 : FtOk (run (.row [2]) (.row [1, 1]) (.pt 5)) := ⟨tr (df c7_5 c2_5 5 10), by kernel_rfl⟩
theorem w11_1 : gB L11_1 (fun b => gB pclasses (fun c => run (.row [2]) b c [])) = true := by kernel_rfl
theorem t13_21_5 : FtOk (run (.row [2, 1, 1]) (.row [3, 1]) (.pt 5)) := ⟨tr (df c9_5 c17_5 30 20), by kernel_rfl⟩
theorem l14_17 : gB [.nil, .zero, .no, .long, .pt 0, .pt 1, .pt 2, .pt 3] (fun c => run (.row [2, 1, 1, 1]) (.row [2, 2, 1]) c []) = true := by kernel_rfl
theorem t14_17_4 : FtOk (run (.row [2, 1, 1, 1]) (.row [2, 2, 1]) (.pt 4)) := ⟨tr (df c10_4 c13_4 4 12), by kernel_rfl⟩
theorem t14_28_5 : FtOk (run (.row [2, 1, 1, 1]) (.row [4, 1]) (.pt 5)) := ⟨tr (df c10_5 c24_5 20 20), by kernel_rfl⟩
theorem t15_23_5 : FtOk (run (.row [2, 1, 1, 1, 1]) (.row [3, 1, 1, 1]) (.pt 5)) := ⟨tr (df c11_5 c19_5 5 20), by kernel_rfl⟩
theorem l15_33 : gB [.nil, .zero, .no, .long, .pt 0, .pt 1, .pt 2, .pt 3, .pt 4] (fun c => run (.row [2, 1, 1, 1, 1]) (.row [6]) c []) = true := by kernel_rfl
theorem w15_1 : gB L15_1 (fun b => gB pclasses (fun c => run (.row [2, 1, 1, 1, 1]) b c [])) = true := by kernel_rfl
theorem t17_24_5 : FtOk (run (.row [2, 2, 1]) (.row [3, 2]) (.pt 5)) := ⟨tr (df c13_5 c20_5 30 20), by kernel_rfl⟩
theorem t18_15_5 : FtOk (run (.row [2, 2, 1, 1]) (.row [2, 1, 1, 1, 1]) (.pt 5)) := ⟨tr (df c14_5 c11_5 30 5), by kernel_rfl⟩
theorem l18_25 : gB [.nil, .zero, .no, .long, .pt 0, .pt 1, .pt 2, .pt 3] (fun c => run (.row [2, 2, 1, 1]) (.row [3, 2, 1]) c []) = true := by kernel_rfl
theorem t18_25_4 : FtOk (run (.row [2, 2, 1, 1]) (.row [3, 2, 1]) (.pt 4)) := ⟨tr (df c14_4 c21_4 6 24), by kernel_rfl⟩
theorem t18_32_4 : FtOk (run (.row [2, 2, 1, 1]) (.row [5, 1]) (.pt 4)) := ⟨tr (df c14_4 c28_4 6 12), by kernel_rfl⟩
theorem t19_18_5 : FtOk (run (.row [2, 2, 2]) (.row [2, 2, 1, 1]) (.pt 5)) := ⟨tr (df c15_5 c14_5 10 30), by kernel_rfl⟩
theorem t19_26_4 : FtOk (run (.row [2, 2, 2]) (.row [3, 3]) (.pt 4)) := ⟨tr (df c15_4 c22_4 4 6), by kernel_rfl⟩
theorem t19_32_3 : FtOk (run (.row [2, 2, 2]) (.row [5, 1]) (.pt 3)) := ⟨tr (df c15_3 c28_3 1 6), by kernel_rfl⟩
theorem w19_1 : gB L19_1 (fun b => gB pclasses (fun c => run (.row [2, 2, 2]) b c [])) = true := by kernel_rfl
theorem w21_3 : gB L21_3 (fun b => gB pclasses (fun c => run (.row [3, 1]) b c [])) = true := by kernel_rfl
theorem t22_17_5 : FtOk (run (.row [3, 1, 1]) (.row [2, 2, 1]) (.pt 5)) := ⟨tr (df c18_5 c13_5 30 30), by kernel_rfl⟩
theorem t22_31_3 : FtOk (run (.row [3, 1, 1]) (.row [5]) (.pt 3)) := ⟨tr (df c18_3 c27_3 3 3), by kernel_rfl⟩
theorem t23_18_4 : FtOk (run (.row [3, 1, 1, 1]) (.row [2, 2, 1, 1]) (.pt 4)) := ⟨tr (df c19_4 c14_4 4 6), by kernel_rfl⟩
theorem t23_23_5 : FtOk (run (.row [3, 1, 1, 1]) (.row [3, 1, 1, 1]) (.pt 5)) := ⟨tr (df c19_5 c19_5 20 20), by kernel_rfl⟩
theorem t23_32_4 : FtOk (run (.row [3, 1, 1, 1]) (.row [5, 1]) (.pt 4)) := ⟨tr (df c19_4 c28_4 4 12), by kernel_rfl⟩
theorem t24_14_5 : FtOk (run (.row [3, 2]) (.row [2, 1, 1, 1]) (.pt 5)) := ⟨tr (df c20_5 c10_5 20 20), by kernel_rfl⟩
theorem t24_24_5 : FtOk (run (.row [3, 2]) (.row [3, 2]) (.pt 5)) := ⟨tr (df c20_5 c20_5 20 20), by kernel_rfl⟩
theorem l25_18 : gB [.nil, .zero, .no, .long, .pt 0, .pt 1, .pt 2, .pt 3] (fun c => run (.row [3, 2, 1]) (.row [2, 2, 1, 1]) c []) = true := by kernel_rfl
theorem l25_19 : gB [.nil, .zero, .no, .long, .pt 0, .pt 1, .pt 2] (fun c => run (.row [3, 2, 1]) (.row [2, 2, 2]) c []) = true := by kernel_rfl
theorem t25_19_3 : FtOk (run (.row [3, 2, 1]) (.row [2, 2, 2]) (.pt 3)) := ⟨tr (df c21_3 c15_3 6 1), by kernel_rfl⟩
theorem t25_23_5 : FtOk (run (.row [3, 2, 1]) (.row [3, 1, 1, 1]) (.pt 5)) := ⟨tr (df c21_5 c19_5 60 20), by kernel_rfl⟩
theorem t25_30_5 : FtOk (run (.row [3, 2, 1]) (.row [4, 2]) (.pt 5)) := ⟨tr (df c21_5 c26_5 60 20), by kernel_rfl⟩
theorem l26_15 : gB [.nil, .zero, .no, .long, .pt 0, .pt 1, .pt 2, .pt 3, .pt 4] (fun c => run (.row [3, 3]) (.row [2, 1, 1, 1, 1]) c []) = true := by kernel_rfl
theorem t26_18_4 : FtOk (run (.row [3, 3]) (.row [2, 2, 1, 1]) (.pt 4)) := ⟨tr (df c22_4 c14_4 6 6), by kernel_rfl⟩
theorem t26_25_4 : FtOk (run (.row [3, 3]) (.row [3, 2, 1]) (.pt 4)) := ⟨tr (df c22_4 c21_4 6 24), by kernel_rfl⟩
theorem t26_30_2 : FtOk (run (.row [3, 3]) (.row [4, 2]) (.pt 2)) := ⟨tr (df c22_2 c26_2 1 2), by kernel_rfl⟩
theorem t26_32_4 : FtOk (run (.row [3, 3]) (.row [5, 1]) (.pt 4)) := ⟨tr (df c22_4 c28_4 6 12), by kernel_rfl⟩
theorem t27_8_5 : FtOk (run (.row [4]) (.row [1, 1, 1, 1]) (.pt 5)) := ⟨tr (df c23_5 c4_5 5 5), by kernel_rfl⟩
theorem l27_27 : gB [.nil, .zero, .no, .long, .pt 0] (fun c => run (.row [4]) (.row [4]) c []) = true := by kernel_rfl
theorem t27_27_2 : FtOk (run (.row [4]) (.row [4]) (.pt 2)) := ⟨tr (df c23_2 c23_2 2 2), by kernel_rfl⟩
theorem w27_2 : gB L27_2 (fun b => gB pclasses (fun c => run (.row [4]) b c [])) = true := by kernel_rfl
theorem l29_26 : gB [.nil, .zero, .no, .long, .pt 0, .pt 1, .pt 2] (fun c => run (.row [4, 1, 1]) (.row [3, 3]) c []) = true := by kernel_rfl
theorem t29_26_3 : FtOk (run (.row [4, 1, 1]) (.row [3, 3]) (.pt 3)) := ⟨tr (df c25_3 c22_3 3 3), by kernel_rfl⟩
theorem l29_30 : gB [.nil, .zero, .no, .long, .pt 0, .pt 1, .pt 2] (fun c => run (.row [4, 1, 1]) (.row [4, 2]) c []) = true := by kernel_rfl
theorem t29_30_4 : FtOk (run (.row [4, 1, 1]) (.row [4, 2]) (.pt 4)) := ⟨tr (df c25_4 c26_4 12 12), by kernel_rfl⟩
theorem w29_1 : gB L29_1 (fun b => gB pclasses (fun c => run (.row [4, 1, 1]) b c [])) = true := by kernel_rfl
theorem t31_22_3 : FtOk (run (.row [5]) (.row [3, 1, 1]) (.pt 3)) := ⟨tr (df c27_3 c18_3 3 3), by kernel_rfl⟩
theorem l31_28 : gB [.nil, .zero, .no, .long, .pt 0, .pt 1] (fun c => run (.row [5]) (.row [4, 1]) c []) = true := by kernel_rfl
theorem t31_28_3 : FtOk (run (.row [5]) (.row [4, 1]) (.pt 3)) := ⟨tr (df c27_3 c24_3 3 6), by kernel_rfl⟩
theorem w31_1 : gB L31_1 (fun b => gB pclasses (fun c => run (.row [5]) b c [])) = true := by kernel_rfl
theorem t33_19_4 : FtOk (run (.row [6]) (.row [2, 2, 2]) (.pt 4)) := ⟨tr (df c29_4 c15_4 4 4), by kernel_rfl⟩
theorem t33_26_2 : FtOk (run (.row [6]) (.row [3, 3]) (.pt 2)) := ⟨tr (df c29_2 c22_2 2 1), by kernel_rfl⟩
theorem l33_30 : gB [.nil, .zero, .no, .long, .pt 0, .pt 1] (fun c => run (.row [6]) (.row [4, 2]) c []) = true := by kernel_rfl
theorem t33_30_2 : FtOk (run (.row [6]) (.row [4, 2]) (.pt 2)) := ⟨tr (df c29_2 c26_2 2 2), by kernel_rfl⟩
theorem t33_32_3 : FtOk (run (.row [6]) (.row [5, 1]) (.pt 3)) := ⟨tr (df c29_3 c28_3 3 6), by kernel_rfl⟩
theorem w33_2 : gB L33_2 (fun b => gB pclasses (fun c => run (.row [6]) b c [])) = true := by kernel_rfl
end Go.Proofs.Ytnglbchhlpbgkaa.fnExactMeanSignRuns
