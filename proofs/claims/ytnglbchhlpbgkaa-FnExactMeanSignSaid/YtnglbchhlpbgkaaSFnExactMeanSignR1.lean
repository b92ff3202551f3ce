/- Runs of the program at a seat. -/
import Derived.Test.YtnglbchhlpbgkaaSFnExactMeanSignP
namespace Go.Proofs.Ytnglbchhlpbgkaa.fnExactMeanSignRuns
open Go Go.Eng
set_option linter.unusedVariables false
set_option linter.unusedSectionVars false
set_option linter.unusedSimpArgs false
set_option maxRecDepth 100000
theorem w0_1 : gB L0_1 (fun b => gB pclasses (fun c => run .nil b c [])) = true := by kernel_rfl
theorem w4_0 : gB L4_0 (fun b => gB pclasses (fun c => run (.row []) b c [])) = true := by kernel_rfl
theorem w6_0 : gB L6_0 (fun b => gB pclasses (fun c => run (.row [1, 1]) b c [])) = true := by kernel_rfl
theorem w8_3 : gB L8_3 (fun b => gB pclasses (fun c => run (.row [1, 1, 1, 1]) b c [])) = true := by kernel_rfl
theorem l9_28 : gB [.nil, .zero, .no, .long, .pt 0, .pt 1, .pt 2, .pt 3, .pt 4] (fun c => run (.row [1, 1, 1, 1, 1]) (.row [4, 1]) c []) = true := by kernel_rfl
theorem t9_28_5 : FtOk (run (.row [1, 1, 1, 1, 1]) (.row [4, 1]) (.pt 5)) := ⟨tr (df c5_5 c24_5 1 20), by kernel_rfl⟩
theorem l11_6 : gB [.nil, .zero, .no, .long, .pt 0, .pt 1] (fun c => run (.row [2]) (.row [1, 1]) c []) = true := by kernel_rfl
theorem t11_6_2 : FtOk (run (.row [2]) (.row [1, 1]) (.pt 2)) := ⟨tr (df c7_2 c2_2 2 1), by kernel_rfl⟩
theorem t11_6_4 : FtOk (run (.row [2]) (.row [1, 1]) (.pt 4)) := ⟨tr (df c7_4 c2_4 4 6), by kernel_rfl⟩
theorem t11_11_2 : FtOk (run (.row [2]) (.row [2]) (.pt 2)) := ⟨tr (df c7_2 c7_2 2 2), by kernel_rfl⟩
theorem w11_0 : gB L11_0 (fun b => gB pclasses (fun c => run (.row [2]) b c [])) = true := by kernel_rfl
theorem t13_21_4 : FtOk (run (.row [2, 1, 1]) (.row [3, 1]) (.pt 4)) := ⟨tr (df c9_4 c17_4 12 12), by kernel_rfl⟩
theorem l14_14 : gB [.nil, .zero, .no, .long, .pt 0, .pt 1, .pt 2, .pt 3] (fun c => run (.row [2, 1, 1, 1]) (.row [2, 1, 1, 1]) c []) = true := by kernel_rfl
theorem t14_14_5 : FtOk (run (.row [2, 1, 1, 1]) (.row [2, 1, 1, 1]) (.pt 5)) := ⟨tr (df c10_5 c10_5 20 20), by kernel_rfl⟩
theorem t14_28_4 : FtOk (run (.row [2, 1, 1, 1]) (.row [4, 1]) (.pt 4)) := ⟨tr (df c10_4 c24_4 4 12), by kernel_rfl⟩
theorem t15_15_5 : FtOk (run (.row [2, 1, 1, 1, 1]) (.row [2, 1, 1, 1, 1]) (.pt 5)) := ⟨tr (df c11_5 c11_5 5 5), by kernel_rfl⟩
theorem l15_29 : gB [.nil, .zero, .no, .long, .pt 0, .pt 1, .pt 2, .pt 3, .pt 4] (fun c => run (.row [2, 1, 1, 1, 1]) (.row [4, 1, 1]) c []) = true := by kernel_rfl
theorem l15_30 : gB [.nil, .zero, .no, .long, .pt 0, .pt 1, .pt 2, .pt 3, .pt 4] (fun c => run (.row [2, 1, 1, 1, 1]) (.row [4, 2]) c []) = true := by kernel_rfl
theorem l15_32 : gB [.nil, .zero, .no, .long, .pt 0, .pt 1, .pt 2, .pt 3, .pt 4] (fun c => run (.row [2, 1, 1, 1, 1]) (.row [5, 1]) c []) = true := by kernel_rfl
theorem w15_0 : gB L15_0 (fun b => gB pclasses (fun c => run (.row [2, 1, 1, 1, 1]) b c [])) = true := by kernel_rfl
theorem t17_24_4 : FtOk (run (.row [2, 2, 1]) (.row [3, 2]) (.pt 4)) := ⟨tr (df c13_4 c20_4 12 12), by kernel_rfl⟩
theorem w17_1 : gB L17_1 (fun b => gB pclasses (fun c => run (.row [2, 2, 1]) b c [])) = true := by kernel_rfl
theorem l19_25 : gB [.nil, .zero, .no, .long, .pt 0, .pt 1, .pt 2] (fun c => run (.row [2, 2, 2]) (.row [3, 2, 1]) c []) = true := by kernel_rfl
theorem t19_25_5 : FtOk (run (.row [2, 2, 2]) (.row [3, 2, 1]) (.pt 5)) := ⟨tr (df c15_5 c21_5 10 60), by kernel_rfl⟩
theorem l19_32 : gB [.nil, .zero, .no, .long, .pt 0, .pt 1, .pt 2] (fun c => run (.row [2, 2, 2]) (.row [5, 1]) c []) = true := by kernel_rfl
theorem t19_32_4 : FtOk (run (.row [2, 2, 2]) (.row [5, 1]) (.pt 4)) := ⟨tr (df c15_4 c28_4 4 12), by kernel_rfl⟩
theorem t20_7_5 : FtOk (run (.row [3]) (.row [1, 1, 1]) (.pt 5)) := ⟨tr (df c16_5 c3_5 5 10), by kernel_rfl⟩
theorem w20_3 : gB L20_3 (fun b => gB pclasses (fun c => run (.row [3]) b c [])) = true := by kernel_rfl
theorem t21_21_4 : FtOk (run (.row [3, 1]) (.row [3, 1]) (.pt 4)) := ⟨tr (df c17_4 c17_4 12 12), by kernel_rfl⟩
theorem t22_9_5 : FtOk (run (.row [3, 1, 1]) (.row [1, 1, 1, 1, 1]) (.pt 5)) := ⟨tr (df c18_5 c5_5 30 1), by kernel_rfl⟩
theorem t22_22_4 : FtOk (run (.row [3, 1, 1]) (.row [3, 1, 1]) (.pt 4)) := ⟨tr (df c18_4 c18_4 12 12), by kernel_rfl⟩
theorem t22_31_5 : FtOk (run (.row [3, 1, 1]) (.row [5]) (.pt 5)) := ⟨tr (df c18_5 c27_5 30 5), by kernel_rfl⟩
theorem l23_23 : gB [.nil, .zero, .no, .long, .pt 0, .pt 1, .pt 2, .pt 3] (fun c => run (.row [3, 1, 1, 1]) (.row [3, 1, 1, 1]) c []) = true := by kernel_rfl
theorem t23_23_4 : FtOk (run (.row [3, 1, 1, 1]) (.row [3, 1, 1, 1]) (.pt 4)) := ⟨tr (df c19_4 c19_4 4 4), by kernel_rfl⟩
theorem t23_30_4 : FtOk (run (.row [3, 1, 1, 1]) (.row [4, 2]) (.pt 4)) := ⟨tr (df c19_4 c26_4 4 12), by kernel_rfl⟩
theorem l24_9 : gB [.nil, .zero, .no, .long, .pt 0, .pt 1, .pt 2, .pt 3, .pt 4] (fun c => run (.row [3, 2]) (.row [1, 1, 1, 1, 1]) c []) = true := by kernel_rfl
theorem t24_9_5 : FtOk (run (.row [3, 2]) (.row [1, 1, 1, 1, 1]) (.pt 5)) := ⟨tr (df c20_5 c5_5 20 1), by kernel_rfl⟩
theorem t24_22_5 : FtOk (run (.row [3, 2]) (.row [3, 1, 1]) (.pt 5)) := ⟨tr (df c20_5 c18_5 20 30), by kernel_rfl⟩
theorem w24_0 : gB L24_0 (fun b => gB pclasses (fun c => run (.row [3, 2]) b c [])) = true := by kernel_rfl
theorem t26_19_5 : FtOk (run (.row [3, 3]) (.row [2, 2, 2]) (.pt 5)) := ⟨tr (df c22_5 c15_5 10 10), by kernel_rfl⟩
theorem t26_29_3 : FtOk (run (.row [3, 3]) (.row [4, 1, 1]) (.pt 3)) := ⟨tr (df c22_3 c25_3 3 3), by kernel_rfl⟩
theorem t26_32_3 : FtOk (run (.row [3, 3]) (.row [5, 1]) (.pt 3)) := ⟨tr (df c22_3 c28_3 3 6), by kernel_rfl⟩
theorem w26_2 : gB L26_2 (fun b => gB pclasses (fun c => run (.row [3, 3]) b c [])) = true := by kernel_rfl
theorem t28_17_4 : FtOk (run (.row [4, 1]) (.row [2, 2, 1]) (.pt 4)) := ⟨tr (df c24_4 c13_4 12 12), by kernel_rfl⟩
theorem t28_24_4 : FtOk (run (.row [4, 1]) (.row [3, 2]) (.pt 4)) := ⟨tr (df c24_4 c20_4 12 12), by kernel_rfl⟩
theorem w28_0 : gB L28_0 (fun b => gB pclasses (fun c => run (.row [4, 1]) b c [])) = true := by kernel_rfl
theorem t30_19_5 : FtOk (run (.row [4, 2]) (.row [2, 2, 2]) (.pt 5)) := ⟨tr (df c26_5 c15_5 20 10), by kernel_rfl⟩
theorem t30_29_3 : FtOk (run (.row [4, 2]) (.row [4, 1, 1]) (.pt 3)) := ⟨tr (df c26_3 c25_3 6 3), by kernel_rfl⟩
theorem t30_32_2 : FtOk (run (.row [4, 2]) (.row [5, 1]) (.pt 2)) := ⟨tr (df c26_2 c28_2 2 2), by kernel_rfl⟩
theorem t30_33_5 : FtOk (run (.row [4, 2]) (.row [6]) (.pt 5)) := ⟨tr (df c26_5 c29_5 20 5), by kernel_rfl⟩
theorem t31_22_4 : FtOk (run (.row [5]) (.row [3, 1, 1]) (.pt 4)) := ⟨tr (df c27_4 c18_4 4 12), by kernel_rfl⟩
theorem l31_31 : gB [.nil, .zero, .no, .long, .pt 0] (fun c => run (.row [5]) (.row [5]) c []) = true := by kernel_rfl
theorem t31_31_1 : FtOk (run (.row [5]) (.row [5]) (.pt 1)) := ⟨tr (df c27_1 c27_1 1 1), by kernel_rfl⟩
theorem t31_31_5 : FtOk (run (.row [5]) (.row [5]) (.pt 5)) := ⟨tr (df c27_5 c27_5 5 5), by kernel_rfl⟩
theorem l32_23 : gB [.nil, .zero, .no, .long, .pt 0, .pt 1, .pt 2, .pt 3] (fun c => run (.row [5, 1]) (.row [3, 1, 1, 1]) c []) = true := by kernel_rfl
theorem t32_23_4 : FtOk (run (.row [5, 1]) (.row [3, 1, 1, 1]) (.pt 4)) := ⟨tr (df c28_4 c19_4 12 4), by kernel_rfl⟩
theorem l32_29 : gB [.nil, .zero, .no, .long, .pt 0, .pt 1, .pt 2] (fun c => run (.row [5, 1]) (.row [4, 1, 1]) c []) = true := by kernel_rfl
theorem t32_29_5 : FtOk (run (.row [5, 1]) (.row [4, 1, 1]) (.pt 5)) := ⟨tr (df c28_5 c25_5 20 30), by kernel_rfl⟩
theorem t32_33_5 : FtOk (run (.row [5, 1]) (.row [6]) (.pt 5)) := ⟨tr (df c28_5 c29_5 20 5), by kernel_rfl⟩
theorem l33_25 : gB [.nil, .zero, .no, .long, .pt 0, .pt 1, .pt 2] (fun c => run (.row [6]) (.row [3, 2, 1]) c []) = true := by kernel_rfl
theorem t33_25_3 : FtOk (run (.row [6]) (.row [3, 2, 1]) (.pt 3)) := ⟨tr (df c29_3 c21_3 3 6), by kernel_rfl⟩
theorem l33_29 : gB [.nil, .zero, .no, .long, .pt 0, .pt 1, .pt 2] (fun c => run (.row [6]) (.row [4, 1, 1]) c []) = true := by kernel_rfl
theorem t33_29_4 : FtOk (run (.row [6]) (.row [4, 1, 1]) (.pt 4)) := ⟨tr (df c29_4 c25_4 4 12), by kernel_rfl⟩
theorem t33_32_5 : FtOk (run (.row [6]) (.row [5, 1]) (.pt 5)) := ⟨tr (df c29_5 c28_5 5 20), by kernel_rfl⟩
end Go.Proofs.Ytnglbchhlpbgkaa.fnExactMeanSignRuns
