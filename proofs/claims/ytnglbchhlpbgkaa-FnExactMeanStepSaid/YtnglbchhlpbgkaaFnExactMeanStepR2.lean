/- Runs of the program at a seat. -/
import Derived.Test.YtnglbchhlpbgkaaFnExactMeanStepP
namespace Go.Proofs.Ytnglbchhlpbgkaa.fnExactMeanStepRuns
open Go Go.Eng
set_option linter.unusedVariables false
set_option linter.unusedSectionVars false
set_option linter.unusedSimpArgs false
set_option maxRecDepth 100000
theorem t0_2 : gB (iclasses 6) (fun c => run .nil (.is 0) c) = true := by kernel_rfl
theorem t0_5 : gB (iclasses 6) (fun c => run .nil (.is 3) c) = true := by kernel_rfl
theorem t0_8 : gB (iclasses 6) (fun c => run .nil (.is 6) c) = true := by kernel_rfl
theorem t1_2 : gB (iclasses 6) (fun c => run .zero (.is 0) c) = true := by kernel_rfl
theorem t1_5 : gB (iclasses 6) (fun c => run .zero (.is 3) c) = true := by kernel_rfl
theorem t1_8 : gB (iclasses 6) (fun c => run .zero (.is 6) c) = true := by kernel_rfl
theorem t2_2 : gB (iclasses 6) (fun c => run .no (.is 0) c) = true := by kernel_rfl
theorem t2_5 : gB (iclasses 6) (fun c => run .no (.is 3) c) = true := by kernel_rfl
theorem t2_8 : gB (iclasses 6) (fun c => run .no (.is 6) c) = true := by kernel_rfl
theorem t3_2 : gB (iclasses 6) (fun c => run .long (.is 0) c) = true := by kernel_rfl
theorem t3_5 : gB (iclasses 6) (fun c => run .long (.is 3) c) = true := by kernel_rfl
theorem t3_8 : gB (iclasses 6) (fun c => run .long (.is 6) c) = true := by kernel_rfl
theorem t4_2 : gB (iclasses 6) (fun c => run (.row []) (.is 0) c) = true := by kernel_rfl
theorem t4_5 : gB (iclasses 6) (fun c => run (.row []) (.is 3) c) = true := by kernel_rfl
theorem t4_8 : gB (iclasses 6) (fun c => run (.row []) (.is 6) c) = true := by kernel_rfl
theorem t5_2 : gB (iclasses 6) (fun c => run (.row [1]) (.is 0) c) = true := by kernel_rfl
theorem t5_5 : gB (iclasses 6) (fun c => run (.row [1]) (.is 3) c) = true := by kernel_rfl
theorem t5_8 : gB (iclasses 6) (fun c => run (.row [1]) (.is 6) c) = true := by kernel_rfl
theorem t6_2 : gB (iclasses 6) (fun c => run (.row [1, 1]) (.is 0) c) = true := by kernel_rfl
theorem t6_5 : gB (iclasses 6) (fun c => run (.row [1, 1]) (.is 3) c) = true := by kernel_rfl
theorem t6_8 : gB (iclasses 6) (fun c => run (.row [1, 1]) (.is 6) c) = true := by kernel_rfl
theorem t7_2 : gB (iclasses 6) (fun c => run (.row [1, 1, 1]) (.is 0) c) = true := by kernel_rfl
theorem t7_5 : gB (iclasses 6) (fun c => run (.row [1, 1, 1]) (.is 3) c) = true := by kernel_rfl
theorem t7_8 : gB (iclasses 6) (fun c => run (.row [1, 1, 1]) (.is 6) c) = true := by kernel_rfl
theorem t8_2 : gB (iclasses 6) (fun c => run (.row [1, 1, 1, 1]) (.is 0) c) = true := by kernel_rfl
theorem t8_5 : gB (iclasses 6) (fun c => run (.row [1, 1, 1, 1]) (.is 3) c) = true := by kernel_rfl
theorem t8_8 : gB (iclasses 6) (fun c => run (.row [1, 1, 1, 1]) (.is 6) c) = true := by kernel_rfl
theorem t9_2 : gB (iclasses 6) (fun c => run (.row [1, 1, 1, 1, 1]) (.is 0) c) = true := by kernel_rfl
theorem t9_5 : gB (iclasses 6) (fun c => run (.row [1, 1, 1, 1, 1]) (.is 3) c) = true := by kernel_rfl
theorem t9_8 : gB (iclasses 6) (fun c => run (.row [1, 1, 1, 1, 1]) (.is 6) c) = true := by kernel_rfl
theorem t10_2 : gB (iclasses 6) (fun c => run (.row [1, 1, 1, 1, 1, 1]) (.is 0) c) = true := by kernel_rfl
theorem t10_5 : gB (iclasses 6) (fun c => run (.row [1, 1, 1, 1, 1, 1]) (.is 3) c) = true := by kernel_rfl
theorem t10_8 : gB (iclasses 6) (fun c => run (.row [1, 1, 1, 1, 1, 1]) (.is 6) c) = true := by kernel_rfl
theorem t11_2 : gB (iclasses 6) (fun c => run (.row [2]) (.is 0) c) = true := by kernel_rfl
theorem t11_5 : gB (iclasses 6) (fun c => run (.row [2]) (.is 3) c) = true := by kernel_rfl
theorem t11_8 : gB (iclasses 6) (fun c => run (.row [2]) (.is 6) c) = true := by kernel_rfl
theorem t12_2 : gB (iclasses 6) (fun c => run (.row [2, 1]) (.is 0) c) = true := by kernel_rfl
theorem t12_5 : gB (iclasses 6) (fun c => run (.row [2, 1]) (.is 3) c) = true := by kernel_rfl
theorem t12_8 : gB (iclasses 6) (fun c => run (.row [2, 1]) (.is 6) c) = true := by kernel_rfl
theorem t13_2 : gB (iclasses 6) (fun c => run (.row [2, 1, 1]) (.is 0) c) = true := by kernel_rfl
theorem t13_5 : gB (iclasses 6) (fun c => run (.row [2, 1, 1]) (.is 3) c) = true := by kernel_rfl
theorem t13_8 : gB (iclasses 6) (fun c => run (.row [2, 1, 1]) (.is 6) c) = true := by kernel_rfl
theorem t14_2 : gB (iclasses 6) (fun c => run (.row [2, 1, 1, 1]) (.is 0) c) = true := by kernel_rfl
theorem t14_5 : gB (iclasses 6) (fun c => run (.row [2, 1, 1, 1]) (.is 3) c) = true := by kernel_rfl
theorem t14_8 : gB (iclasses 6) (fun c => run (.row [2, 1, 1, 1]) (.is 6) c) = true := by kernel_rfl
theorem t15_2 : gB (iclasses 6) (fun c => run (.row [2, 1, 1, 1, 1]) (.is 0) c) = true := by kernel_rfl
theorem t15_5 : gB (iclasses 6) (fun c => run (.row [2, 1, 1, 1, 1]) (.is 3) c) = true := by kernel_rfl
theorem t15_8 : gB (iclasses 6) (fun c => run (.row [2, 1, 1, 1, 1]) (.is 6) c) = true := by kernel_rfl
theorem t16_2 : gB (iclasses 6) (fun c => run (.row [2, 2]) (.is 0) c) = true := by kernel_rfl
theorem t16_5 : gB (iclasses 6) (fun c => run (.row [2, 2]) (.is 3) c) = true := by kernel_rfl
theorem t16_8 : gB (iclasses 6) (fun c => run (.row [2, 2]) (.is 6) c) = true := by kernel_rfl
theorem t17_2 : gB (iclasses 6) (fun c => run (.row [2, 2, 1]) (.is 0) c) = true := by kernel_rfl
theorem t17_5 : gB (iclasses 6) (fun c => run (.row [2, 2, 1]) (.is 3) c) = true := by kernel_rfl
theorem t17_8 : gB (iclasses 6) (fun c => run (.row [2, 2, 1]) (.is 6) c) = true := by kernel_rfl
theorem t18_2 : gB (iclasses 6) (fun c => run (.row [2, 2, 1, 1]) (.is 0) c) = true := by kernel_rfl
theorem t18_5 : gB (iclasses 6) (fun c => run (.row [2, 2, 1, 1]) (.is 3) c) = true := by kernel_rfl
theorem t18_8 : gB (iclasses 6) (fun c => run (.row [2, 2, 1, 1]) (.is 6) c) = true := by kernel_rfl
theorem t19_2 : gB (iclasses 6) (fun c => run (.row [2, 2, 2]) (.is 0) c) = true := by kernel_rfl
theorem t19_5 : gB (iclasses 6) (fun c => run (.row [2, 2, 2]) (.is 3) c) = true := by kernel_rfl
theorem t19_8 : gB (iclasses 6) (fun c => run (.row [2, 2, 2]) (.is 6) c) = true := by kernel_rfl
theorem t20_2 : gB (iclasses 6) (fun c => run (.row [3]) (.is 0) c) = true := by kernel_rfl
theorem t20_5 : gB (iclasses 6) (fun c => run (.row [3]) (.is 3) c) = true := by kernel_rfl
theorem t20_8 : gB (iclasses 6) (fun c => run (.row [3]) (.is 6) c) = true := by kernel_rfl
theorem t21_2 : gB (iclasses 6) (fun c => run (.row [3, 1]) (.is 0) c) = true := by kernel_rfl
theorem t21_5 : gB (iclasses 6) (fun c => run (.row [3, 1]) (.is 3) c) = true := by kernel_rfl
theorem t21_8 : gB (iclasses 6) (fun c => run (.row [3, 1]) (.is 6) c) = true := by kernel_rfl
theorem t22_2 : gB (iclasses 6) (fun c => run (.row [3, 1, 1]) (.is 0) c) = true := by kernel_rfl
theorem t22_5 : gB (iclasses 6) (fun c => run (.row [3, 1, 1]) (.is 3) c) = true := by kernel_rfl
theorem t22_8 : gB (iclasses 6) (fun c => run (.row [3, 1, 1]) (.is 6) c) = true := by kernel_rfl
theorem t23_2 : gB (iclasses 6) (fun c => run (.row [3, 1, 1, 1]) (.is 0) c) = true := by kernel_rfl
theorem t23_5 : gB (iclasses 6) (fun c => run (.row [3, 1, 1, 1]) (.is 3) c) = true := by kernel_rfl
theorem t23_8 : gB (iclasses 6) (fun c => run (.row [3, 1, 1, 1]) (.is 6) c) = true := by kernel_rfl
theorem t24_2 : gB (iclasses 6) (fun c => run (.row [3, 2]) (.is 0) c) = true := by kernel_rfl
theorem t24_5 : gB (iclasses 6) (fun c => run (.row [3, 2]) (.is 3) c) = true := by kernel_rfl
theorem t24_8 : gB (iclasses 6) (fun c => run (.row [3, 2]) (.is 6) c) = true := by kernel_rfl
theorem t25_2 : gB (iclasses 6) (fun c => run (.row [3, 2, 1]) (.is 0) c) = true := by kernel_rfl
theorem t25_5 : gB (iclasses 6) (fun c => run (.row [3, 2, 1]) (.is 3) c) = true := by kernel_rfl
theorem t25_8 : gB (iclasses 6) (fun c => run (.row [3, 2, 1]) (.is 6) c) = true := by kernel_rfl
theorem t26_2 : gB (iclasses 6) (fun c => run (.row [3, 3]) (.is 0) c) = true := by kernel_rfl
theorem t26_5 : gB (iclasses 6) (fun c => run (.row [3, 3]) (.is 3) c) = true := by kernel_rfl
theorem t26_8 : gB (iclasses 6) (fun c => run (.row [3, 3]) (.is 6) c) = true := by kernel_rfl
theorem t27_2 : gB (iclasses 6) (fun c => run (.row [4]) (.is 0) c) = true := by kernel_rfl
theorem t27_5 : gB (iclasses 6) (fun c => run (.row [4]) (.is 3) c) = true := by kernel_rfl
theorem t27_8 : gB (iclasses 6) (fun c => run (.row [4]) (.is 6) c) = true := by kernel_rfl
theorem t28_2 : gB (iclasses 6) (fun c => run (.row [4, 1]) (.is 0) c) = true := by kernel_rfl
theorem t28_5 : gB (iclasses 6) (fun c => run (.row [4, 1]) (.is 3) c) = true := by kernel_rfl
theorem t28_8 : gB (iclasses 6) (fun c => run (.row [4, 1]) (.is 6) c) = true := by kernel_rfl
theorem t29_2 : gB (iclasses 6) (fun c => run (.row [4, 1, 1]) (.is 0) c) = true := by kernel_rfl
theorem t29_5 : gB (iclasses 6) (fun c => run (.row [4, 1, 1]) (.is 3) c) = true := by kernel_rfl
theorem t29_8 : gB (iclasses 6) (fun c => run (.row [4, 1, 1]) (.is 6) c) = true := by kernel_rfl
theorem t30_2 : gB (iclasses 6) (fun c => run (.row [4, 2]) (.is 0) c) = true := by kernel_rfl
theorem t30_5 : gB (iclasses 6) (fun c => run (.row [4, 2]) (.is 3) c) = true := by kernel_rfl
theorem t30_8 : gB (iclasses 6) (fun c => run (.row [4, 2]) (.is 6) c) = true := by kernel_rfl
theorem t31_2 : gB (iclasses 6) (fun c => run (.row [5]) (.is 0) c) = true := by kernel_rfl
theorem t31_5 : gB (iclasses 6) (fun c => run (.row [5]) (.is 3) c) = true := by kernel_rfl
theorem t31_8 : gB (iclasses 6) (fun c => run (.row [5]) (.is 6) c) = true := by kernel_rfl
theorem t32_2 : gB (iclasses 6) (fun c => run (.row [5, 1]) (.is 0) c) = true := by kernel_rfl
theorem t32_5 : gB (iclasses 6) (fun c => run (.row [5, 1]) (.is 3) c) = true := by kernel_rfl
theorem t32_8 : gB (iclasses 6) (fun c => run (.row [5, 1]) (.is 6) c) = true := by kernel_rfl
theorem t33_2 : gB (iclasses 6) (fun c => run (.row [6]) (.is 0) c) = true := by kernel_rfl
theorem t33_5 : gB (iclasses 6) (fun c => run (.row [6]) (.is 3) c) = true := by kernel_rfl
theorem t33_8 : gB (iclasses 6) (fun c => run (.row [6]) (.is 6) c) = true := by kernel_rfl
end Go.Proofs.Ytnglbchhlpbgkaa.fnExactMeanStepRuns
