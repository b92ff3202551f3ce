/- Runs of the program at a seat. -/
import Derived.Test.YtnglbchhlpbgkaaFnExactMeanStepP
namespace Go.Proofs.Ytnglbchhlpbgkaa.fnExactMeanStepRuns
open Go Go.Eng
set_option linter.unusedVariables false
set_option linter.unusedSectionVars false
set_option linter.unusedSimpArgs false
set_option maxRecDepth 100000
theorem t0_1 : gB (iclasses 6) (fun c => run .nil (.big 6) c) = true := by kernel_rfl
theorem t0_4 : gB (iclasses 6) (fun c => run .nil (.is 2) c) = true := by kernel_rfl
theorem t0_7 : gB (iclasses 6) (fun c => run .nil (.is 5) c) = true := by kernel_rfl
theorem t1_1 : gB (iclasses 6) (fun c => run .zero (.big 6) c) = true := by kernel_rfl
theorem t1_4 : gB (iclasses 6) (fun c => run .zero (.is 2) c) = true := by kernel_rfl
theorem t1_7 : gB (iclasses 6) (fun c => run .zero (.is 5) c) = true := by kernel_rfl
theorem t2_1 : gB (iclasses 6) (fun c => run .no (.big 6) c) = true := by kernel_rfl
theorem t2_4 : gB (iclasses 6) (fun c => run .no (.is 2) c) = true := by kernel_rfl
theorem t2_7 : gB (iclasses 6) (fun c => run .no (.is 5) c) = true := by kernel_rfl
theorem t3_1 : gB (iclasses 6) (fun c => run .long (.big 6) c) = true := by kernel_rfl
theorem t3_4 : gB (iclasses 6) (fun c => run .long (.is 2) c) = true := by kernel_rfl
theorem t3_7 : gB (iclasses 6) (fun c => run .long (.is 5) c) = true := by kernel_rfl
theorem t4_1 : gB (iclasses 6) (fun c => run (.row []) (.big 6) c) = true := by kernel_rfl
theorem t4_4 : gB (iclasses 6) (fun c => run (.row []) (.is 2) c) = true := by kernel_rfl
theorem t4_7 : gB (iclasses 6) (fun c => run (.row []) (.is 5) c) = true := by kernel_rfl
theorem t5_1 : gB (iclasses 6) (fun c => run (.row [1]) (.big 6) c) = true := by kernel_rfl
theorem t5_4 : gB (iclasses 6) (fun c => run (.row [1]) (.is 2) c) = true := by kernel_rfl
theorem t5_7 : gB (iclasses 6) (fun c => run (.row [1]) (.is 5) c) = true := by kernel_rfl
theorem t6_1 : gB (iclasses 6) (fun c => run (.row [1, 1]) (.big 6) c) = true := by kernel_rfl
theorem t6_4 : gB (iclasses 6) (fun c => run (.row [1, 1]) (.is 2) c) = true := by kernel_rfl
theorem t6_7 : gB (iclasses 6) (fun c => run (.row [1, 1]) (.is 5) c) = true := by kernel_rfl
theorem t7_1 : gB (iclasses 6) (fun c => run (.row [1, 1, 1]) (.big 6) c) = true := by kernel_rfl
theorem t7_4 : gB (iclasses 6) (fun c => run (.row [1, 1, 1]) (.is 2) c) = true := by kernel_rfl
theorem t7_7 : gB (iclasses 6) (fun c => run (.row [1, 1, 1]) (.is 5) c) = true := by kernel_rfl
theorem t8_1 : gB (iclasses 6) (fun c => run (.row [1, 1, 1, 1]) (.big 6) c) = true := by kernel_rfl
theorem t8_4 : gB (iclasses 6) (fun c => run (.row [1, 1, 1, 1]) (.is 2) c) = true := by kernel_rfl
theorem t8_7 : gB (iclasses 6) (fun c => run (.row [1, 1, 1, 1]) (.is 5) c) = true := by kernel_rfl
theorem t9_1 : gB (iclasses 6) (fun c => run (.row [1, 1, 1, 1, 1]) (.big 6) c) = true := by kernel_rfl
theorem t9_4 : gB (iclasses 6) (fun c => run (.row [1, 1, 1, 1, 1]) (.is 2) c) = true := by kernel_rfl
theorem t9_7 : gB (iclasses 6) (fun c => run (.row [1, 1, 1, 1, 1]) (.is 5) c) = true := by kernel_rfl
theorem t10_1 : gB (iclasses 6) (fun c => run (.row [1, 1, 1, 1, 1, 1]) (.big 6) c) = true := by kernel_rfl
theorem t10_4 : gB (iclasses 6) (fun c => run (.row [1, 1, 1, 1, 1, 1]) (.is 2) c) = true := by kernel_rfl
theorem t10_7 : gB (iclasses 6) (fun c => run (.row [1, 1, 1, 1, 1, 1]) (.is 5) c) = true := by kernel_rfl
theorem t11_1 : gB (iclasses 6) (fun c => run (.row [2]) (.big 6) c) = true := by kernel_rfl
theorem t11_4 : gB (iclasses 6) (fun c => run (.row [2]) (.is 2) c) = true := by kernel_rfl
theorem t11_7 : gB (iclasses 6) (fun c => run (.row [2]) (.is 5) c) = true := by kernel_rfl
theorem t12_1 : gB (iclasses 6) (fun c => run (.row [2, 1]) (.big 6) c) = true := by kernel_rfl
theorem t12_4 : gB (iclasses 6) (fun c => run (.row [2, 1]) (.is 2) c) = true := by kernel_rfl
theorem t12_7 : gB (iclasses 6) (fun c => run (.row [2, 1]) (.is 5) c) = true := by kernel_rfl
theorem t13_1 : gB (iclasses 6) (fun c => run (.row [2, 1, 1]) (.big 6) c) = true := by kernel_rfl
theorem t13_4 : gB (iclasses 6) (fun c => run (.row [2, 1, 1]) (.is 2) c) = true := by kernel_rfl
theorem t13_7 : gB (iclasses 6) (fun c => run (.row [2, 1, 1]) (.is 5) c) = true := by kernel_rfl
theorem t14_1 : gB (iclasses 6) (fun c => run (.row [2, 1, 1, 1]) (.big 6) c) = true := by kernel_rfl
theorem t14_4 : gB (iclasses 6) (fun c => run (.row [2, 1, 1, 1]) (.is 2) c) = true := by kernel_rfl
theorem t14_7 : gB (iclasses 6) (fun c => run (.row [2, 1, 1, 1]) (.is 5) c) = true := by kernel_rfl
theorem t15_1 : gB (iclasses 6) (fun c => run (.row [2, 1, 1, 1, 1]) (.big 6) c) = true := by kernel_rfl
theorem t15_4 : gB (iclasses 6) (fun c => run (.row [2, 1, 1, 1, 1]) (.is 2) c) = true := by kernel_rfl
theorem t15_7 : gB (iclasses 6) (fun c => run (.row [2, 1, 1, 1, 1]) (.is 5) c) = true := by kernel_rfl
theorem t16_1 : gB (iclasses 6) (fun c => run (.row [2, 2]) (.big 6) c) = true := by kernel_rfl
theorem t16_4 : gB (iclasses 6) (fun c => run (.row [2, 2]) (.is 2) c) = true := by kernel_rfl
theorem t16_7 : gB (iclasses 6) (fun c => run (.row [2, 2]) (.is 5) c) = true := by kernel_rfl
theorem t17_1 : gB (iclasses 6) (fun c => run (.row [2, 2, 1]) (.big 6) c) = true := by kernel_rfl
theorem t17_4 : gB (iclasses 6) (fun c => run (.row [2, 2, 1]) (.is 2) c) = true := by kernel_rfl
theorem t17_7 : gB (iclasses 6) (fun c => run (.row [2, 2, 1]) (.is 5) c) = true := by kernel_rfl
theorem t18_1 : gB (iclasses 6) (fun c => run (.row [2, 2, 1, 1]) (.big 6) c) = true := by kernel_rfl
theorem t18_4 : gB (iclasses 6) (fun c => run (.row [2, 2, 1, 1]) (.is 2) c) = true := by kernel_rfl
theorem t18_7 : gB (iclasses 6) (fun c => run (.row [2, 2, 1, 1]) (.is 5) c) = true := by kernel_rfl
theorem t19_1 : gB (iclasses 6) (fun c => run (.row [2, 2, 2]) (.big 6) c) = true := by kernel_rfl
theorem t19_4 : gB (iclasses 6) (fun c => run (.row [2, 2, 2]) (.is 2) c) = true := by kernel_rfl
theorem t19_7 : gB (iclasses 6) (fun c => run (.row [2, 2, 2]) (.is 5) c) = true := by kernel_rfl
theorem t20_1 : gB (iclasses 6) (fun c => run (.row [3]) (.big 6) c) = true := by kernel_rfl
theorem t20_4 : gB (iclasses 6) (fun c => run (.row [3]) (.is 2) c) = true := by kernel_rfl
theorem t20_7 : gB (iclasses 6) (fun c => run (.row [3]) (.is 5) c) = true := by kernel_rfl
theorem t21_1 : gB (iclasses 6) (fun c => run (.row [3, 1]) (.big 6) c) = true := by kernel_rfl
theorem t21_4 : gB (iclasses 6) (fun c => run (.row [3, 1]) (.is 2) c) = true := by kernel_rfl
theorem t21_7 : gB (iclasses 6) (fun c => run (.row [3, 1]) (.is 5) c) = true := by kernel_rfl
theorem t22_1 : gB (iclasses 6) (fun c => run (.row [3, 1, 1]) (.big 6) c) = true := by kernel_rfl
theorem t22_4 : gB (iclasses 6) (fun c => run (.row [3, 1, 1]) (.is 2) c) = true := by kernel_rfl
theorem t22_7 : gB (iclasses 6) (fun c => run (.row [3, 1, 1]) (.is 5) c) = true := by kernel_rfl
theorem t23_1 : gB (iclasses 6) (fun c => run (.row [3, 1, 1, 1]) (.big 6) c) = true := by kernel_rfl
theorem t23_4 : gB (iclasses 6) (fun c => run (.row [3, 1, 1, 1]) (.is 2) c) = true := by kernel_rfl
theorem t23_7 : gB (iclasses 6) (fun c => run (.row [3, 1, 1, 1]) (.is 5) c) = true := by kernel_rfl
theorem t24_1 : gB (iclasses 6) (fun c => run (.row [3, 2]) (.big 6) c) = true := by kernel_rfl
theorem t24_4 : gB (iclasses 6) (fun c => run (.row [3, 2]) (.is 2) c) = true := by kernel_rfl
theorem t24_7 : gB (iclasses 6) (fun c => run (.row [3, 2]) (.is 5) c) = true := by kernel_rfl
theorem t25_1 : gB (iclasses 6) (fun c => run (.row [3, 2, 1]) (.big 6) c) = true := by kernel_rfl
theorem t25_4 : gB (iclasses 6) (fun c => run (.row [3, 2, 1]) (.is 2) c) = true := by kernel_rfl
theorem t25_7 : gB (iclasses 6) (fun c => run (.row [3, 2, 1]) (.is 5) c) = true := by kernel_rfl
theorem t26_1 : gB (iclasses 6) (fun c => run (.row [3, 3]) (.big 6) c) = true := by kernel_rfl
theorem t26_4 : gB (iclasses 6) (fun c => run (.row [3, 3]) (.is 2) c) = true := by kernel_rfl
theorem t26_7 : gB (iclasses 6) (fun c => run (.row [3, 3]) (.is 5) c) = true := by kernel_rfl
theorem t27_1 : gB (iclasses 6) (fun c => run (.row [4]) (.big 6) c) = true := by kernel_rfl
theorem t27_4 : gB (iclasses 6) (fun c => run (.row [4]) (.is 2) c) = true := by kernel_rfl
theorem t27_7 : gB (iclasses 6) (fun c => run (.row [4]) (.is 5) c) = true := by kernel_rfl
theorem t28_1 : gB (iclasses 6) (fun c => run (.row [4, 1]) (.big 6) c) = true := by kernel_rfl
theorem t28_4 : gB (iclasses 6) (fun c => run (.row [4, 1]) (.is 2) c) = true := by kernel_rfl
theorem t28_7 : gB (iclasses 6) (fun c => run (.row [4, 1]) (.is 5) c) = true := by kernel_rfl
theorem t29_1 : gB (iclasses 6) (fun c => run (.row [4, 1, 1]) (.big 6) c) = true := by kernel_rfl
theorem t29_4 : gB (iclasses 6) (fun c => run (.row [4, 1, 1]) (.is 2) c) = true := by kernel_rfl
theorem t29_7 : gB (iclasses 6) (fun c => run (.row [4, 1, 1]) (.is 5) c) = true := by kernel_rfl
theorem t30_1 : gB (iclasses 6) (fun c => run (.row [4, 2]) (.big 6) c) = true := by kernel_rfl
theorem t30_4 : gB (iclasses 6) (fun c => run (.row [4, 2]) (.is 2) c) = true := by kernel_rfl
theorem t30_7 : gB (iclasses 6) (fun c => run (.row [4, 2]) (.is 5) c) = true := by kernel_rfl
theorem t31_1 : gB (iclasses 6) (fun c => run (.row [5]) (.big 6) c) = true := by kernel_rfl
theorem t31_4 : gB (iclasses 6) (fun c => run (.row [5]) (.is 2) c) = true := by kernel_rfl
theorem t31_7 : gB (iclasses 6) (fun c => run (.row [5]) (.is 5) c) = true := by kernel_rfl
theorem t32_1 : gB (iclasses 6) (fun c => run (.row [5, 1]) (.big 6) c) = true := by kernel_rfl
theorem t32_4 : gB (iclasses 6) (fun c => run (.row [5, 1]) (.is 2) c) = true := by kernel_rfl
theorem t32_7 : gB (iclasses 6) (fun c => run (.row [5, 1]) (.is 5) c) = true := by kernel_rfl
theorem t33_1 : gB (iclasses 6) (fun c => run (.row [6]) (.big 6) c) = true := by kernel_rfl
theorem t33_4 : gB (iclasses 6) (fun c => run (.row [6]) (.is 2) c) = true := by kernel_rfl
theorem t33_7 : gB (iclasses 6) (fun c => run (.row [6]) (.is 5) c) = true := by kernel_rfl
end Go.Proofs.Ytnglbchhlpbgkaa.fnExactMeanStepRuns
