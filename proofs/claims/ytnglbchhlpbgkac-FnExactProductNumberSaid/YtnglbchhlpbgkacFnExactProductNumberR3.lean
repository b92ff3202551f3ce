/- Runs of the program at a seat. -/
import Derived.Test.YtnglbchhlpbgkacFnExactProductNumberP
namespace Go.Proofs.Ytnglbchhlpbgkac.fnExactProductNumberRuns
open Go Go.Eng
set_option linter.unusedVariables false
set_option linter.unusedSectionVars false
set_option linter.unusedSimpArgs false
set_option maxRecDepth 100000
theorem t0_3 : gB classes (fun c => run .nil .long c) = true := by kernel_rfl
theorem t0_15 : gB classes (fun c => run .nil (.row [2, 1, 1, 1, 1]) c) = true := by kernel_rfl
theorem t0_27 : gB classes (fun c => run .nil (.row [4]) c) = true := by kernel_rfl
theorem t1_5 : gB classes (fun c => run .zero (.row [1]) c) = true := by kernel_rfl
theorem t1_17 : gB classes (fun c => run .zero (.row [2, 2, 1]) c) = true := by kernel_rfl
theorem t1_29 : gB classes (fun c => run .zero (.row [4, 1, 1]) c) = true := by kernel_rfl
theorem t2_7 : gB classes (fun c => run .no (.row [1, 1, 1]) c) = true := by kernel_rfl
theorem t2_19 : gB classes (fun c => run .no (.row [2, 2, 2]) c) = true := by kernel_rfl
theorem t2_31 : gB classes (fun c => run .no (.row [5]) c) = true := by kernel_rfl
theorem t3_9 : gB classes (fun c => run .long (.row [1, 1, 1, 1, 1]) c) = true := by kernel_rfl
theorem t3_21 : gB classes (fun c => run .long (.row [3, 1]) c) = true := by kernel_rfl
theorem t3_33 : gB classes (fun c => run .long (.row [6]) c) = true := by kernel_rfl
theorem t4_11 : gB classes (fun c => run (.row []) (.row [2]) c) = true := by kernel_rfl
theorem t4_23 : gB classes (fun c => run (.row []) (.row [3, 1, 1, 1]) c) = true := by kernel_rfl
theorem t5_1 : gB classes (fun c => run (.row [1]) .zero c) = true := by kernel_rfl
theorem t5_13 : gB classes (fun c => run (.row [1]) (.row [2, 1, 1]) c) = true := by kernel_rfl
theorem t5_25 : gB classes (fun c => run (.row [1]) (.row [3, 2, 1]) c) = true := by kernel_rfl
theorem t6_3 : gB classes (fun c => run (.row [1, 1]) .long c) = true := by kernel_rfl
theorem t6_15 : gB classes (fun c => run (.row [1, 1]) (.row [2, 1, 1, 1, 1]) c) = true := by kernel_rfl
theorem t6_27 : gB classes (fun c => run (.row [1, 1]) (.row [4]) c) = true := by kernel_rfl
theorem t7_5 : gB classes (fun c => run (.row [1, 1, 1]) (.row [1]) c) = true := by kernel_rfl
theorem t7_17 : gB classes (fun c => run (.row [1, 1, 1]) (.row [2, 2, 1]) c) = true := by kernel_rfl
theorem t7_29 : gB classes (fun c => run (.row [1, 1, 1]) (.row [4, 1, 1]) c) = true := by kernel_rfl
theorem t8_7 : gB classes (fun c => run (.row [1, 1, 1, 1]) (.row [1, 1, 1]) c) = true := by kernel_rfl
theorem t8_19 : gB classes (fun c => run (.row [1, 1, 1, 1]) (.row [2, 2, 2]) c) = true := by kernel_rfl
theorem t8_31 : gB classes (fun c => run (.row [1, 1, 1, 1]) (.row [5]) c) = true := by kernel_rfl
theorem t9_9 : gB classes (fun c => run (.row [1, 1, 1, 1, 1]) (.row [1, 1, 1, 1, 1]) c) = true := by kernel_rfl
theorem t9_21 : gB classes (fun c => run (.row [1, 1, 1, 1, 1]) (.row [3, 1]) c) = true := by kernel_rfl
theorem t9_33 : gB classes (fun c => run (.row [1, 1, 1, 1, 1]) (.row [6]) c) = true := by kernel_rfl
theorem t10_11 : gB classes (fun c => run (.row [1, 1, 1, 1, 1, 1]) (.row [2]) c) = true := by kernel_rfl
theorem t10_23 : gB classes (fun c => run (.row [1, 1, 1, 1, 1, 1]) (.row [3, 1, 1, 1]) c) = true := by kernel_rfl
theorem t11_1 : gB classes (fun c => run (.row [2]) .zero c) = true := by kernel_rfl
theorem t11_13 : gB classes (fun c => run (.row [2]) (.row [2, 1, 1]) c) = true := by kernel_rfl
theorem t11_25 : gB classes (fun c => run (.row [2]) (.row [3, 2, 1]) c) = true := by kernel_rfl
theorem t12_3 : gB classes (fun c => run (.row [2, 1]) .long c) = true := by kernel_rfl
theorem t12_15 : gB classes (fun c => run (.row [2, 1]) (.row [2, 1, 1, 1, 1]) c) = true := by kernel_rfl
theorem t12_27 : gB classes (fun c => run (.row [2, 1]) (.row [4]) c) = true := by kernel_rfl
theorem t13_5 : gB classes (fun c => run (.row [2, 1, 1]) (.row [1]) c) = true := by kernel_rfl
theorem t13_17 : gB classes (fun c => run (.row [2, 1, 1]) (.row [2, 2, 1]) c) = true := by kernel_rfl
theorem t13_29 : gB classes (fun c => run (.row [2, 1, 1]) (.row [4, 1, 1]) c) = true := by kernel_rfl
theorem t14_7 : gB classes (fun c => run (.row [2, 1, 1, 1]) (.row [1, 1, 1]) c) = true := by kernel_rfl
theorem t14_19 : gB classes (fun c => run (.row [2, 1, 1, 1]) (.row [2, 2, 2]) c) = true := by kernel_rfl
theorem t14_31 : gB classes (fun c => run (.row [2, 1, 1, 1]) (.row [5]) c) = true := by kernel_rfl
theorem t15_9 : gB classes (fun c => run (.row [2, 1, 1, 1, 1]) (.row [1, 1, 1, 1, 1]) c) = true := by kernel_rfl
theorem t15_21 : gB classes (fun c => run (.row [2, 1, 1, 1, 1]) (.row [3, 1]) c) = true := by kernel_rfl
theorem t15_33 : gB classes (fun c => run (.row [2, 1, 1, 1, 1]) (.row [6]) c) = true := by kernel_rfl
theorem t16_11 : gB classes (fun c => run (.row [2, 2]) (.row [2]) c) = true := by kernel_rfl
theorem t16_23 : gB classes (fun c => run (.row [2, 2]) (.row [3, 1, 1, 1]) c) = true := by kernel_rfl
theorem t17_1 : gB classes (fun c => run (.row [2, 2, 1]) .zero c) = true := by kernel_rfl
theorem t17_13 : gB classes (fun c => run (.row [2, 2, 1]) (.row [2, 1, 1]) c) = true := by kernel_rfl
theorem t17_25 : gB classes (fun c => run (.row [2, 2, 1]) (.row [3, 2, 1]) c) = true := by kernel_rfl
theorem t18_3 : gB classes (fun c => run (.row [2, 2, 1, 1]) .long c) = true := by kernel_rfl
theorem t18_15 : gB classes (fun c => run (.row [2, 2, 1, 1]) (.row [2, 1, 1, 1, 1]) c) = true := by kernel_rfl
theorem t18_27 : gB classes (fun c => run (.row [2, 2, 1, 1]) (.row [4]) c) = true := by kernel_rfl
theorem t19_5 : gB classes (fun c => run (.row [2, 2, 2]) (.row [1]) c) = true := by kernel_rfl
theorem t19_17 : gB classes (fun c => run (.row [2, 2, 2]) (.row [2, 2, 1]) c) = true := by kernel_rfl
theorem t19_29 : gB classes (fun c => run (.row [2, 2, 2]) (.row [4, 1, 1]) c) = true := by kernel_rfl
theorem t20_7 : gB classes (fun c => run (.row [3]) (.row [1, 1, 1]) c) = true := by kernel_rfl
theorem t20_19 : gB classes (fun c => run (.row [3]) (.row [2, 2, 2]) c) = true := by kernel_rfl
theorem t20_31 : gB classes (fun c => run (.row [3]) (.row [5]) c) = true := by kernel_rfl
theorem t21_9 : gB classes (fun c => run (.row [3, 1]) (.row [1, 1, 1, 1, 1]) c) = true := by kernel_rfl
theorem t21_21 : gB classes (fun c => run (.row [3, 1]) (.row [3, 1]) c) = true := by kernel_rfl
theorem t21_33 : gB classes (fun c => run (.row [3, 1]) (.row [6]) c) = true := by kernel_rfl
theorem t22_11 : gB classes (fun c => run (.row [3, 1, 1]) (.row [2]) c) = true := by kernel_rfl
theorem t22_23 : gB classes (fun c => run (.row [3, 1, 1]) (.row [3, 1, 1, 1]) c) = true := by kernel_rfl
theorem t23_1 : gB classes (fun c => run (.row [3, 1, 1, 1]) .zero c) = true := by kernel_rfl
theorem t23_13 : gB classes (fun c => run (.row [3, 1, 1, 1]) (.row [2, 1, 1]) c) = true := by kernel_rfl
theorem t23_25 : gB classes (fun c => run (.row [3, 1, 1, 1]) (.row [3, 2, 1]) c) = true := by kernel_rfl
theorem t24_3 : gB classes (fun c => run (.row [3, 2]) .long c) = true := by kernel_rfl
theorem t24_15 : gB classes (fun c => run (.row [3, 2]) (.row [2, 1, 1, 1, 1]) c) = true := by kernel_rfl
theorem t24_27 : gB classes (fun c => run (.row [3, 2]) (.row [4]) c) = true := by kernel_rfl
theorem t25_5 : gB classes (fun c => run (.row [3, 2, 1]) (.row [1]) c) = true := by kernel_rfl
theorem t25_17 : gB classes (fun c => run (.row [3, 2, 1]) (.row [2, 2, 1]) c) = true := by kernel_rfl
theorem t25_29 : gB classes (fun c => run (.row [3, 2, 1]) (.row [4, 1, 1]) c) = true := by kernel_rfl
theorem t26_7 : gB classes (fun c => run (.row [3, 3]) (.row [1, 1, 1]) c) = true := by kernel_rfl
theorem t26_19 : gB classes (fun c => run (.row [3, 3]) (.row [2, 2, 2]) c) = true := by kernel_rfl
theorem t26_31 : gB classes (fun c => run (.row [3, 3]) (.row [5]) c) = true := by kernel_rfl
theorem t27_9 : gB classes (fun c => run (.row [4]) (.row [1, 1, 1, 1, 1]) c) = true := by kernel_rfl
theorem t27_21 : gB classes (fun c => run (.row [4]) (.row [3, 1]) c) = true := by kernel_rfl
theorem t27_33 : gB classes (fun c => run (.row [4]) (.row [6]) c) = true := by kernel_rfl
theorem t28_11 : gB classes (fun c => run (.row [4, 1]) (.row [2]) c) = true := by kernel_rfl
theorem t28_23 : gB classes (fun c => run (.row [4, 1]) (.row [3, 1, 1, 1]) c) = true := by kernel_rfl
theorem t29_1 : gB classes (fun c => run (.row [4, 1, 1]) .zero c) = true := by kernel_rfl
theorem t29_13 : gB classes (fun c => run (.row [4, 1, 1]) (.row [2, 1, 1]) c) = true := by kernel_rfl
theorem t29_25 : gB classes (fun c => run (.row [4, 1, 1]) (.row [3, 2, 1]) c) = true := by kernel_rfl
theorem t30_3 : gB classes (fun c => run (.row [4, 2]) .long c) = true := by kernel_rfl
theorem t30_15 : gB classes (fun c => run (.row [4, 2]) (.row [2, 1, 1, 1, 1]) c) = true := by kernel_rfl
theorem t30_27 : gB classes (fun c => run (.row [4, 2]) (.row [4]) c) = true := by kernel_rfl
theorem t31_5 : gB classes (fun c => run (.row [5]) (.row [1]) c) = true := by kernel_rfl
theorem t31_17 : gB classes (fun c => run (.row [5]) (.row [2, 2, 1]) c) = true := by kernel_rfl
theorem t31_29 : gB classes (fun c => run (.row [5]) (.row [4, 1, 1]) c) = true := by kernel_rfl
theorem t32_7 : gB classes (fun c => run (.row [5, 1]) (.row [1, 1, 1]) c) = true := by kernel_rfl
theorem t32_19 : gB classes (fun c => run (.row [5, 1]) (.row [2, 2, 2]) c) = true := by kernel_rfl
theorem t32_31 : gB classes (fun c => run (.row [5, 1]) (.row [5]) c) = true := by kernel_rfl
theorem t33_9 : gB classes (fun c => run (.row [6]) (.row [1, 1, 1, 1, 1]) c) = true := by kernel_rfl
theorem t33_21 : gB classes (fun c => run (.row [6]) (.row [3, 1]) c) = true := by kernel_rfl
theorem t33_33 : gB classes (fun c => run (.row [6]) (.row [6]) c) = true := by kernel_rfl
end Go.Proofs.Ytnglbchhlpbgkac.fnExactProductNumberRuns
