/- Runs of the program at a seat. -/
import Derived.Test.YtnglbchhlpbgkacFnExactProductNumberP
namespace Go.Proofs.Ytnglbchhlpbgkac.fnExactProductNumberRuns
open Go Go.Eng
set_option linter.unusedVariables false
set_option linter.unusedSectionVars false
set_option linter.unusedSimpArgs false
set_option maxRecDepth 100000
theorem t0_5 : gB classes (fun c => run .nil (.row [1]) c) = true := by kernel_rfl
theorem t0_17 : gB classes (fun c => run .nil (.row [2, 2, 1]) c) = true := by kernel_rfl
theorem t0_29 : gB classes (fun c => run .nil (.row [4, 1, 1]) c) = true := by kernel_rfl
theorem t1_7 : gB classes (fun c => run .zero (.row [1, 1, 1]) c) = true := by kernel_rfl
theorem t1_19 : gB classes (fun c => run .zero (.row [2, 2, 2]) c) = true := by kernel_rfl
theorem t1_31 : gB classes (fun c => run .zero (.row [5]) c) = true := by kernel_rfl
theorem t2_9 : gB classes (fun c => run .no (.row [1, 1, 1, 1, 1]) c) = true := by kernel_rfl
theorem t2_21 : gB classes (fun c => run .no (.row [3, 1]) c) = true := by kernel_rfl
theorem t2_33 : gB classes (fun c => run .no (.row [6]) c) = true := by kernel_rfl
theorem t3_11 : gB classes (fun c => run .long (.row [2]) c) = true := by kernel_rfl
theorem t3_23 : gB classes (fun c => run .long (.row [3, 1, 1, 1]) c) = true := by kernel_rfl
theorem t4_1 : gB classes (fun c => run (.row []) .zero c) = true := by kernel_rfl
theorem t4_13 : gB classes (fun c => run (.row []) (.row [2, 1, 1]) c) = true := by kernel_rfl
theorem t4_25 : gB classes (fun c => run (.row []) (.row [3, 2, 1]) c) = true := by kernel_rfl
theorem t5_3 : gB classes (fun c => run (.row [1]) .long c) = true := by kernel_rfl
theorem t5_15 : gB classes (fun c => run (.row [1]) (.row [2, 1, 1, 1, 1]) c) = true := by kernel_rfl
theorem t5_27 : gB classes (fun c => run (.row [1]) (.row [4]) c) = true := by kernel_rfl
theorem t6_5 : gB classes (fun c => run (.row [1, 1]) (.row [1]) c) = true := by kernel_rfl
theorem t6_17 : gB classes (fun c => run (.row [1, 1]) (.row [2, 2, 1]) c) = true := by kernel_rfl
theorem t6_29 : gB classes (fun c => run (.row [1, 1]) (.row [4, 1, 1]) c) = true := by kernel_rfl
theorem t7_7 : gB classes (fun c => run (.row [1, 1, 1]) (.row [1, 1, 1]) c) = true := by kernel_rfl
theorem t7_19 : gB classes (fun c => run (.row [1, 1, 1]) (.row [2, 2, 2]) c) = true := by kernel_rfl
theorem t7_31 : gB classes (fun c => run (.row [1, 1, 1]) (.row [5]) c) = true := by kernel_rfl
theorem t8_9 : gB classes (fun c => run (.row [1, 1, 1, 1]) (.row [1, 1, 1, 1, 1]) c) = true := by kernel_rfl
theorem t8_21 : gB classes (fun c => run (.row [1, 1, 1, 1]) (.row [3, 1]) c) = true := by kernel_rfl
theorem t8_33 : gB classes (fun c => run (.row [1, 1, 1, 1]) (.row [6]) c) = true := by kernel_rfl
theorem t9_11 : gB classes (fun c => run (.row [1, 1, 1, 1, 1]) (.row [2]) c) = true := by kernel_rfl
theorem t9_23 : gB classes (fun c => run (.row [1, 1, 1, 1, 1]) (.row [3, 1, 1, 1]) c) = true := by kernel_rfl
theorem t10_1 : gB classes (fun c => run (.row [1, 1, 1, 1, 1, 1]) .zero c) = true := by kernel_rfl
theorem t10_13 : gB classes (fun c => run (.row [1, 1, 1, 1, 1, 1]) (.row [2, 1, 1]) c) = true := by kernel_rfl
theorem t10_25 : gB classes (fun c => run (.row [1, 1, 1, 1, 1, 1]) (.row [3, 2, 1]) c) = true := by kernel_rfl
theorem t11_3 : gB classes (fun c => run (.row [2]) .long c) = true := by kernel_rfl
theorem t11_15 : gB classes (fun c => run (.row [2]) (.row [2, 1, 1, 1, 1]) c) = true := by kernel_rfl
theorem t11_27 : gB classes (fun c => run (.row [2]) (.row [4]) c) = true := by kernel_rfl
theorem t12_5 : gB classes (fun c => run (.row [2, 1]) (.row [1]) c) = true := by kernel_rfl
theorem t12_17 : gB classes (fun c => run (.row [2, 1]) (.row [2, 2, 1]) c) = true := by kernel_rfl
theorem t12_29 : gB classes (fun c => run (.row [2, 1]) (.row [4, 1, 1]) c) = true := by kernel_rfl
theorem t13_7 : gB classes (fun c => run (.row [2, 1, 1]) (.row [1, 1, 1]) c) = true := by kernel_rfl
theorem t13_19 : gB classes (fun c => run (.row [2, 1, 1]) (.row [2, 2, 2]) c) = true := by kernel_rfl
theorem t13_31 : gB classes (fun c => run (.row [2, 1, 1]) (.row [5]) c) = true := by kernel_rfl
theorem t14_9 : gB classes (fun c => run (.row [2, 1, 1, 1]) (.row [1, 1, 1, 1, 1]) c) = true := by kernel_rfl
theorem t14_21 : gB classes (fun c => run (.row [2, 1, 1, 1]) (.row [3, 1]) c) = true := by kernel_rfl
theorem t14_33 : gB classes (fun c => run (.row [2, 1, 1, 1]) (.row [6]) c) = true := by kernel_rfl
theorem t15_11 : gB classes (fun c => run (.row [2, 1, 1, 1, 1]) (.row [2]) c) = true := by kernel_rfl
theorem t15_23 : gB classes (fun c => run (.row [2, 1, 1, 1, 1]) (.row [3, 1, 1, 1]) c) = true := by kernel_rfl
theorem t16_1 : gB classes (fun c => run (.row [2, 2]) .zero c) = true := by kernel_rfl
theorem t16_13 : gB classes (fun c => run (.row [2, 2]) (.row [2, 1, 1]) c) = true := by kernel_rfl
theorem t16_25 : gB classes (fun c => run (.row [2, 2]) (.row [3, 2, 1]) c) = true := by kernel_rfl
theorem t17_3 : gB classes (fun c => run (.row [2, 2, 1]) .long c) = true := by kernel_rfl
theorem t17_15 : gB classes (fun c => run (.row [2, 2, 1]) (.row [2, 1, 1, 1, 1]) c) = true := by kernel_rfl
theorem t17_27 : gB classes (fun c => run (.row [2, 2, 1]) (.row [4]) c) = true := by kernel_rfl
theorem t18_5 : gB classes (fun c => run (.row [2, 2, 1, 1]) (.row [1]) c) = true := by kernel_rfl
theorem t18_17 : gB classes (fun c => run (.row [2, 2, 1, 1]) (.row [2, 2, 1]) c) = true := by kernel_rfl
theorem t18_29 : gB classes (fun c => run (.row [2, 2, 1, 1]) (.row [4, 1, 1]) c) = true := by kernel_rfl
theorem t19_7 : gB classes (fun c => run (.row [2, 2, 2]) (.row [1, 1, 1]) c) = true := by kernel_rfl
theorem t19_19 : gB classes (fun c => run (.row [2, 2, 2]) (.row [2, 2, 2]) c) = true := by kernel_rfl
theorem t19_31 : gB classes (fun c => run (.row [2, 2, 2]) (.row [5]) c) = true := by kernel_rfl
theorem t20_9 : gB classes (fun c => run (.row [3]) (.row [1, 1, 1, 1, 1]) c) = true := by kernel_rfl
theorem t20_21 : gB classes (fun c => run (.row [3]) (.row [3, 1]) c) = true := by kernel_rfl
theorem t20_33 : gB classes (fun c => run (.row [3]) (.row [6]) c) = true := by kernel_rfl
theorem t21_11 : gB classes (fun c => run (.row [3, 1]) (.row [2]) c) = true := by kernel_rfl
theorem t21_23 : gB classes (fun c => run (.row [3, 1]) (.row [3, 1, 1, 1]) c) = true := by kernel_rfl
theorem t22_1 : gB classes (fun c => run (.row [3, 1, 1]) .zero c) = true := by kernel_rfl
theorem t22_13 : gB classes (fun c => run (.row [3, 1, 1]) (.row [2, 1, 1]) c) = true := by kernel_rfl
theorem t22_25 : gB classes (fun c => run (.row [3, 1, 1]) (.row [3, 2, 1]) c) = true := by kernel_rfl
theorem t23_3 : gB classes (fun c => run (.row [3, 1, 1, 1]) .long c) = true := by kernel_rfl
theorem t23_15 : gB classes (fun c => run (.row [3, 1, 1, 1]) (.row [2, 1, 1, 1, 1]) c) = true := by kernel_rfl
theorem t23_27 : gB classes (fun c => run (.row [3, 1, 1, 1]) (.row [4]) c) = true := by kernel_rfl
theorem t24_5 : gB classes (fun c => run (.row [3, 2]) (.row [1]) c) = true := by kernel_rfl
theorem t24_17 : gB classes (fun c => run (.row [3, 2]) (.row [2, 2, 1]) c) = true := by kernel_rfl
theorem t24_29 : gB classes (fun c => run (.row [3, 2]) (.row [4, 1, 1]) c) = true := by kernel_rfl
theorem t25_7 : gB classes (fun c => run (.row [3, 2, 1]) (.row [1, 1, 1]) c) = true := by kernel_rfl
theorem t25_19 : gB classes (fun c => run (.row [3, 2, 1]) (.row [2, 2, 2]) c) = true := by kernel_rfl
theorem t25_31 : gB classes (fun c => run (.row [3, 2, 1]) (.row [5]) c) = true := by kernel_rfl
theorem t26_9 : gB classes (fun c => run (.row [3, 3]) (.row [1, 1, 1, 1, 1]) c) = true := by kernel_rfl
theorem t26_21 : gB classes (fun c => run (.row [3, 3]) (.row [3, 1]) c) = true := by kernel_rfl
theorem t26_33 : gB classes (fun c => run (.row [3, 3]) (.row [6]) c) = true := by kernel_rfl
theorem t27_11 : gB classes (fun c => run (.row [4]) (.row [2]) c) = true := by kernel_rfl
theorem t27_23 : gB classes (fun c => run (.row [4]) (.row [3, 1, 1, 1]) c) = true := by kernel_rfl
theorem t28_1 : gB classes (fun c => run (.row [4, 1]) .zero c) = true := by kernel_rfl
theorem t28_13 : gB classes (fun c => run (.row [4, 1]) (.row [2, 1, 1]) c) = true := by kernel_rfl
theorem t28_25 : gB classes (fun c => run (.row [4, 1]) (.row [3, 2, 1]) c) = true := by kernel_rfl
theorem t29_3 : gB classes (fun c => run (.row [4, 1, 1]) .long c) = true := by kernel_rfl
theorem t29_15 : gB classes (fun c => run (.row [4, 1, 1]) (.row [2, 1, 1, 1, 1]) c) = true := by kernel_rfl
theorem t29_27 : gB classes (fun c => run (.row [4, 1, 1]) (.row [4]) c) = true := by kernel_rfl
theorem t30_5 : gB classes (fun c => run (.row [4, 2]) (.row [1]) c) = true := by kernel_rfl
theorem t30_17 : gB classes (fun c => run (.row [4, 2]) (.row [2, 2, 1]) c) = true := by kernel_rfl
theorem t30_29 : gB classes (fun c => run (.row [4, 2]) (.row [4, 1, 1]) c) = true := by kernel_rfl
theorem t31_7 : gB classes (fun c => run (.row [5]) (.row [1, 1, 1]) c) = true := by kernel_rfl
theorem t31_19 : gB classes (fun c => run (.row [5]) (.row [2, 2, 2]) c) = true := by kernel_rfl
theorem t31_31 : gB classes (fun c => run (.row [5]) (.row [5]) c) = true := by kernel_rfl
theorem t32_9 : gB classes (fun c => run (.row [5, 1]) (.row [1, 1, 1, 1, 1]) c) = true := by kernel_rfl
theorem t32_21 : gB classes (fun c => run (.row [5, 1]) (.row [3, 1]) c) = true := by kernel_rfl
theorem t32_33 : gB classes (fun c => run (.row [5, 1]) (.row [6]) c) = true := by kernel_rfl
theorem t33_11 : gB classes (fun c => run (.row [6]) (.row [2]) c) = true := by kernel_rfl
theorem t33_23 : gB classes (fun c => run (.row [6]) (.row [3, 1, 1, 1]) c) = true := by kernel_rfl
end Go.Proofs.Ytnglbchhlpbgkac.fnExactProductNumberRuns
