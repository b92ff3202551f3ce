/- Runs of the program at a seat. -/
import Derived.Test.YtnglbchhlpbgkacFnExactProductNumberP
namespace Go.Proofs.Ytnglbchhlpbgkac.fnExactProductNumberRuns
open Go Go.Eng
set_option linter.unusedVariables false
set_option linter.unusedSectionVars false
set_option linter.unusedSimpArgs false
set_option maxRecDepth 100000
theorem t0_11 : gB classes (fun c => run .nil (.row [2]) c) = true := by kernel_rfl
theorem t0_23 : gB classes (fun c => run .nil (.row [3, 1, 1, 1]) c) = true := by kernel_rfl
theorem t1_1 : gB classes (fun c => run .zero .zero c) = true := by kernel_rfl
theorem t1_13 : gB classes (fun c => run .zero (.row [2, 1, 1]) c) = true := by kernel_rfl
theorem t1_25 : gB classes (fun c => run .zero (.row [3, 2, 1]) c) = true := by kernel_rfl
theorem t2_3 : gB classes (fun c => run .no .long c) = true := by kernel_rfl
theorem t2_15 : gB classes (fun c => run .no (.row [2, 1, 1, 1, 1]) c) = true := by kernel_rfl
theorem t2_27 : gB classes (fun c => run .no (.row [4]) c) = true := by kernel_rfl
theorem t3_5 : gB classes (fun c => run .long (.row [1]) c) = true := by kernel_rfl
theorem t3_17 : gB classes (fun c => run .long (.row [2, 2, 1]) c) = true := by kernel_rfl
theorem t3_29 : gB classes (fun c => run .long (.row [4, 1, 1]) c) = true := by kernel_rfl
theorem t4_7 : gB classes (fun c => run (.row []) (.row [1, 1, 1]) c) = true := by kernel_rfl
theorem t4_19 : gB classes (fun c => run (.row []) (.row [2, 2, 2]) c) = true := by kernel_rfl
theorem t4_31 : gB classes (fun c => run (.row []) (.row [5]) c) = true := by kernel_rfl
theorem t5_9 : gB classes (fun c => run (.row [1]) (.row [1, 1, 1, 1, 1]) c) = true := by kernel_rfl
theorem t5_21 : gB classes (fun c => run (.row [1]) (.row [3, 1]) c) = true := by kernel_rfl
theorem t5_33 : gB classes (fun c => run (.row [1]) (.row [6]) c) = true := by kernel_rfl
theorem t6_11 : gB classes (fun c => run (.row [1, 1]) (.row [2]) c) = true := by kernel_rfl
theorem t6_23 : gB classes (fun c => run (.row [1, 1]) (.row [3, 1, 1, 1]) c) = true := by kernel_rfl
theorem t7_1 : gB classes (fun c => run (.row [1, 1, 1]) .zero c) = true := by kernel_rfl
theorem t7_13 : gB classes (fun c => run (.row [1, 1, 1]) (.row [2, 1, 1]) c) = true := by kernel_rfl
theorem t7_25 : gB classes (fun c => run (.row [1, 1, 1]) (.row [3, 2, 1]) c) = true := by kernel_rfl
theorem t8_3 : gB classes (fun c => run (.row [1, 1, 1, 1]) .long c) = true := by kernel_rfl
theorem t8_15 : gB classes (fun c => run (.row [1, 1, 1, 1]) (.row [2, 1, 1, 1, 1]) c) = true := by kernel_rfl
theorem t8_27 : gB classes (fun c => run (.row [1, 1, 1, 1]) (.row [4]) c) = true := by kernel_rfl
theorem t9_5 : gB classes (fun c => run (.row [1, 1, 1, 1, 1]) (.row [1]) c) = true := by kernel_rfl
theorem t9_17 : gB classes (fun c => run (.row [1, 1, 1, 1, 1]) (.row [2, 2, 1]) c) = true := by kernel_rfl
theorem t9_29 : gB classes (fun c => run (.row [1, 1, 1, 1, 1]) (.row [4, 1, 1]) c) = true := by kernel_rfl
theorem t10_7 : gB classes (fun c => run (.row [1, 1, 1, 1, 1, 1]) (.row [1, 1, 1]) c) = true := by kernel_rfl
theorem t10_19 : gB classes (fun c => run (.row [1, 1, 1, 1, 1, 1]) (.row [2, 2, 2]) c) = true := by kernel_rfl
theorem t10_31 : gB classes (fun c => run (.row [1, 1, 1, 1, 1, 1]) (.row [5]) c) = true := by kernel_rfl
theorem t11_9 : gB classes (fun c => run (.row [2]) (.row [1, 1, 1, 1, 1]) c) = true := by kernel_rfl
theorem t11_21 : gB classes (fun c => run (.row [2]) (.row [3, 1]) c) = true := by kernel_rfl
theorem t11_33 : gB classes (fun c => run (.row [2]) (.row [6]) c) = true := by kernel_rfl
theorem t12_11 : gB classes (fun c => run (.row [2, 1]) (.row [2]) c) = true := by kernel_rfl
theorem t12_23 : gB classes (fun c => run (.row [2, 1]) (.row [3, 1, 1, 1]) c) = true := by kernel_rfl
theorem t13_1 : gB classes (fun c => run (.row [2, 1, 1]) .zero c) = true := by kernel_rfl
theorem t13_13 : gB classes (fun c => run (.row [2, 1, 1]) (.row [2, 1, 1]) c) = true := by kernel_rfl
theorem t13_25 : gB classes (fun c => run (.row [2, 1, 1]) (.row [3, 2, 1]) c) = true := by kernel_rfl
theorem t14_3 : gB classes (fun c => run (.row [2, 1, 1, 1]) .long c) = true := by kernel_rfl
theorem t14_15 : gB classes (fun c => run (.row [2, 1, 1, 1]) (.row [2, 1, 1, 1, 1]) c) = true := by kernel_rfl
theorem t14_27 : gB classes (fun c => run (.row [2, 1, 1, 1]) (.row [4]) c) = true := by kernel_rfl
theorem t15_5 : gB classes (fun c => run (.row [2, 1, 1, 1, 1]) (.row [1]) c) = true := by kernel_rfl
theorem t15_17 : gB classes (fun c => run (.row [2, 1, 1, 1, 1]) (.row [2, 2, 1]) c) = true := by kernel_rfl
theorem t15_29 : gB classes (fun c => run (.row [2, 1, 1, 1, 1]) (.row [4, 1, 1]) c) = true := by kernel_rfl
theorem t16_7 : gB classes (fun c => run (.row [2, 2]) (.row [1, 1, 1]) c) = true := by kernel_rfl
theorem t16_19 : gB classes (fun c => run (.row [2, 2]) (.row [2, 2, 2]) c) = true := by kernel_rfl
theorem t16_31 : gB classes (fun c => run (.row [2, 2]) (.row [5]) c) = true := by kernel_rfl
theorem t17_9 : gB classes (fun c => run (.row [2, 2, 1]) (.row [1, 1, 1, 1, 1]) c) = true := by kernel_rfl
theorem t17_21 : gB classes (fun c => run (.row [2, 2, 1]) (.row [3, 1]) c) = true := by kernel_rfl
theorem t17_33 : gB classes (fun c => run (.row [2, 2, 1]) (.row [6]) c) = true := by kernel_rfl
theorem t18_11 : gB classes (fun c => run (.row [2, 2, 1, 1]) (.row [2]) c) = true := by kernel_rfl
theorem t18_23 : gB classes (fun c => run (.row [2, 2, 1, 1]) (.row [3, 1, 1, 1]) c) = true := by kernel_rfl
theorem t19_1 : gB classes (fun c => run (.row [2, 2, 2]) .zero c) = true := by kernel_rfl
theorem t19_13 : gB classes (fun c => run (.row [2, 2, 2]) (.row [2, 1, 1]) c) = true := by kernel_rfl
theorem t19_25 : gB classes (fun c => run (.row [2, 2, 2]) (.row [3, 2, 1]) c) = true := by kernel_rfl
theorem t20_3 : gB classes (fun c => run (.row [3]) .long c) = true := by kernel_rfl
theorem t20_15 : gB classes (fun c => run (.row [3]) (.row [2, 1, 1, 1, 1]) c) = true := by kernel_rfl
theorem t20_27 : gB classes (fun c => run (.row [3]) (.row [4]) c) = true := by kernel_rfl
theorem t21_5 : gB classes (fun c => run (.row [3, 1]) (.row [1]) c) = true := by kernel_rfl
theorem t21_17 : gB classes (fun c => run (.row [3, 1]) (.row [2, 2, 1]) c) = true := by kernel_rfl
theorem t21_29 : gB classes (fun c => run (.row [3, 1]) (.row [4, 1, 1]) c) = true := by kernel_rfl
theorem t22_7 : gB classes (fun c => run (.row [3, 1, 1]) (.row [1, 1, 1]) c) = true := by kernel_rfl
theorem t22_19 : gB classes (fun c => run (.row [3, 1, 1]) (.row [2, 2, 2]) c) = true := by kernel_rfl
theorem t22_31 : gB classes (fun c => run (.row [3, 1, 1]) (.row [5]) c) = true := by kernel_rfl
theorem t23_9 : gB classes (fun c => run (.row [3, 1, 1, 1]) (.row [1, 1, 1, 1, 1]) c) = true := by kernel_rfl
theorem t23_21 : gB classes (fun c => run (.row [3, 1, 1, 1]) (.row [3, 1]) c) = true := by kernel_rfl
theorem t23_33 : gB classes (fun c => run (.row [3, 1, 1, 1]) (.row [6]) c) = true := by kernel_rfl
theorem t24_11 : gB classes (fun c => run (.row [3, 2]) (.row [2]) c) = true := by kernel_rfl
theorem t24_23 : gB classes (fun c => run (.row [3, 2]) (.row [3, 1, 1, 1]) c) = true := by kernel_rfl
theorem t25_1 : gB classes (fun c => run (.row [3, 2, 1]) .zero c) = true := by kernel_rfl
theorem t25_13 : gB classes (fun c => run (.row [3, 2, 1]) (.row [2, 1, 1]) c) = true := by kernel_rfl
theorem t25_25 : gB classes (fun c => run (.row [3, 2, 1]) (.row [3, 2, 1]) c) = true := by kernel_rfl
theorem t26_3 : gB classes (fun c => run (.row [3, 3]) .long c) = true := by kernel_rfl
theorem t26_15 : gB classes (fun c => run (.row [3, 3]) (.row [2, 1, 1, 1, 1]) c) = true := by kernel_rfl
theorem t26_27 : gB classes (fun c => run (.row [3, 3]) (.row [4]) c) = true := by kernel_rfl
theorem t27_5 : gB classes (fun c => run (.row [4]) (.row [1]) c) = true := by kernel_rfl
theorem t27_17 : gB classes (fun c => run (.row [4]) (.row [2, 2, 1]) c) = true := by kernel_rfl
theorem t27_29 : gB classes (fun c => run (.row [4]) (.row [4, 1, 1]) c) = true := by kernel_rfl
theorem t28_7 : gB classes (fun c => run (.row [4, 1]) (.row [1, 1, 1]) c) = true := by kernel_rfl
theorem t28_19 : gB classes (fun c => run (.row [4, 1]) (.row [2, 2, 2]) c) = true := by kernel_rfl
theorem t28_31 : gB classes (fun c => run (.row [4, 1]) (.row [5]) c) = true := by kernel_rfl
theorem t29_9 : gB classes (fun c => run (.row [4, 1, 1]) (.row [1, 1, 1, 1, 1]) c) = true := by kernel_rfl
theorem t29_21 : gB classes (fun c => run (.row [4, 1, 1]) (.row [3, 1]) c) = true := by kernel_rfl
theorem t29_33 : gB classes (fun c => run (.row [4, 1, 1]) (.row [6]) c) = true := by kernel_rfl
theorem t30_11 : gB classes (fun c => run (.row [4, 2]) (.row [2]) c) = true := by kernel_rfl
theorem t30_23 : gB classes (fun c => run (.row [4, 2]) (.row [3, 1, 1, 1]) c) = true := by kernel_rfl
theorem t31_1 : gB classes (fun c => run (.row [5]) .zero c) = true := by kernel_rfl
theorem t31_13 : gB classes (fun c => run (.row [5]) (.row [2, 1, 1]) c) = true := by kernel_rfl
theorem t31_25 : gB classes (fun c => run (.row [5]) (.row [3, 2, 1]) c) = true := by kernel_rfl
theorem t32_3 : gB classes (fun c => run (.row [5, 1]) .long c) = true := by kernel_rfl
theorem t32_15 : gB classes (fun c => run (.row [5, 1]) (.row [2, 1, 1, 1, 1]) c) = true := by kernel_rfl
theorem t32_27 : gB classes (fun c => run (.row [5, 1]) (.row [4]) c) = true := by kernel_rfl
theorem t33_5 : gB classes (fun c => run (.row [6]) (.row [1]) c) = true := by kernel_rfl
theorem t33_17 : gB classes (fun c => run (.row [6]) (.row [2, 2, 1]) c) = true := by kernel_rfl
theorem t33_29 : gB classes (fun c => run (.row [6]) (.row [4, 1, 1]) c) = true := by kernel_rfl
end Go.Proofs.Ytnglbchhlpbgkac.fnExactProductNumberRuns
