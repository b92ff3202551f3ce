/- Runs of the program at a seat. -/
import Derived.Test.YtnglbchhlpbgkacFnExactProductNumberP
namespace Go.Proofs.Ytnglbchhlpbgkac.fnExactProductNumberRuns
open Go Go.Eng
set_option linter.unusedVariables false
set_option linter.unusedSectionVars false
set_option linter.unusedSimpArgs false
set_option maxRecDepth 100000
theorem t0_1 : gB classes (fun c => run .nil .zero c) = true := by kernel_rfl
theorem t0_13 : gB classes (fun c => run .nil (.row [2, 1, 1]) c) = true := by kernel_rfl
theorem t0_25 : gB classes (fun c => run .nil (.row [3, 2, 1]) c) = true := by kernel_rfl
theorem t1_3 : gB classes (fun c => run .zero .long c) = true := by kernel_rfl
theorem t1_15 : gB classes (fun c => run .zero (.row [2, 1, 1, 1, 1]) c) = true := by kernel_rfl
theorem t1_27 : gB classes (fun c => run .zero (.row [4]) c) = true := by kernel_rfl
theorem t2_5 : gB classes (fun c => run .no (.row [1]) c) = true := by kernel_rfl
theorem t2_17 : gB classes (fun c => run .no (.row [2, 2, 1]) c) = true := by kernel_rfl
theorem t2_29 : gB classes (fun c => run .no (.row [4, 1, 1]) c) = true := by kernel_rfl
theorem t3_7 : gB classes (fun c => run .long (.row [1, 1, 1]) c) = true := by kernel_rfl
theorem t3_19 : gB classes (fun c => run .long (.row [2, 2, 2]) c) = true := by kernel_rfl
theorem t3_31 : gB classes (fun c => run .long (.row [5]) c) = true := by kernel_rfl
theorem t4_9 : gB classes (fun c => run (.row []) (.row [1, 1, 1, 1, 1]) c) = true := by kernel_rfl
theorem t4_21 : gB classes (fun c => run (.row []) (.row [3, 1]) c) = true := by kernel_rfl
theorem t4_33 : gB classes (fun c => run (.row []) (.row [6]) c) = true := by kernel_rfl
theorem t5_11 : gB classes (fun c => run (.row [1]) (.row [2]) c) = true := by kernel_rfl
theorem t5_23 : gB classes (fun c => run (.row [1]) (.row [3, 1, 1, 1]) c) = true := by kernel_rfl
theorem t6_1 : gB classes (fun c => run (.row [1, 1]) .zero c) = true := by kernel_rfl
theorem t6_13 : gB classes (fun c => run (.row [1, 1]) (.row [2, 1, 1]) c) = true := by kernel_rfl
theorem t6_25 : gB classes (fun c => run (.row [1, 1]) (.row [3, 2, 1]) c) = true := by kernel_rfl
theorem t7_3 : gB classes (fun c => run (.row [1, 1, 1]) .long c) = true := by kernel_rfl
theorem t7_15 : gB classes (fun c => run (.row [1, 1, 1]) (.row [2, 1, 1, 1, 1]) c) = true := by kernel_rfl
theorem t7_27 : gB classes (fun c => run (.row [1, 1, 1]) (.row [4]) c) = true := by kernel_rfl
theorem t8_5 : gB classes (fun c => run (.row [1, 1, 1, 1]) (.row [1]) c) = true := by kernel_rfl
theorem t8_17 : gB classes (fun c => run (.row [1, 1, 1, 1]) (.row [2, 2, 1]) c) = true := by kernel_rfl
theorem t8_29 : gB classes (fun c => run (.row [1, 1, 1, 1]) (.row [4, 1, 1]) c) = true := by kernel_rfl
theorem t9_7 : gB classes (fun c => run (.row [1, 1, 1, 1, 1]) (.row [1, 1, 1]) c) = true := by kernel_rfl
theorem t9_19 : gB classes (fun c => run (.row [1, 1, 1, 1, 1]) (.row [2, 2, 2]) c) = true := by kernel_rfl
theorem t9_31 : gB classes (fun c => run (.row [1, 1, 1, 1, 1]) (.row [5]) c) = true := by kernel_rfl
theorem t10_9 : gB classes (fun c => run (.row [1, 1, 1, 1, 1, 1]) (.row [1, 1, 1, 1, 1]) c) = true := by kernel_rfl
theorem t10_21 : gB classes (fun c => run (.row [1, 1, 1, 1, 1, 1]) (.row [3, 1]) c) = true := by kernel_rfl
theorem t10_33 : gB classes (fun c => run (.row [1, 1, 1, 1, 1, 1]) (.row [6]) c) = true := by kernel_rfl
theorem t11_11 : gB classes (fun c => run (.row [2]) (.row [2]) c) = true := by kernel_rfl
theorem t11_23 : gB classes (fun c => run (.row [2]) (.row [3, 1, 1, 1]) c) = true := by kernel_rfl
theorem t12_1 : gB classes (fun c => run (.row [2, 1]) .zero c) = true := by kernel_rfl
theorem t12_13 : gB classes (fun c => run (.row [2, 1]) (.row [2, 1, 1]) c) = true := by kernel_rfl
theorem t12_25 : gB classes (fun c => run (.row [2, 1]) (.row [3, 2, 1]) c) = true := by kernel_rfl
theorem t13_3 : gB classes (fun c => run (.row [2, 1, 1]) .long c) = true := by kernel_rfl
theorem t13_15 : gB classes (fun c => run (.row [2, 1, 1]) (.row [2, 1, 1, 1, 1]) c) = true := by kernel_rfl
theorem t13_27 : gB classes (fun c => run (.row [2, 1, 1]) (.row [4]) c) = true := by kernel_rfl
theorem t14_5 : gB classes (fun c => run (.row [2, 1, 1, 1]) (.row [1]) c) = true := by kernel_rfl
theorem t14_17 : gB classes (fun c => run (.row [2, 1, 1, 1]) (.row [2, 2, 1]) c) = true := by kernel_rfl
theorem t14_29 : gB classes (fun c => run (.row [2, 1, 1, 1]) (.row [4, 1, 1]) c) = true := by kernel_rfl
theorem t15_7 : gB classes (fun c => run (.row [2, 1, 1, 1, 1]) (.row [1, 1, 1]) c) = true := by kernel_rfl
theorem t15_19 : gB classes (fun c => run (.row [2, 1, 1, 1, 1]) (.row [2, 2, 2]) c) = true := by kernel_rfl
theorem t15_31 : gB classes (fun c => run (.row [2, 1, 1, 1, 1]) (.row [5]) c) = true := by kernel_rfl
theorem t16_9 : gB classes (fun c => run (.row [2, 2]) (.row [1, 1, 1, 1, 1]) c) = true := by kernel_rfl
theorem t16_21 : gB classes (fun c => run (.row [2, 2]) (.row [3, 1]) c) = true := by kernel_rfl
theorem t16_33 : gB classes (fun c => run (.row [2, 2]) (.row [6]) c) = true := by kernel_rfl
theorem t17_11 : gB classes (fun c => run (.row [2, 2, 1]) (.row [2]) c) = true := by kernel_rfl
theorem t17_23 : gB classes (fun c => run (.row [2, 2, 1]) (.row [3, 1, 1, 1]) c) = true := by kernel_rfl
theorem t18_1 : gB classes (fun c => run (.row [2, 2, 1, 1]) .zero c) = true := by kernel_rfl
theorem t18_13 : gB classes (fun c => run (.row [2, 2, 1, 1]) (.row [2, 1, 1]) c) = true := by kernel_rfl
theorem t18_25 : gB classes (fun c => run (.row [2, 2, 1, 1]) (.row [3, 2, 1]) c) = true := by kernel_rfl
theorem t19_3 : gB classes (fun c => run (.row [2, 2, 2]) .long c) = true := by kernel_rfl
theorem t19_15 : gB classes (fun c => run (.row [2, 2, 2]) (.row [2, 1, 1, 1, 1]) c) = true := by kernel_rfl
theorem t19_27 : gB classes (fun c => run (.row [2, 2, 2]) (.row [4]) c) = true := by kernel_rfl
theorem t20_5 : gB classes (fun c => run (.row [3]) (.row [1]) c) = true := by kernel_rfl
theorem t20_17 : gB classes (fun c => run (.row [3]) (.row [2, 2, 1]) c) = true := by kernel_rfl
theorem t20_29 : gB classes (fun c => run (.row [3]) (.row [4, 1, 1]) c) = true := by kernel_rfl
theorem t21_7 : gB classes (fun c => run (.row [3, 1]) (.row [1, 1, 1]) c) = true := by kernel_rfl
theorem t21_19 : gB classes (fun c => run (.row [3, 1]) (.row [2, 2, 2]) c) = true := by kernel_rfl
theorem t21_31 : gB classes (fun c => run (.row [3, 1]) (.row [5]) c) = true := by kernel_rfl
theorem t22_9 : gB classes (fun c => run (.row [3, 1, 1]) (.row [1, 1, 1, 1, 1]) c) = true := by kernel_rfl
theorem t22_21 : gB classes (fun c => run (.row [3, 1, 1]) (.row [3, 1]) c) = true := by kernel_rfl
theorem t22_33 : gB classes (fun c => run (.row [3, 1, 1]) (.row [6]) c) = true := by kernel_rfl
theorem t23_11 : gB classes (fun c => run (.row [3, 1, 1, 1]) (.row [2]) c) = true := by kernel_rfl
theorem t23_23 : gB classes (fun c => run (.row [3, 1, 1, 1]) (.row [3, 1, 1, 1]) c) = true := by kernel_rfl
theorem t24_1 : gB classes (fun c => run (.row [3, 2]) .zero c) = true := by kernel_rfl
theorem t24_13 : gB classes (fun c => run (.row [3, 2]) (.row [2, 1, 1]) c) = true := by kernel_rfl
theorem t24_25 : gB classes (fun c => run (.row [3, 2]) (.row [3, 2, 1]) c) = true := by kernel_rfl
theorem t25_3 : gB classes (fun c => run (.row [3, 2, 1]) .long c) = true := by kernel_rfl
theorem t25_15 : gB classes (fun c => run (.row [3, 2, 1]) (.row [2, 1, 1, 1, 1]) c) = true := by kernel_rfl
theorem t25_27 : gB classes (fun c => run (.row [3, 2, 1]) (.row [4]) c) = true := by kernel_rfl
theorem t26_5 : gB classes (fun c => run (.row [3, 3]) (.row [1]) c) = true := by kernel_rfl
theorem t26_17 : gB classes (fun c => run (.row [3, 3]) (.row [2, 2, 1]) c) = true := by kernel_rfl
theorem t26_29 : gB classes (fun c => run (.row [3, 3]) (.row [4, 1, 1]) c) = true := by kernel_rfl
theorem t27_7 : gB classes (fun c => run (.row [4]) (.row [1, 1, 1]) c) = true := by kernel_rfl
theorem t27_19 : gB classes (fun c => run (.row [4]) (.row [2, 2, 2]) c) = true := by kernel_rfl
theorem t27_31 : gB classes (fun c => run (.row [4]) (.row [5]) c) = true := by kernel_rfl
theorem t28_9 : gB classes (fun c => run (.row [4, 1]) (.row [1, 1, 1, 1, 1]) c) = true := by kernel_rfl
theorem t28_21 : gB classes (fun c => run (.row [4, 1]) (.row [3, 1]) c) = true := by kernel_rfl
theorem t28_33 : gB classes (fun c => run (.row [4, 1]) (.row [6]) c) = true := by kernel_rfl
theorem t29_11 : gB classes (fun c => run (.row [4, 1, 1]) (.row [2]) c) = true := by kernel_rfl
theorem t29_23 : gB classes (fun c => run (.row [4, 1, 1]) (.row [3, 1, 1, 1]) c) = true := by kernel_rfl
theorem t30_1 : gB classes (fun c => run (.row [4, 2]) .zero c) = true := by kernel_rfl
theorem t30_13 : gB classes (fun c => run (.row [4, 2]) (.row [2, 1, 1]) c) = true := by kernel_rfl
theorem t30_25 : gB classes (fun c => run (.row [4, 2]) (.row [3, 2, 1]) c) = true := by kernel_rfl
theorem t31_3 : gB classes (fun c => run (.row [5]) .long c) = true := by kernel_rfl
theorem t31_15 : gB classes (fun c => run (.row [5]) (.row [2, 1, 1, 1, 1]) c) = true := by kernel_rfl
theorem t31_27 : gB classes (fun c => run (.row [5]) (.row [4]) c) = true := by kernel_rfl
theorem t32_5 : gB classes (fun c => run (.row [5, 1]) (.row [1]) c) = true := by kernel_rfl
theorem t32_17 : gB classes (fun c => run (.row [5, 1]) (.row [2, 2, 1]) c) = true := by kernel_rfl
theorem t32_29 : gB classes (fun c => run (.row [5, 1]) (.row [4, 1, 1]) c) = true := by kernel_rfl
theorem t33_7 : gB classes (fun c => run (.row [6]) (.row [1, 1, 1]) c) = true := by kernel_rfl
theorem t33_19 : gB classes (fun c => run (.row [6]) (.row [2, 2, 2]) c) = true := by kernel_rfl
theorem t33_31 : gB classes (fun c => run (.row [6]) (.row [5]) c) = true := by kernel_rfl
end Go.Proofs.Ytnglbchhlpbgkac.fnExactProductNumberRuns
