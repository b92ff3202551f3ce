/- Runs of the program at a seat. -/
import Derived.Test.YtnglbchhlpbgkacFnExactProductNumberP
namespace Go.Proofs.Ytnglbchhlpbgkac.fnExactProductNumberRuns
open Go Go.Eng
set_option linter.unusedVariables false
set_option linter.unusedSectionVars false
set_option linter.unusedSimpArgs false
set_option maxRecDepth 100000
theorem t0_7 : gB classes (fun c => run .nil (.row [1, 1, 1]) c) = true := by kernel_rfl
theorem t0_19 : gB classes (fun c => run .nil (.row [2, 2, 2]) c) = true := by kernel_rfl
theorem t0_31 : gB classes (fun c => run .nil (.row [5]) c) = true := by kernel_rfl
theorem t1_9 : gB classes (fun c => run .zero (.row [1, 1, 1, 1, 1]) c) = true := by kernel_rfl
theorem t1_21 : gB classes (fun c => run .zero (.row [3, 1]) c) = true := by kernel_rfl
theorem t1_33 : gB classes (fun c => run .zero (.row [6]) c) = true := by kernel_rfl
theorem t2_11 : gB classes (fun c => run .no (.row [2]) c) = true := by kernel_rfl
theorem t2_23 : gB classes (fun c => run .no (.row [3, 1, 1, 1]) c) = true := by kernel_rfl
theorem t3_1 : gB classes (fun c => run .long .zero c) = true := by kernel_rfl
theorem t3_13 : gB classes (fun c => run .long (.row [2, 1, 1]) c) = true := by kernel_rfl
theorem t3_25 : gB classes (fun c => run .long (.row [3, 2, 1]) c) = true := by kernel_rfl
theorem t4_3 : gB classes (fun c => run (.row []) .long c) = true := by kernel_rfl
theorem t4_15 : gB classes (fun c => run (.row []) (.row [2, 1, 1, 1, 1]) c) = true := by kernel_rfl
theorem t4_27 : gB classes (fun c => run (.row []) (.row [4]) c) = true := by kernel_rfl
theorem t5_5 : gB classes (fun c => run (.row [1]) (.row [1]) c) = true := by kernel_rfl
theorem t5_17 : gB classes (fun c => run (.row [1]) (.row [2, 2, 1]) c) = true := by kernel_rfl
theorem t5_29 : gB classes (fun c => run (.row [1]) (.row [4, 1, 1]) c) = true := by kernel_rfl
theorem t6_7 : gB classes (fun c => run (.row [1, 1]) (.row [1, 1, 1]) c) = true := by kernel_rfl
theorem t6_19 : gB classes (fun c => run (.row [1, 1]) (.row [2, 2, 2]) c) = true := by kernel_rfl
theorem t6_31 : gB classes (fun c => run (.row [1, 1]) (.row [5]) c) = true := by kernel_rfl
theorem t7_9 : gB classes (fun c => run (.row [1, 1, 1]) (.row [1, 1, 1, 1, 1]) c) = true := by kernel_rfl
theorem t7_21 : gB classes (fun c => run (.row [1, 1, 1]) (.row [3, 1]) c) = true := by kernel_rfl
theorem t7_33 : gB classes (fun c => run (.row [1, 1, 1]) (.row [6]) c) = true := by kernel_rfl
theorem t8_11 : gB classes (fun c => run (.row [1, 1, 1, 1]) (.row [2]) c) = true := by kernel_rfl
theorem t8_23 : gB classes (fun c => run (.row [1, 1, 1, 1]) (.row [3, 1, 1, 1]) c) = true := by kernel_rfl
theorem t9_1 : gB classes (fun c => run (.row [1, 1, 1, 1, 1]) .zero c) = true := by kernel_rfl
theorem t9_13 : gB classes (fun c => run (.row [1, 1, 1, 1, 1]) (.row [2, 1, 1]) c) = true := by kernel_rfl
theorem t9_25 : gB classes (fun c => run (.row [1, 1, 1, 1, 1]) (.row [3, 2, 1]) c) = true := by kernel_rfl
theorem t10_3 : gB classes (fun c => run (.row [1, 1, 1, 1, 1, 1]) .long c) = true := by kernel_rfl
theorem t10_15 : gB classes (fun c => run (.row [1, 1, 1, 1, 1, 1]) (.row [2, 1, 1, 1, 1]) c) = true := by kernel_rfl
theorem t10_27 : gB classes (fun c => run (.row [1, 1, 1, 1, 1, 1]) (.row [4]) c) = true := by kernel_rfl
theorem t11_5 : gB classes (fun c => run (.row [2]) (.row [1]) c) = true := by kernel_rfl
theorem t11_17 : gB classes (fun c => run (.row [2]) (.row [2, 2, 1]) c) = true := by kernel_rfl
theorem t11_29 : gB classes (fun c => run (.row [2]) (.row [4, 1, 1]) c) = true := by kernel_rfl
theorem t12_7 : gB classes (fun c => run (.row [2, 1]) (.row [1, 1, 1]) c) = true := by kernel_rfl
theorem t12_19 : gB classes (fun c => run (.row [2, 1]) (.row [2, 2, 2]) c) = true := by kernel_rfl
theorem t12_31 : gB classes (fun c => run (.row [2, 1]) (.row [5]) c) = true := by kernel_rfl
theorem t13_9 : gB classes (fun c => run (.row [2, 1, 1]) (.row [1, 1, 1, 1, 1]) c) = true := by kernel_rfl
theorem t13_21 : gB classes (fun c => run (.row [2, 1, 1]) (.row [3, 1]) c) = true := by kernel_rfl
theorem t13_33 : gB classes (fun c => run (.row [2, 1, 1]) (.row [6]) c) = true := by kernel_rfl
theorem t14_11 : gB classes (fun c => run (.row [2, 1, 1, 1]) (.row [2]) c) = true := by kernel_rfl
theorem t14_23 : gB classes (fun c => run (.row [2, 1, 1, 1]) (.row [3, 1, 1, 1]) c) = true := by kernel_rfl
theorem t15_1 : gB classes (fun c => run (.row [2, 1, 1, 1, 1]) .zero c) = true := by kernel_rfl
theorem t15_13 : gB classes (fun c => run (.row [2, 1, 1, 1, 1]) (.row [2, 1, 1]) c) = true := by kernel_rfl
theorem t15_25 : gB classes (fun c => run (.row [2, 1, 1, 1, 1]) (.row [3, 2, 1]) c) = true := by kernel_rfl
theorem t16_3 : gB classes (fun c => run (.row [2, 2]) .long c) = true := by kernel_rfl
theorem t16_15 : gB classes (fun c => run (.row [2, 2]) (.row [2, 1, 1, 1, 1]) c) = true := by kernel_rfl
theorem t16_27 : gB classes (fun c => run (.row [2, 2]) (.row [4]) c) = true := by kernel_rfl
theorem t17_5 : gB classes (fun c => run (.row [2, 2, 1]) (.row [1]) c) = true := by kernel_rfl
theorem t17_17 : gB classes (fun c => run (.row [2, 2, 1]) (.row [2, 2, 1]) c) = true := by kernel_rfl
theorem t17_29 : gB classes (fun c => run (.row [2, 2, 1]) (.row [4, 1, 1]) c) = true := by kernel_rfl
theorem t18_7 : gB classes (fun c => run (.row [2, 2, 1, 1]) (.row [1, 1, 1]) c) = true := by kernel_rfl
theorem t18_19 : gB classes (fun c => run (.row [2, 2, 1, 1]) (.row [2, 2, 2]) c) = true := by kernel_rfl
theorem t18_31 : gB classes (fun c => run (.row [2, 2, 1, 1]) (.row [5]) c) = true := by kernel_rfl
theorem t19_9 : gB classes (fun c => run (.row [2, 2, 2]) (.row [1, 1, 1, 1, 1]) c) = true := by kernel_rfl
theorem t19_21 : gB classes (fun c => run (.row [2, 2, 2]) (.row [3, 1]) c) = true := by kernel_rfl
theorem t19_33 : gB classes (fun c => run (.row [2, 2, 2]) (.row [6]) c) = true := by kernel_rfl
theorem t20_11 : gB classes (fun c => run (.row [3]) (.row [2]) c) = true := by kernel_rfl
theorem t20_23 : gB classes (fun c => run (.row [3]) (.row [3, 1, 1, 1]) c) = true := by kernel_rfl
theorem t21_1 : gB classes (fun c => run (.row [3, 1]) .zero c) = true := by kernel_rfl
theorem t21_13 : gB classes (fun c => run (.row [3, 1]) (.row [2, 1, 1]) c) = true := by kernel_rfl
theorem t21_25 : gB classes (fun c => run (.row [3, 1]) (.row [3, 2, 1]) c) = true := by kernel_rfl
theorem t22_3 : gB classes (fun c => run (.row [3, 1, 1]) .long c) = true := by kernel_rfl
theorem t22_15 : gB classes (fun c => run (.row [3, 1, 1]) (.row [2, 1, 1, 1, 1]) c) = true := by kernel_rfl
theorem t22_27 : gB classes (fun c => run (.row [3, 1, 1]) (.row [4]) c) = true := by kernel_rfl
theorem t23_5 : gB classes (fun c => run (.row [3, 1, 1, 1]) (.row [1]) c) = true := by kernel_rfl
theorem t23_17 : gB classes (fun c => run (.row [3, 1, 1, 1]) (.row [2, 2, 1]) c) = true := by kernel_rfl
theorem t23_29 : gB classes (fun c => run (.row [3, 1, 1, 1]) (.row [4, 1, 1]) c) = true := by kernel_rfl
theorem t24_7 : gB classes (fun c => run (.row [3, 2]) (.row [1, 1, 1]) c) = true := by kernel_rfl
theorem t24_19 : gB classes (fun c => run (.row [3, 2]) (.row [2, 2, 2]) c) = true := by kernel_rfl
theorem t24_31 : gB classes (fun c => run (.row [3, 2]) (.row [5]) c) = true := by kernel_rfl
theorem t25_9 : gB classes (fun c => run (.row [3, 2, 1]) (.row [1, 1, 1, 1, 1]) c) = true := by kernel_rfl
theorem t25_21 : gB classes (fun c => run (.row [3, 2, 1]) (.row [3, 1]) c) = true := by kernel_rfl
theorem t25_33 : gB classes (fun c => run (.row [3, 2, 1]) (.row [6]) c) = true := by kernel_rfl
theorem t26_11 : gB classes (fun c => run (.row [3, 3]) (.row [2]) c) = true := by kernel_rfl
theorem t26_23 : gB classes (fun c => run (.row [3, 3]) (.row [3, 1, 1, 1]) c) = true := by kernel_rfl
theorem t27_1 : gB classes (fun c => run (.row [4]) .zero c) = true := by kernel_rfl
theorem t27_13 : gB classes (fun c => run (.row [4]) (.row [2, 1, 1]) c) = true := by kernel_rfl
theorem t27_25 : gB classes (fun c => run (.row [4]) (.row [3, 2, 1]) c) = true := by kernel_rfl
theorem t28_3 : gB classes (fun c => run (.row [4, 1]) .long c) = true := by kernel_rfl
theorem t28_15 : gB classes (fun c => run (.row [4, 1]) (.row [2, 1, 1, 1, 1]) c) = true := by kernel_rfl
theorem t28_27 : gB classes (fun c => run (.row [4, 1]) (.row [4]) c) = true := by kernel_rfl
theorem t29_5 : gB classes (fun c => run (.row [4, 1, 1]) (.row [1]) c) = true := by kernel_rfl
theorem t29_17 : gB classes (fun c => run (.row [4, 1, 1]) (.row [2, 2, 1]) c) = true := by kernel_rfl
theorem t29_29 : gB classes (fun c => run (.row [4, 1, 1]) (.row [4, 1, 1]) c) = true := by kernel_rfl
theorem t30_7 : gB classes (fun c => run (.row [4, 2]) (.row [1, 1, 1]) c) = true := by kernel_rfl
theorem t30_19 : gB classes (fun c => run (.row [4, 2]) (.row [2, 2, 2]) c) = true := by kernel_rfl
theorem t30_31 : gB classes (fun c => run (.row [4, 2]) (.row [5]) c) = true := by kernel_rfl
theorem t31_9 : gB classes (fun c => run (.row [5]) (.row [1, 1, 1, 1, 1]) c) = true := by kernel_rfl
theorem t31_21 : gB classes (fun c => run (.row [5]) (.row [3, 1]) c) = true := by kernel_rfl
theorem t31_33 : gB classes (fun c => run (.row [5]) (.row [6]) c) = true := by kernel_rfl
theorem t32_11 : gB classes (fun c => run (.row [5, 1]) (.row [2]) c) = true := by kernel_rfl
theorem t32_23 : gB classes (fun c => run (.row [5, 1]) (.row [3, 1, 1, 1]) c) = true := by kernel_rfl
theorem t33_1 : gB classes (fun c => run (.row [6]) .zero c) = true := by kernel_rfl
theorem t33_13 : gB classes (fun c => run (.row [6]) (.row [2, 1, 1]) c) = true := by kernel_rfl
theorem t33_25 : gB classes (fun c => run (.row [6]) (.row [3, 2, 1]) c) = true := by kernel_rfl
end Go.Proofs.Ytnglbchhlpbgkac.fnExactProductNumberRuns
