/- Runs of the program at a seat. -/
import Derived.Test.YtnglbchhlpbgkacFnExactProductNumberP
namespace Go.Proofs.Ytnglbchhlpbgkac.fnExactProductNumberRuns
open Go Go.Eng
set_option linter.unusedVariables false
set_option linter.unusedSectionVars false
set_option linter.unusedSimpArgs false
set_option maxRecDepth 100000
theorem t0_9 : gB classes (fun c => run .nil (.row [1, 1, 1, 1, 1]) c) = true := by kernel_rfl
theorem t0_21 : gB classes (fun c => run .nil (.row [3, 1]) c) = true := by kernel_rfl
theorem t0_33 : gB classes (fun c => run .nil (.row [6]) c) = true := by kernel_rfl
theorem t1_11 : gB classes (fun c => run .zero (.row [2]) c) = true := by kernel_rfl
theorem t1_23 : gB classes (fun c => run .zero (.row [3, 1, 1, 1]) c) = true := by kernel_rfl
theorem t2_1 : gB classes (fun c => run .no .zero c) = true := by kernel_rfl
theorem t2_13 : gB classes (fun c => run .no (.row [2, 1, 1]) c) = true := by kernel_rfl
theorem t2_25 : gB classes (fun c => run .no (.row [3, 2, 1]) c) = true := by kernel_rfl
theorem t3_3 : gB classes (fun c => run .long .long c) = true := by kernel_rfl
theorem t3_15 : gB classes (fun c => run .long (.row [2, 1, 1, 1, 1]) c) = true := by kernel_rfl
theorem t3_27 : gB classes (fun c => run .long (.row [4]) c) = true := by kernel_rfl
theorem t4_5 : gB classes (fun c => run (.row []) (.row [1]) c) = true := by kernel_rfl
theorem t4_17 : gB classes (fun c => run (.row []) (.row [2, 2, 1]) c) = true := by kernel_rfl
theorem t4_29 : gB classes (fun c => run (.row []) (.row [4, 1, 1]) c) = true := by kernel_rfl
theorem t5_7 : gB classes (fun c => run (.row [1]) (.row [1, 1, 1]) c) = true := by kernel_rfl
theorem t5_19 : gB classes (fun c => run (.row [1]) (.row [2, 2, 2]) c) = true := by kernel_rfl
theorem t5_31 : gB classes (fun c => run (.row [1]) (.row [5]) c) = true := by kernel_rfl
theorem t6_9 : gB classes (fun c => run (.row [1, 1]) (.row [1, 1, 1, 1, 1]) c) = true := by kernel_rfl
theorem t6_21 : gB classes (fun c => run (.row [1, 1]) (.row [3, 1]) c) = true := by kernel_rfl
theorem t6_33 : gB classes (fun c => run (.row [1, 1]) (.row [6]) c) = true := by kernel_rfl
theorem t7_11 : gB classes (fun c => run (.row [1, 1, 1]) (.row [2]) c) = true := by kernel_rfl
theorem t7_23 : gB classes (fun c => run (.row [1, 1, 1]) (.row [3, 1, 1, 1]) c) = true := by kernel_rfl
theorem t8_1 : gB classes (fun c => run (.row [1, 1, 1, 1]) .zero c) = true := by kernel_rfl
theorem t8_13 : gB classes (fun c => run (.row [1, 1, 1, 1]) (.row [2, 1, 1]) c) = true := by kernel_rfl
theorem t8_25 : gB classes (fun c => run (.row [1, 1, 1, 1]) (.row [3, 2, 1]) c) = true := by kernel_rfl
theorem t9_3 : gB classes (fun c => run (.row [1, 1, 1, 1, 1]) .long c) = true := by kernel_rfl
theorem t9_15 : gB classes (fun c => run (.row [1, 1, 1, 1, 1]) (.row [2, 1, 1, 1, 1]) c) = true := by kernel_rfl
theorem t9_27 : gB classes (fun c => run (.row [1, 1, 1, 1, 1]) (.row [4]) c) = true := by kernel_rfl
theorem t10_5 : gB classes (fun c => run (.row [1, 1, 1, 1, 1, 1]) (.row [1]) c) = true := by kernel_rfl
theorem t10_17 : gB classes (fun c => run (.row [1, 1, 1, 1, 1, 1]) (.row [2, 2, 1]) c) = true := by kernel_rfl
theorem t10_29 : gB classes (fun c => run (.row [1, 1, 1, 1, 1, 1]) (.row [4, 1, 1]) c) = true := by kernel_rfl
theorem t11_7 : gB classes (fun c => run (.row [2]) (.row [1, 1, 1]) c) = true := by kernel_rfl
theorem t11_19 : gB classes (fun c => run (.row [2]) (.row [2, 2, 2]) c) = true := by kernel_rfl
theorem t11_31 : gB classes (fun c => run (.row [2]) (.row [5]) c) = true := by kernel_rfl
theorem t12_9 : gB classes (fun c => run (.row [2, 1]) (.row [1, 1, 1, 1, 1]) c) = true := by kernel_rfl
theorem t12_21 : gB classes (fun c => run (.row [2, 1]) (.row [3, 1]) c) = true := by kernel_rfl
theorem t12_33 : gB classes (fun c => run (.row [2, 1]) (.row [6]) c) = true := by kernel_rfl
theorem t13_11 : gB classes (fun c => run (.row [2, 1, 1]) (.row [2]) c) = true := by kernel_rfl
theorem t13_23 : gB classes (fun c => run (.row [2, 1, 1]) (.row [3, 1, 1, 1]) c) = true := by kernel_rfl
theorem t14_1 : gB classes (fun c => run (.row [2, 1, 1, 1]) .zero c) = true := by kernel_rfl
theorem t14_13 : gB classes (fun c => run (.row [2, 1, 1, 1]) (.row [2, 1, 1]) c) = true := by kernel_rfl
theorem t14_25 : gB classes (fun c => run (.row [2, 1, 1, 1]) (.row [3, 2, 1]) c) = true := by kernel_rfl
theorem t15_3 : gB classes (fun c => run (.row [2, 1, 1, 1, 1]) .long c) = true := by kernel_rfl
theorem t15_15 : gB classes (fun c => run (.row [2, 1, 1, 1, 1]) (.row [2, 1, 1, 1, 1]) c) = true := by kernel_rfl
theorem t15_27 : gB classes (fun c => run (.row [2, 1, 1, 1, 1]) (.row [4]) c) = true := by kernel_rfl
theorem t16_5 : gB classes (fun c => run (.row [2, 2]) (.row [1]) c) = true := by kernel_rfl
theorem t16_17 : gB classes (fun c => run (.row [2, 2]) (.row [2, 2, 1]) c) = true := by kernel_rfl
theorem t16_29 : gB classes (fun c => run (.row [2, 2]) (.row [4, 1, 1]) c) = true := by kernel_rfl
theorem t17_7 : gB classes (fun c => run (.row [2, 2, 1]) (.row [1, 1, 1]) c) = true := by kernel_rfl
theorem t17_19 : gB classes (fun c => run (.row [2, 2, 1]) (.row [2, 2, 2]) c) = true := by kernel_rfl
theorem t17_31 : gB classes (fun c => run (.row [2, 2, 1]) (.row [5]) c) = true := by kernel_rfl
theorem t18_9 : gB classes (fun c => run (.row [2, 2, 1, 1]) (.row [1, 1, 1, 1, 1]) c) = true := by kernel_rfl
theorem t18_21 : gB classes (fun c => run (.row [2, 2, 1, 1]) (.row [3, 1]) c) = true := by kernel_rfl
theorem t18_33 : gB classes (fun c => run (.row [2, 2, 1, 1]) (.row [6]) c) = true := by kernel_rfl
theorem t19_11 : gB classes (fun c => run (.row [2, 2, 2]) (.row [2]) c) = true := by kernel_rfl
theorem t19_23 : gB classes (fun c => run (.row [2, 2, 2]) (.row [3, 1, 1, 1]) c) = true := by kernel_rfl
theorem t20_1 : gB classes (fun c => run (.row [3]) .zero c) = true := by kernel_rfl
theorem t20_13 : gB classes (fun c => run (.row [3]) (.row [2, 1, 1]) c) = true := by kernel_rfl
theorem t20_25 : gB classes (fun c => run (.row [3]) (.row [3, 2, 1]) c) = true := by kernel_rfl
theorem t21_3 : gB classes (fun c => run (.row [3, 1]) .long c) = true := by kernel_rfl
theorem t21_15 : gB classes (fun c => run (.row [3, 1]) (.row [2, 1, 1, 1, 1]) c) = true := by kernel_rfl
theorem t21_27 : gB classes (fun c => run (.row [3, 1]) (.row [4]) c) = true := by kernel_rfl
theorem t22_5 : gB classes (fun c => run (.row [3, 1, 1]) (.row [1]) c) = true := by kernel_rfl
theorem t22_17 : gB classes (fun c => run (.row [3, 1, 1]) (.row [2, 2, 1]) c) = true := by kernel_rfl
theorem t22_29 : gB classes (fun c => run (.row [3, 1, 1]) (.row [4, 1, 1]) c) = true := by kernel_rfl
theorem t23_7 : gB classes (fun c => run (.row [3, 1, 1, 1]) (.row [1, 1, 1]) c) = true := by kernel_rfl
theorem t23_19 : gB classes (fun c => run (.row [3, 1, 1, 1]) (.row [2, 2, 2]) c) = true := by kernel_rfl
theorem t23_31 : gB classes (fun c => run (.row [3, 1, 1, 1]) (.row [5]) c) = true := by kernel_rfl
theorem t24_9 : gB classes (fun c => run (.row [3, 2]) (.row [1, 1, 1, 1, 1]) c) = true := by kernel_rfl
theorem t24_21 : gB classes (fun c => run (.row [3, 2]) (.row [3, 1]) c) = true := by kernel_rfl
theorem t24_33 : gB classes (fun c => run (.row [3, 2]) (.row [6]) c) = true := by kernel_rfl
theorem t25_11 : gB classes (fun c => run (.row [3, 2, 1]) (.row [2]) c) = true := by kernel_rfl
theorem t25_23 : gB classes (fun c => run (.row [3, 2, 1]) (.row [3, 1, 1, 1]) c) = true := by kernel_rfl
theorem t26_1 : gB classes (fun c => run (.row [3, 3]) .zero c) = true := by kernel_rfl
theorem t26_13 : gB classes (fun c => run (.row [3, 3]) (.row [2, 1, 1]) c) = true := by kernel_rfl
theorem t26_25 : gB classes (fun c => run (.row [3, 3]) (.row [3, 2, 1]) c) = true := by kernel_rfl
theorem t27_3 : gB classes (fun c => run (.row [4]) .long c) = true := by kernel_rfl
theorem t27_15 : gB classes (fun c => run (.row [4]) (.row [2, 1, 1, 1, 1]) c) = true := by kernel_rfl
theorem t27_27 : gB classes (fun c => run (.row [4]) (.row [4]) c) = true := by kernel_rfl
theorem t28_5 : gB classes (fun c => run (.row [4, 1]) (.row [1]) c) = true := by kernel_rfl
theorem t28_17 : gB classes (fun c => run (.row [4, 1]) (.row [2, 2, 1]) c) = true := by kernel_rfl
theorem t28_29 : gB classes (fun c => run (.row [4, 1]) (.row [4, 1, 1]) c) = true := by kernel_rfl
theorem t29_7 : gB classes (fun c => run (.row [4, 1, 1]) (.row [1, 1, 1]) c) = true := by kernel_rfl
theorem t29_19 : gB classes (fun c => run (.row [4, 1, 1]) (.row [2, 2, 2]) c) = true := by kernel_rfl
theorem t29_31 : gB classes (fun c => run (.row [4, 1, 1]) (.row [5]) c) = true := by kernel_rfl
theorem t30_9 : gB classes (fun c => run (.row [4, 2]) (.row [1, 1, 1, 1, 1]) c) = true := by kernel_rfl
theorem t30_21 : gB classes (fun c => run (.row [4, 2]) (.row [3, 1]) c) = true := by kernel_rfl
theorem t30_33 : gB classes (fun c => run (.row [4, 2]) (.row [6]) c) = true := by kernel_rfl
theorem t31_11 : gB classes (fun c => run (.row [5]) (.row [2]) c) = true := by kernel_rfl
theorem t31_23 : gB classes (fun c => run (.row [5]) (.row [3, 1, 1, 1]) c) = true := by kernel_rfl
theorem t32_1 : gB classes (fun c => run (.row [5, 1]) .zero c) = true := by kernel_rfl
theorem t32_13 : gB classes (fun c => run (.row [5, 1]) (.row [2, 1, 1]) c) = true := by kernel_rfl
theorem t32_25 : gB classes (fun c => run (.row [5, 1]) (.row [3, 2, 1]) c) = true := by kernel_rfl
theorem t33_3 : gB classes (fun c => run (.row [6]) .long c) = true := by kernel_rfl
theorem t33_15 : gB classes (fun c => run (.row [6]) (.row [2, 1, 1, 1, 1]) c) = true := by kernel_rfl
theorem t33_27 : gB classes (fun c => run (.row [6]) (.row [4]) c) = true := by kernel_rfl
end Go.Proofs.Ytnglbchhlpbgkac.fnExactProductNumberRuns
