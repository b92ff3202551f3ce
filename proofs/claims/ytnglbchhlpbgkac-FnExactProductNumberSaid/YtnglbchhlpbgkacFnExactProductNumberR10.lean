/- Runs of the program at a seat. -/
import Derived.Test.YtnglbchhlpbgkacFnExactProductNumberP
namespace Go.Proofs.Ytnglbchhlpbgkac.fnExactProductNumberRuns
open Go Go.Eng
set_option linter.unusedVariables false
set_option linter.unusedSectionVars false
set_option linter.unusedSimpArgs false
set_option maxRecDepth 100000
theorem t0_10 : gB classes (fun c => run .nil (.row [1, 1, 1, 1, 1, 1]) c) = true := by kernel_rfl
theorem t0_22 : gB classes (fun c => run .nil (.row [3, 1, 1]) c) = true := by kernel_rfl
theorem t1_0 : gB classes (fun c => run .zero .nil c) = true := by kernel_rfl
theorem t1_12 : gB classes (fun c => run .zero (.row [2, 1]) c) = true := by kernel_rfl
theorem t1_24 : gB classes (fun c => run .zero (.row [3, 2]) c) = true := by kernel_rfl
theorem t2_2 : gB classes (fun c => run .no .no c) = true := by kernel_rfl
theorem t2_14 : gB classes (fun c => run .no (.row [2, 1, 1, 1]) c) = true := by kernel_rfl
theorem t2_26 : gB classes (fun c => run .no (.row [3, 3]) c) = true := by kernel_rfl
theorem t3_4 : gB classes (fun c => run .long (.row []) c) = true := by kernel_rfl
theorem t3_16 : gB classes (fun c => run .long (.row [2, 2]) c) = true := by kernel_rfl
theorem t3_28 : gB classes (fun c => run .long (.row [4, 1]) c) = true := by kernel_rfl
theorem t4_6 : gB classes (fun c => run (.row []) (.row [1, 1]) c) = true := by kernel_rfl
theorem t4_18 : gB classes (fun c => run (.row []) (.row [2, 2, 1, 1]) c) = true := by kernel_rfl
theorem t4_30 : gB classes (fun c => run (.row []) (.row [4, 2]) c) = true := by kernel_rfl
theorem t5_8 : gB classes (fun c => run (.row [1]) (.row [1, 1, 1, 1]) c) = true := by kernel_rfl
theorem t5_20 : gB classes (fun c => run (.row [1]) (.row [3]) c) = true := by kernel_rfl
theorem t5_32 : gB classes (fun c => run (.row [1]) (.row [5, 1]) c) = true := by kernel_rfl
theorem t6_10 : gB classes (fun c => run (.row [1, 1]) (.row [1, 1, 1, 1, 1, 1]) c) = true := by kernel_rfl
theorem t6_22 : gB classes (fun c => run (.row [1, 1]) (.row [3, 1, 1]) c) = true := by kernel_rfl
theorem t7_0 : gB classes (fun c => run (.row [1, 1, 1]) .nil c) = true := by kernel_rfl
theorem t7_12 : gB classes (fun c => run (.row [1, 1, 1]) (.row [2, 1]) c) = true := by kernel_rfl
theorem t7_24 : gB classes (fun c => run (.row [1, 1, 1]) (.row [3, 2]) c) = true := by kernel_rfl
theorem t8_2 : gB classes (fun c => run (.row [1, 1, 1, 1]) .no c) = true := by kernel_rfl
theorem t8_14 : gB classes (fun c => run (.row [1, 1, 1, 1]) (.row [2, 1, 1, 1]) c) = true := by kernel_rfl
theorem t8_26 : gB classes (fun c => run (.row [1, 1, 1, 1]) (.row [3, 3]) c) = true := by kernel_rfl
theorem t9_4 : gB classes (fun c => run (.row [1, 1, 1, 1, 1]) (.row []) c) = true := by kernel_rfl
theorem t9_16 : gB classes (fun c => run (.row [1, 1, 1, 1, 1]) (.row [2, 2]) c) = true := by kernel_rfl
theorem t9_28 : gB classes (fun c => run (.row [1, 1, 1, 1, 1]) (.row [4, 1]) c) = true := by kernel_rfl
theorem t10_6 : gB classes (fun c => run (.row [1, 1, 1, 1, 1, 1]) (.row [1, 1]) c) = true := by kernel_rfl
theorem t10_18 : gB classes (fun c => run (.row [1, 1, 1, 1, 1, 1]) (.row [2, 2, 1, 1]) c) = true := by kernel_rfl
theorem t10_30 : gB classes (fun c => run (.row [1, 1, 1, 1, 1, 1]) (.row [4, 2]) c) = true := by kernel_rfl
theorem t11_8 : gB classes (fun c => run (.row [2]) (.row [1, 1, 1, 1]) c) = true := by kernel_rfl
theorem t11_20 : gB classes (fun c => run (.row [2]) (.row [3]) c) = true := by kernel_rfl
theorem t11_32 : gB classes (fun c => run (.row [2]) (.row [5, 1]) c) = true := by kernel_rfl
theorem t12_10 : gB classes (fun c => run (.row [2, 1]) (.row [1, 1, 1, 1, 1, 1]) c) = true := by kernel_rfl
theorem t12_22 : gB classes (fun c => run (.row [2, 1]) (.row [3, 1, 1]) c) = true := by kernel_rfl
theorem t13_0 : gB classes (fun c => run (.row [2, 1, 1]) .nil c) = true := by kernel_rfl
theorem t13_12 : gB classes (fun c => run (.row [2, 1, 1]) (.row [2, 1]) c) = true := by kernel_rfl
theorem t13_24 : gB classes (fun c => run (.row [2, 1, 1]) (.row [3, 2]) c) = true := by kernel_rfl
theorem t14_2 : gB classes (fun c => run (.row [2, 1, 1, 1]) .no c) = true := by kernel_rfl
theorem t14_14 : gB classes (fun c => run (.row [2, 1, 1, 1]) (.row [2, 1, 1, 1]) c) = true := by kernel_rfl
theorem t14_26 : gB classes (fun c => run (.row [2, 1, 1, 1]) (.row [3, 3]) c) = true := by kernel_rfl
theorem t15_4 : gB classes (fun c => run (.row [2, 1, 1, 1, 1]) (.row []) c) = true := by kernel_rfl
theorem t15_16 : gB classes (fun c => run (.row [2, 1, 1, 1, 1]) (.row [2, 2]) c) = true := by kernel_rfl
theorem t15_28 : gB classes (fun c => run (.row [2, 1, 1, 1, 1]) (.row [4, 1]) c) = true := by kernel_rfl
theorem t16_6 : gB classes (fun c => run (.row [2, 2]) (.row [1, 1]) c) = true := by kernel_rfl
theorem t16_18 : gB classes (fun c => run (.row [2, 2]) (.row [2, 2, 1, 1]) c) = true := by kernel_rfl
theorem t16_30 : gB classes (fun c => run (.row [2, 2]) (.row [4, 2]) c) = true := by kernel_rfl
theorem t17_8 : gB classes (fun c => run (.row [2, 2, 1]) (.row [1, 1, 1, 1]) c) = true := by kernel_rfl
theorem t17_20 : gB classes (fun c => run (.row [2, 2, 1]) (.row [3]) c) = true := by kernel_rfl
theorem t17_32 : gB classes (fun c => run (.row [2, 2, 1]) (.row [5, 1]) c) = true := by kernel_rfl
theorem t18_10 : gB classes (fun c => run (.row [2, 2, 1, 1]) (.row [1, 1, 1, 1, 1, 1]) c) = true := by kernel_rfl
theorem t18_22 : gB classes (fun c => run (.row [2, 2, 1, 1]) (.row [3, 1, 1]) c) = true := by kernel_rfl
theorem t19_0 : gB classes (fun c => run (.row [2, 2, 2]) .nil c) = true := by kernel_rfl
theorem t19_12 : gB classes (fun c => run (.row [2, 2, 2]) (.row [2, 1]) c) = true := by kernel_rfl
theorem t19_24 : gB classes (fun c => run (.row [2, 2, 2]) (.row [3, 2]) c) = true := by kernel_rfl
theorem t20_2 : gB classes (fun c => run (.row [3]) .no c) = true := by kernel_rfl
theorem t20_14 : gB classes (fun c => run (.row [3]) (.row [2, 1, 1, 1]) c) = true := by kernel_rfl
theorem t20_26 : gB classes (fun c => run (.row [3]) (.row [3, 3]) c) = true := by kernel_rfl
theorem t21_4 : gB classes (fun c => run (.row [3, 1]) (.row []) c) = true := by kernel_rfl
theorem t21_16 : gB classes (fun c => run (.row [3, 1]) (.row [2, 2]) c) = true := by kernel_rfl
theorem t21_28 : gB classes (fun c => run (.row [3, 1]) (.row [4, 1]) c) = true := by kernel_rfl
theorem t22_6 : gB classes (fun c => run (.row [3, 1, 1]) (.row [1, 1]) c) = true := by kernel_rfl
theorem t22_18 : gB classes (fun c => run (.row [3, 1, 1]) (.row [2, 2, 1, 1]) c) = true := by kernel_rfl
theorem t22_30 : gB classes (fun c => run (.row [3, 1, 1]) (.row [4, 2]) c) = true := by kernel_rfl
theorem t23_8 : gB classes (fun c => run (.row [3, 1, 1, 1]) (.row [1, 1, 1, 1]) c) = true := by kernel_rfl
theorem t23_20 : gB classes (fun c => run (.row [3, 1, 1, 1]) (.row [3]) c) = true := by kernel_rfl
theorem t23_32 : gB classes (fun c => run (.row [3, 1, 1, 1]) (.row [5, 1]) c) = true := by kernel_rfl
theorem t24_10 : gB classes (fun c => run (.row [3, 2]) (.row [1, 1, 1, 1, 1, 1]) c) = true := by kernel_rfl
theorem t24_22 : gB classes (fun c => run (.row [3, 2]) (.row [3, 1, 1]) c) = true := by kernel_rfl
theorem t25_0 : gB classes (fun c => run (.row [3, 2, 1]) .nil c) = true := by kernel_rfl
theorem t25_12 : gB classes (fun c => run (.row [3, 2, 1]) (.row [2, 1]) c) = true := by kernel_rfl
theorem t25_24 : gB classes (fun c => run (.row [3, 2, 1]) (.row [3, 2]) c) = true := by kernel_rfl
theorem t26_2 : gB classes (fun c => run (.row [3, 3]) .no c) = true := by kernel_rfl
theorem t26_14 : gB classes (fun c => run (.row [3, 3]) (.row [2, 1, 1, 1]) c) = true := by kernel_rfl
theorem t26_26 : gB classes (fun c => run (.row [3, 3]) (.row [3, 3]) c) = true := by kernel_rfl
theorem t27_4 : gB classes (fun c => run (.row [4]) (.row []) c) = true := by kernel_rfl
theorem t27_16 : gB classes (fun c => run (.row [4]) (.row [2, 2]) c) = true := by kernel_rfl
theorem t27_28 : gB classes (fun c => run (.row [4]) (.row [4, 1]) c) = true := by kernel_rfl
theorem t28_6 : gB classes (fun c => run (.row [4, 1]) (.row [1, 1]) c) = true := by kernel_rfl
theorem t28_18 : gB classes (fun c => run (.row [4, 1]) (.row [2, 2, 1, 1]) c) = true := by kernel_rfl
theorem t28_30 : gB classes (fun c => run (.row [4, 1]) (.row [4, 2]) c) = true := by kernel_rfl
theorem t29_8 : gB classes (fun c => run (.row [4, 1, 1]) (.row [1, 1, 1, 1]) c) = true := by kernel_rfl
theorem t29_20 : gB classes (fun c => run (.row [4, 1, 1]) (.row [3]) c) = true := by kernel_rfl
theorem t29_32 : gB classes (fun c => run (.row [4, 1, 1]) (.row [5, 1]) c) = true := by kernel_rfl
theorem t30_10 : gB classes (fun c => run (.row [4, 2]) (.row [1, 1, 1, 1, 1, 1]) c) = true := by kernel_rfl
theorem t30_22 : gB classes (fun c => run (.row [4, 2]) (.row [3, 1, 1]) c) = true := by kernel_rfl
theorem t31_0 : gB classes (fun c => run (.row [5]) .nil c) = true := by kernel_rfl
theorem t31_12 : gB classes (fun c => run (.row [5]) (.row [2, 1]) c) = true := by kernel_rfl
theorem t31_24 : gB classes (fun c => run (.row [5]) (.row [3, 2]) c) = true := by kernel_rfl
theorem t32_2 : gB classes (fun c => run (.row [5, 1]) .no c) = true := by kernel_rfl
theorem t32_14 : gB classes (fun c => run (.row [5, 1]) (.row [2, 1, 1, 1]) c) = true := by kernel_rfl
theorem t32_26 : gB classes (fun c => run (.row [5, 1]) (.row [3, 3]) c) = true := by kernel_rfl
theorem t33_4 : gB classes (fun c => run (.row [6]) (.row []) c) = true := by kernel_rfl
theorem t33_16 : gB classes (fun c => run (.row [6]) (.row [2, 2]) c) = true := by kernel_rfl
theorem t33_28 : gB classes (fun c => run (.row [6]) (.row [4, 1]) c) = true := by kernel_rfl
end Go.Proofs.Ytnglbchhlpbgkac.fnExactProductNumberRuns
