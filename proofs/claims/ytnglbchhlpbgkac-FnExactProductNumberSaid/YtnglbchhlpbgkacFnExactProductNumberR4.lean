/- Runs of the program at a seat. -/
import Derived.Test.YtnglbchhlpbgkacFnExactProductNumberP
namespace Go.Proofs.Ytnglbchhlpbgkac.fnExactProductNumberRuns
open Go Go.Eng
set_option linter.unusedVariables false
set_option linter.unusedSectionVars false
set_option linter.unusedSimpArgs false
set_option maxRecDepth 100000
theorem t0_4 : gB classes (fun c => run .nil (.row []) c) = true := by kernel_rfl
theorem t0_16 : gB classes (fun c => run .nil (.row [2, 2]) c) = true := by kernel_rfl
theorem t0_28 : gB classes (fun c => run .nil (.row [4, 1]) c) = true := by kernel_rfl
theorem t1_6 : gB classes (fun c => run .zero (.row [1, 1]) c) = true := by kernel_rfl
theorem t1_18 : gB classes (fun c => run .zero (.row [2, 2, 1, 1]) c) = true := by kernel_rfl
theorem t1_30 : gB classes (fun c => run .zero (.row [4, 2]) c) = true := by kernel_rfl
theorem t2_8 : gB classes (fun c => run .no (.row [1, 1, 1, 1]) c) = true := by kernel_rfl
theorem t2_20 : gB classes (fun c => run .no (.row [3]) c) = true := by kernel_rfl
theorem t2_32 : gB classes (fun c => run .no (.row [5, 1]) c) = true := by kernel_rfl
theorem t3_10 : gB classes (fun c => run .long (.row [1, 1, 1, 1, 1, 1]) c) = true := by kernel_rfl
theorem t3_22 : gB classes (fun c => run .long (.row [3, 1, 1]) c) = true := by kernel_rfl
theorem t4_0 : gB classes (fun c => run (.row []) .nil c) = true := by kernel_rfl
theorem t4_12 : gB classes (fun c => run (.row []) (.row [2, 1]) c) = true := by kernel_rfl
theorem t4_24 : gB classes (fun c => run (.row []) (.row [3, 2]) c) = true := by kernel_rfl
theorem t5_2 : gB classes (fun c => run (.row [1]) .no c) = true := by kernel_rfl
theorem t5_14 : gB classes (fun c => run (.row [1]) (.row [2, 1, 1, 1]) c) = true := by kernel_rfl
theorem t5_26 : gB classes (fun c => run (.row [1]) (.row [3, 3]) c) = true := by kernel_rfl
theorem t6_4 : gB classes (fun c => run (.row [1, 1]) (.row []) c) = true := by kernel_rfl
theorem t6_16 : gB classes (fun c => run (.row [1, 1]) (.row [2, 2]) c) = true := by kernel_rfl
theorem t6_28 : gB classes (fun c => run (.row [1, 1]) (.row [4, 1]) c) = true := by kernel_rfl
theorem t7_6 : gB classes (fun c => run (.row [1, 1, 1]) (.row [1, 1]) c) = true := by kernel_rfl
theorem t7_18 : gB classes (fun c => run (.row [1, 1, 1]) (.row [2, 2, 1, 1]) c) = true := by kernel_rfl
theorem t7_30 : gB classes (fun c => run (.row [1, 1, 1]) (.row [4, 2]) c) = true := by kernel_rfl
theorem t8_8 : gB classes (fun c => run (.row [1, 1, 1, 1]) (.row [1, 1, 1, 1]) c) = true := by kernel_rfl
theorem t8_20 : gB classes (fun c => run (.row [1, 1, 1, 1]) (.row [3]) c) = true := by kernel_rfl
theorem t8_32 : gB classes (fun c => run (.row [1, 1, 1, 1]) (.row [5, 1]) c) = true := by kernel_rfl
theorem t9_10 : gB classes (fun c => run (.row [1, 1, 1, 1, 1]) (.row [1, 1, 1, 1, 1, 1]) c) = true := by kernel_rfl
theorem t9_22 : gB classes (fun c => run (.row [1, 1, 1, 1, 1]) (.row [3, 1, 1]) c) = true := by kernel_rfl
theorem t10_0 : gB classes (fun c => run (.row [1, 1, 1, 1, 1, 1]) .nil c) = true := by kernel_rfl
theorem t10_12 : gB classes (fun c => run (.row [1, 1, 1, 1, 1, 1]) (.row [2, 1]) c) = true := by kernel_rfl
theorem t10_24 : gB classes (fun c => run (.row [1, 1, 1, 1, 1, 1]) (.row [3, 2]) c) = true := by kernel_rfl
theorem t11_2 : gB classes (fun c => run (.row [2]) .no c) = true := by kernel_rfl
theorem t11_14 : gB classes (fun c => run (.row [2]) (.row [2, 1, 1, 1]) c) = true := by kernel_rfl
theorem t11_26 : gB classes (fun c => run (.row [2]) (.row [3, 3]) c) = true := by kernel_rfl
theorem t12_4 : gB classes (fun c => run (.row [2, 1]) (.row []) c) = true := by kernel_rfl
theorem t12_16 : gB classes (fun c => run (.row [2, 1]) (.row [2, 2]) c) = true := by kernel_rfl
theorem t12_28 : gB classes (fun c => run (.row [2, 1]) (.row [4, 1]) c) = true := by kernel_rfl
theorem t13_6 : gB classes (fun c => run (.row [2, 1, 1]) (.row [1, 1]) c) = true := by kernel_rfl
theorem t13_18 : gB classes (fun c => run (.row [2, 1, 1]) (.row [2, 2, 1, 1]) c) = true := by kernel_rfl
theorem t13_30 : gB classes (fun c => run (.row [2, 1, 1]) (.row [4, 2]) c) = true := by kernel_rfl
theorem t14_8 : gB classes (fun c => run (.row [2, 1, 1, 1]) (.row [1, 1, 1, 1]) c) = true := by kernel_rfl
theorem t14_20 : gB classes (fun c => run (.row [2, 1, 1, 1]) (.row [3]) c) = true := by kernel_rfl
theorem t14_32 : gB classes (fun c => run (.row [2, 1, 1, 1]) (.row [5, 1]) c) = true := by kernel_rfl
theorem t15_10 : gB classes (fun c => run (.row [2, 1, 1, 1, 1]) (.row [1, 1, 1, 1, 1, 1]) c) = true := by kernel_rfl
theorem t15_22 : gB classes (fun c => run (.row [2, 1, 1, 1, 1]) (.row [3, 1, 1]) c) = true := by kernel_rfl
theorem t16_0 : gB classes (fun c => run (.row [2, 2]) .nil c) = true := by kernel_rfl
theorem t16_12 : gB classes (fun c => run (.row [2, 2]) (.row [2, 1]) c) = true := by kernel_rfl
theorem t16_24 : gB classes (fun c => run (.row [2, 2]) (.row [3, 2]) c) = true := by kernel_rfl
theorem t17_2 : gB classes (fun c => run (.row [2, 2, 1]) .no c) = true := by kernel_rfl
theorem t17_14 : gB classes (fun c => run (.row [2, 2, 1]) (.row [2, 1, 1, 1]) c) = true := by kernel_rfl
theorem t17_26 : gB classes (fun c => run (.row [2, 2, 1]) (.row [3, 3]) c) = true := by kernel_rfl
theorem t18_4 : gB classes (fun c => run (.row [2, 2, 1, 1]) (.row []) c) = true := by kernel_rfl
theorem t18_16 : gB classes (fun c => run (.row [2, 2, 1, 1]) (.row [2, 2]) c) = true := by kernel_rfl
theorem t18_28 : gB classes (fun c => run (.row [2, 2, 1, 1]) (.row [4, 1]) c) = true := by kernel_rfl
theorem t19_6 : gB classes (fun c => run (.row [2, 2, 2]) (.row [1, 1]) c) = true := by kernel_rfl
theorem t19_18 : gB classes (fun c => run (.row [2, 2, 2]) (.row [2, 2, 1, 1]) c) = true := by kernel_rfl
theorem t19_30 : gB classes (fun c => run (.row [2, 2, 2]) (.row [4, 2]) c) = true := by kernel_rfl
theorem t20_8 : gB classes (fun c => run (.row [3]) (.row [1, 1, 1, 1]) c) = true := by kernel_rfl
theorem t20_20 : gB classes (fun c => run (.row [3]) (.row [3]) c) = true := by kernel_rfl
theorem t20_32 : gB classes (fun c => run (.row [3]) (.row [5, 1]) c) = true := by kernel_rfl
theorem t21_10 : gB classes (fun c => run (.row [3, 1]) (.row [1, 1, 1, 1, 1, 1]) c) = true := by kernel_rfl
theorem t21_22 : gB classes (fun c => run (.row [3, 1]) (.row [3, 1, 1]) c) = true := by kernel_rfl
theorem t22_0 : gB classes (fun c => run (.row [3, 1, 1]) .nil c) = true := by kernel_rfl
theorem t22_12 : gB classes (fun c => run (.row [3, 1, 1]) (.row [2, 1]) c) = true := by kernel_rfl
theorem t22_24 : gB classes (fun c => run (.row [3, 1, 1]) (.row [3, 2]) c) = true := by kernel_rfl
theorem t23_2 : gB classes (fun c => run (.row [3, 1, 1, 1]) .no c) = true := by kernel_rfl
theorem t23_14 : gB classes (fun c => run (.row [3, 1, 1, 1]) (.row [2, 1, 1, 1]) c) = true := by kernel_rfl
theorem t23_26 : gB classes (fun c => run (.row [3, 1, 1, 1]) (.row [3, 3]) c) = true := by kernel_rfl
theorem t24_4 : gB classes (fun c => run (.row [3, 2]) (.row []) c) = true := by kernel_rfl
theorem t24_16 : gB classes (fun c => run (.row [3, 2]) (.row [2, 2]) c) = true := by kernel_rfl
theorem t24_28 : gB classes (fun c => run (.row [3, 2]) (.row [4, 1]) c) = true := by kernel_rfl
theorem t25_6 : gB classes (fun c => run (.row [3, 2, 1]) (.row [1, 1]) c) = true := by kernel_rfl
theorem t25_18 : gB classes (fun c => run (.row [3, 2, 1]) (.row [2, 2, 1, 1]) c) = true := by kernel_rfl
theorem t25_30 : gB classes (fun c => run (.row [3, 2, 1]) (.row [4, 2]) c) = true := by kernel_rfl
theorem t26_8 : gB classes (fun c => run (.row [3, 3]) (.row [1, 1, 1, 1]) c) = true := by kernel_rfl
theorem t26_20 : gB classes (fun c => run (.row [3, 3]) (.row [3]) c) = true := by kernel_rfl
theorem t26_32 : gB classes (fun c => run (.row [3, 3]) (.row [5, 1]) c) = true := by kernel_rfl
theorem t27_10 : gB classes (fun c => run (.row [4]) (.row [1, 1, 1, 1, 1, 1]) c) = true := by kernel_rfl
theorem t27_22 : gB classes (fun c => run (.row [4]) (.row [3, 1, 1]) c) = true := by kernel_rfl
theorem t28_0 : gB classes (fun c => run (.row [4, 1]) .nil c) = true := by kernel_rfl
theorem t28_12 : gB classes (fun c => run (.row [4, 1]) (.row [2, 1]) c) = true := by kernel_rfl
theorem t28_24 : gB classes (fun c => run (.row [4, 1]) (.row [3, 2]) c) = true := by kernel_rfl
theorem t29_2 : gB classes (fun c => run (.row [4, 1, 1]) .no c) = true := by kernel_rfl
theorem t29_14 : gB classes (fun c => run (.row [4, 1, 1]) (.row [2, 1, 1, 1]) c) = true := by kernel_rfl
theorem t29_26 : gB classes (fun c => run (.row [4, 1, 1]) (.row [3, 3]) c) = true := by kernel_rfl
theorem t30_4 : gB classes (fun c => run (.row [4, 2]) (.row []) c) = true := by kernel_rfl
theorem t30_16 : gB classes (fun c => run (.row [4, 2]) (.row [2, 2]) c) = true := by kernel_rfl
theorem t30_28 : gB classes (fun c => run (.row [4, 2]) (.row [4, 1]) c) = true := by kernel_rfl
theorem t31_6 : gB classes (fun c => run (.row [5]) (.row [1, 1]) c) = true := by kernel_rfl
theorem t31_18 : gB classes (fun c => run (.row [5]) (.row [2, 2, 1, 1]) c) = true := by kernel_rfl
theorem t31_30 : gB classes (fun c => run (.row [5]) (.row [4, 2]) c) = true := by kernel_rfl
theorem t32_8 : gB classes (fun c => run (.row [5, 1]) (.row [1, 1, 1, 1]) c) = true := by kernel_rfl
theorem t32_20 : gB classes (fun c => run (.row [5, 1]) (.row [3]) c) = true := by kernel_rfl
theorem t32_32 : gB classes (fun c => run (.row [5, 1]) (.row [5, 1]) c) = true := by kernel_rfl
theorem t33_10 : gB classes (fun c => run (.row [6]) (.row [1, 1, 1, 1, 1, 1]) c) = true := by kernel_rfl
theorem t33_22 : gB classes (fun c => run (.row [6]) (.row [3, 1, 1]) c) = true := by kernel_rfl
end Go.Proofs.Ytnglbchhlpbgkac.fnExactProductNumberRuns
