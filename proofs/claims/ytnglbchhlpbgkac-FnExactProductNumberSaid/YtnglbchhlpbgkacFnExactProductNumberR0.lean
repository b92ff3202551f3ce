/- Runs of the program at a seat. -/
import Derived.Test.YtnglbchhlpbgkacFnExactProductNumberP
namespace Go.Proofs.Ytnglbchhlpbgkac.fnExactProductNumberRuns
open Go Go.Eng
set_option linter.unusedVariables false
set_option linter.unusedSectionVars false
set_option linter.unusedSimpArgs false
set_option maxRecDepth 100000
theorem t0_0 : gB classes (fun c => run .nil .nil c) = true := by kernel_rfl
theorem t0_12 : gB classes (fun c => run .nil (.row [2, 1]) c) = true := by kernel_rfl
theorem t0_24 : gB classes (fun c => run .nil (.row [3, 2]) c) = true := by kernel_rfl
theorem t1_2 : gB classes (fun c => run .zero .no c) = true := by kernel_rfl
theorem t1_14 : gB classes (fun c => run .zero (.row [2, 1, 1, 1]) c) = true := by kernel_rfl
theorem t1_26 : gB classes (fun c => run .zero (.row [3, 3]) c) = true := by kernel_rfl
theorem t2_4 : gB classes (fun c => run .no (.row []) c) = true := by kernel_rfl
theorem t2_16 : gB classes (fun c => run .no (.row [2, 2]) c) = true := by kernel_rfl
theorem t2_28 : gB classes (fun c => run .no (.row [4, 1]) c) = true := by kernel_rfl
theorem t3_6 : gB classes (fun c => run .long (.row [1, 1]) c) = true := by kernel_rfl
theorem t3_18 : gB classes (fun c => run .long (.row [2, 2, 1, 1]) c) = true := by kernel_rfl
theorem t3_30 : gB classes (fun c => run .long (.row [4, 2]) c) = true := by kernel_rfl
theorem t4_8 : gB classes (fun c => run (.row []) (.row [1, 1, 1, 1]) c) = true := by kernel_rfl
theorem t4_20 : gB classes (fun c => run (.row []) (.row [3]) c) = true := by kernel_rfl
theorem t4_32 : gB classes (fun c => run (.row []) (.row [5, 1]) c) = true := by kernel_rfl
theorem t5_10 : gB classes (fun c => run (.row [1]) (.row [1, 1, 1, 1, 1, 1]) c) = true := by kernel_rfl
theorem t5_22 : gB classes (fun c => run (.row [1]) (.row [3, 1, 1]) c) = true := by kernel_rfl
theorem t6_0 : gB classes (fun c => run (.row [1, 1]) .nil c) = true := by kernel_rfl
theorem t6_12 : gB classes (fun c => run (.row [1, 1]) (.row [2, 1]) c) = true := by kernel_rfl
theorem t6_24 : gB classes (fun c => run (.row [1, 1]) (.row [3, 2]) c) = true := by kernel_rfl
theorem t7_2 : gB classes (fun c => run (.row [1, 1, 1]) .no c) = true := by kernel_rfl
theorem t7_14 : gB classes (fun c => run (.row [1, 1, 1]) (.row [2, 1, 1, 1]) c) = true := by kernel_rfl
theorem t7_26 : gB classes (fun c => run (.row [1, 1, 1]) (.row [3, 3]) c) = true := by kernel_rfl
theorem t8_4 : gB classes (fun c => run (.row [1, 1, 1, 1]) (.row []) c) = true := by kernel_rfl
theorem t8_16 : gB classes (fun c => run (.row [1, 1, 1, 1]) (.row [2, 2]) c) = true := by kernel_rfl
theorem t8_28 : gB classes (fun c => run (.row [1, 1, 1, 1]) (.row [4, 1]) c) = true := by kernel_rfl
theorem t9_6 : gB classes (fun c => run (.row [1, 1, 1, 1, 1]) (.row [1, 1]) c) = true := by kernel_rfl
theorem t9_18 : gB classes (fun c => run (.row [1, 1, 1, 1, 1]) (.row [2, 2, 1, 1]) c) = true := by kernel_rfl
theorem t9_30 : gB classes (fun c => run (.row [1, 1, 1, 1, 1]) (.row [4, 2]) c) = true := by kernel_rfl
theorem t10_8 : gB classes (fun c => run (.row [1, 1, 1, 1, 1, 1]) (.row [1, 1, 1, 1]) c) = true := by kernel_rfl
theorem t10_20 : gB classes (fun c => run (.row [1, 1, 1, 1, 1, 1]) (.row [3]) c) = true := by kernel_rfl
theorem t10_32 : gB classes (fun c => run (.row [1, 1, 1, 1, 1, 1]) (.row [5, 1]) c) = true := by kernel_rfl
theorem t11_10 : gB classes (fun c => run (.row [2]) (.row [1, 1, 1, 1, 1, 1]) c) = true := by kernel_rfl
theorem t11_22 : gB classes (fun c => run (.row [2]) (.row [3, 1, 1]) c) = true := by kernel_rfl
theorem t12_0 : gB classes (fun c => run (.row [2, 1]) .nil c) = true := by kernel_rfl
theorem t12_12 : gB classes (fun c => run (.row [2, 1]) (.row [2, 1]) c) = true := by kernel_rfl
theorem t12_24 : gB classes (fun c => run (.row [2, 1]) (.row [3, 2]) c) = true := by kernel_rfl
theorem t13_2 : gB classes (fun c => run (.row [2, 1, 1]) .no c) = true := by kernel_rfl
theorem t13_14 : gB classes (fun c => run (.row [2, 1, 1]) (.row [2, 1, 1, 1]) c) = true := by kernel_rfl
theorem t13_26 : gB classes (fun c => run (.row [2, 1, 1]) (.row [3, 3]) c) = true := by kernel_rfl
theorem t14_4 : gB classes (fun c => run (.row [2, 1, 1, 1]) (.row []) c) = true := by kernel_rfl
theorem t14_16 : gB classes (fun c => run (.row [2, 1, 1, 1]) (.row [2, 2]) c) = true := by kernel_rfl
theorem t14_28 : gB classes (fun c => run (.row [2, 1, 1, 1]) (.row [4, 1]) c) = true := by kernel_rfl
theorem t15_6 : gB classes (fun c => run (.row [2, 1, 1, 1, 1]) (.row [1, 1]) c) = true := by kernel_rfl
theorem t15_18 : gB classes (fun c => run (.row [2, 1, 1, 1, 1]) (.row [2, 2, 1, 1]) c) = true := by kernel_rfl
theorem t15_30 : gB classes (fun c => run (.row [2, 1, 1, 1, 1]) (.row [4, 2]) c) = true := by kernel_rfl
theorem t16_8 : gB classes (fun c => run (.row [2, 2]) (.row [1, 1, 1, 1]) c) = true := by kernel_rfl
theorem t16_20 : gB classes (fun c => run (.row [2, 2]) (.row [3]) c) = true := by kernel_rfl
theorem t16_32 : gB classes (fun c => run (.row [2, 2]) (.row [5, 1]) c) = true := by kernel_rfl
theorem t17_10 : gB classes (fun c => run (.row [2, 2, 1]) (.row [1, 1, 1, 1, 1, 1]) c) = true := by kernel_rfl
theorem t17_22 : gB classes (fun c => run (.row [2, 2, 1]) (.row [3, 1, 1]) c) = true := by kernel_rfl
theorem t18_0 : gB classes (fun c => run (.row [2, 2, 1, 1]) .nil c) = true := by kernel_rfl
theorem t18_12 : gB classes (fun c => run (.row [2, 2, 1, 1]) (.row [2, 1]) c) = true := by kernel_rfl
theorem t18_24 : gB classes (fun c => run (.row [2, 2, 1, 1]) (.row [3, 2]) c) = true := by kernel_rfl
theorem t19_2 : gB classes (fun c => run (.row [2, 2, 2]) .no c) = true := by kernel_rfl
theorem t19_14 : gB classes (fun c => run (.row [2, 2, 2]) (.row [2, 1, 1, 1]) c) = true := by kernel_rfl
theorem t19_26 : gB classes (fun c => run (.row [2, 2, 2]) (.row [3, 3]) c) = true := by kernel_rfl
theorem t20_4 : gB classes (fun c => run (.row [3]) (.row []) c) = true := by kernel_rfl
theorem t20_16 : gB classes (fun c => run (.row [3]) (.row [2, 2]) c) = true := by kernel_rfl
theorem t20_28 : gB classes (fun c => run (.row [3]) (.row [4, 1]) c) = true := by kernel_rfl
theorem t21_6 : gB classes (fun c => run (.row [3, 1]) (.row [1, 1]) c) = true := by kernel_rfl
theorem t21_18 : gB classes (fun c => run (.row [3, 1]) (.row [2, 2, 1, 1]) c) = true := by kernel_rfl
theorem t21_30 : gB classes (fun c => run (.row [3, 1]) (.row [4, 2]) c) = true := by kernel_rfl
theorem t22_8 : gB classes (fun c => run (.row [3, 1, 1]) (.row [1, 1, 1, 1]) c) = true := by kernel_rfl
theorem t22_20 : gB classes (fun c => run (.row [3, 1, 1]) (.row [3]) c) = true := by kernel_rfl
theorem t22_32 : gB classes (fun c => run (.row [3, 1, 1]) (.row [5, 1]) c) = true := by kernel_rfl
theorem t23_10 : gB classes (fun c => run (.row [3, 1, 1, 1]) (.row [1, 1, 1, 1, 1, 1]) c) = true := by kernel_rfl
theorem t23_22 : gB classes (fun c => run (.row [3, 1, 1, 1]) (.row [3, 1, 1]) c) = true := by kernel_rfl
theorem t24_0 : gB classes (fun c => run (.row [3, 2]) .nil c) = true := by kernel_rfl
theorem t24_12 : gB classes (fun c => run (.row [3, 2]) (.row [2, 1]) c) = true := by kernel_rfl
theorem t24_24 : gB classes (fun c => run (.row [3, 2]) (.row [3, 2]) c) = true := by kernel_rfl
theorem t25_2 : gB classes (fun c => run (.row [3, 2, 1]) .no c) = true := by kernel_rfl
theorem t25_14 : gB classes (fun c => run (.row [3, 2, 1]) (.row [2, 1, 1, 1]) c) = true := by kernel_rfl
theorem t25_26 : gB classes (fun c => run (.row [3, 2, 1]) (.row [3, 3]) c) = true := by kernel_rfl
theorem t26_4 : gB classes (fun c => run (.row [3, 3]) (.row []) c) = true := by kernel_rfl
theorem t26_16 : gB classes (fun c => run (.row [3, 3]) (.row [2, 2]) c) = true := by kernel_rfl
theorem t26_28 : gB classes (fun c => run (.row [3, 3]) (.row [4, 1]) c) = true := by kernel_rfl
theorem t27_6 : gB classes (fun c => run (.row [4]) (.row [1, 1]) c) = true := by kernel_rfl
theorem t27_18 : gB classes (fun c => run (.row [4]) (.row [2, 2, 1, 1]) c) = true := by kernel_rfl
theorem t27_30 : gB classes (fun c => run (.row [4]) (.row [4, 2]) c) = true := by kernel_rfl
theorem t28_8 : gB classes (fun c => run (.row [4, 1]) (.row [1, 1, 1, 1]) c) = true := by kernel_rfl
theorem t28_20 : gB classes (fun c => run (.row [4, 1]) (.row [3]) c) = true := by kernel_rfl
theorem t28_32 : gB classes (fun c => run (.row [4, 1]) (.row [5, 1]) c) = true := by kernel_rfl
theorem t29_10 : gB classes (fun c => run (.row [4, 1, 1]) (.row [1, 1, 1, 1, 1, 1]) c) = true := by kernel_rfl
theorem t29_22 : gB classes (fun c => run (.row [4, 1, 1]) (.row [3, 1, 1]) c) = true := by kernel_rfl
theorem t30_0 : gB classes (fun c => run (.row [4, 2]) .nil c) = true := by kernel_rfl
theorem t30_12 : gB classes (fun c => run (.row [4, 2]) (.row [2, 1]) c) = true := by kernel_rfl
theorem t30_24 : gB classes (fun c => run (.row [4, 2]) (.row [3, 2]) c) = true := by kernel_rfl
theorem t31_2 : gB classes (fun c => run (.row [5]) .no c) = true := by kernel_rfl
theorem t31_14 : gB classes (fun c => run (.row [5]) (.row [2, 1, 1, 1]) c) = true := by kernel_rfl
theorem t31_26 : gB classes (fun c => run (.row [5]) (.row [3, 3]) c) = true := by kernel_rfl
theorem t32_4 : gB classes (fun c => run (.row [5, 1]) (.row []) c) = true := by kernel_rfl
theorem t32_16 : gB classes (fun c => run (.row [5, 1]) (.row [2, 2]) c) = true := by kernel_rfl
theorem t32_28 : gB classes (fun c => run (.row [5, 1]) (.row [4, 1]) c) = true := by kernel_rfl
theorem t33_6 : gB classes (fun c => run (.row [6]) (.row [1, 1]) c) = true := by kernel_rfl
theorem t33_18 : gB classes (fun c => run (.row [6]) (.row [2, 2, 1, 1]) c) = true := by kernel_rfl
theorem t33_30 : gB classes (fun c => run (.row [6]) (.row [4, 2]) c) = true := by kernel_rfl
end Go.Proofs.Ytnglbchhlpbgkac.fnExactProductNumberRuns
