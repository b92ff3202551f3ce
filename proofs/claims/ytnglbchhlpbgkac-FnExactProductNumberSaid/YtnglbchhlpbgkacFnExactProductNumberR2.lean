/- Runs of the program at a seat. -/
import Derived.Test.YtnglbchhlpbgkacFnExactProductNumberP
namespace Go.Proofs.Ytnglbchhlpbgkac.fnExactProductNumberRuns
open Go Go.Eng
set_option linter.unusedVariables false
set_option linter.unusedSectionVars false
set_option linter.unusedSimpArgs false
set_option maxRecDepth 100000
theorem t0_2 : gB classes (fun c => run .nil .no c) = true := by kernel_rfl
theorem t0_14 : gB classes (fun c => run .nil (.row [2, 1, 1, 1]) c) = true := by kernel_rfl
theorem t0_26 : gB classes (fun c => run .nil (.row [3, 3]) c) = true := by kernel_rfl
theorem t1_4 : gB classes (fun c => run .zero (.row []) c) = true := by kernel_rfl
theorem t1_16 : gB classes (fun c => run .zero (.row [2, 2]) c) = true := by kernel_rfl
theorem t1_28 : gB classes (fun c => run .zero (.row [4, 1]) c) = true := by kernel_rfl
theorem t2_6 : gB classes (fun c => run .no (.row [1, 1]) c) = true := by kernel_rfl
theorem t2_18 : gB classes (fun c => run .no (.row [2, 2, 1, 1]) c) = true := by kernel_rfl
theorem t2_30 : gB classes (fun c => run .no (.row [4, 2]) c) = true := by kernel_rfl
theorem t3_8 : gB classes (fun c => run .long (.row [1, 1, 1, 1]) c) = true := by kernel_rfl
theorem t3_20 : gB classes (fun c => run .long (.row [3]) c) = true := by kernel_rfl
theorem t3_32 : gB classes (fun c => run .long (.row [5, 1]) c) = true := by kernel_rfl
theorem t4_10 : gB classes (fun c => run (.row []) (.row [1, 1, 1, 1, 1, 1]) c) = true := by kernel_rfl
theorem t4_22 : gB classes (fun c => run (.row []) (.row [3, 1, 1]) c) = true := by kernel_rfl
theorem t5_0 : gB classes (fun c => run (.row [1]) .nil c) = true := by kernel_rfl
theorem t5_12 : gB classes (fun c => run (.row [1]) (.row [2, 1]) c) = true := by kernel_rfl
theorem t5_24 : gB classes (fun c => run (.row [1]) (.row [3, 2]) c) = true := by kernel_rfl
theorem t6_2 : gB classes (fun c => run (.row [1, 1]) .no c) = true := by kernel_rfl
theorem t6_14 : gB classes (fun c => run (.row [1, 1]) (.row [2, 1, 1, 1]) c) = true := by kernel_rfl
theorem t6_26 : gB classes (fun c => run (.row [1, 1]) (.row [3, 3]) c) = true := by kernel_rfl
theorem t7_4 : gB classes (fun c => run (.row [1, 1, 1]) (.row []) c) = true := by kernel_rfl
theorem t7_16 : gB classes (fun c => run (.row [1, 1, 1]) (.row [2, 2]) c) = true := by kernel_rfl
theorem t7_28 : gB classes (fun c => run (.row [1, 1, 1]) (.row [4, 1]) c) = true := by kernel_rfl
theorem t8_6 : gB classes (fun c => run (.row [1, 1, 1, 1]) (.row [1, 1]) c) = true := by kernel_rfl
theorem t8_18 : gB classes (fun c => run (.row [1, 1, 1, 1]) (.row [2, 2, 1, 1]) c) = true := by kernel_rfl
theorem t8_30 : gB classes (fun c => run (.row [1, 1, 1, 1]) (.row [4, 2]) c) = true := by kernel_rfl
theorem t9_8 : gB classes (fun c => run (.row [1, 1, 1, 1, 1]) (.row [1, 1, 1, 1]) c) = true := by kernel_rfl
theorem t9_20 : gB classes (fun c => run (.row [1, 1, 1, 1, 1]) (.row [3]) c) = true := by kernel_rfl
theorem t9_32 : gB classes (fun c => run (.row [1, 1, 1, 1, 1]) (.row [5, 1]) c) = true := by kernel_rfl
theorem t10_10 : gB classes (fun c => run (.row [1, 1, 1, 1, 1, 1]) (.row [1, 1, 1, 1, 1, 1]) c) = true := by kernel_rfl
theorem t10_22 : gB classes (fun c => run (.row [1, 1, 1, 1, 1, 1]) (.row [3, 1, 1]) c) = true := by kernel_rfl
theorem t11_0 : gB classes (fun c => run (.row [2]) .nil c) = true := by kernel_rfl
theorem t11_12 : gB classes (fun c => run (.row [2]) (.row [2, 1]) c) = true := by kernel_rfl
theorem t11_24 : gB classes (fun c => run (.row [2]) (.row [3, 2]) c) = true := by kernel_rfl
theorem t12_2 : gB classes (fun c => run (.row [2, 1]) .no c) = true := by kernel_rfl
theorem t12_14 : gB classes (fun c => run (.row [2, 1]) (.row [2, 1, 1, 1]) c) = true := by kernel_rfl
theorem t12_26 : gB classes (fun c => run (.row [2, 1]) (.row [3, 3]) c) = true := by kernel_rfl
theorem t13_4 : gB classes (fun c => run (.row [2, 1, 1]) (.row []) c) = true := by kernel_rfl
theorem t13_16 : gB classes (fun c => run (.row [2, 1, 1]) (.row [2, 2]) c) = true := by kernel_rfl
theorem t13_28 : gB classes (fun c => run (.row [2, 1, 1]) (.row [4, 1]) c) = true := by kernel_rfl
theorem t14_6 : gB classes (fun c => run (.row [2, 1, 1, 1]) (.row [1, 1]) c) = true := by kernel_rfl
theorem t14_18 : gB classes (fun c => run (.row [2, 1, 1, 1]) (.row [2, 2, 1, 1]) c) = true := by kernel_rfl
theorem t14_30 : gB classes (fun c => run (.row [2, 1, 1, 1]) (.row [4, 2]) c) = true := by kernel_rfl
theorem t15_8 : gB classes (fun c => run (.row [2, 1, 1, 1, 1]) (.row [1, 1, 1, 1]) c) = true := by kernel_rfl
theorem t15_20 : gB classes (fun c => run (.row [2, 1, 1, 1, 1]) (.row [3]) c) = true := by kernel_rfl
theorem t15_32 : gB classes (fun c => run (.row [2, 1, 1, 1, 1]) (.row [5, 1]) c) = true := by kernel_rfl
theorem t16_10 : gB classes (fun c => run (.row [2, 2]) (.row [1, 1, 1, 1, 1, 1]) c) = true := by kernel_rfl
theorem t16_22 : gB classes (fun c => run (.row [2, 2]) (.row [3, 1, 1]) c) = true := by kernel_rfl
theorem t17_0 : gB classes (fun c => run (.row [2, 2, 1]) .nil c) = true := by kernel_rfl
theorem t17_12 : gB classes (fun c => run (.row [2, 2, 1]) (.row [2, 1]) c) = true := by kernel_rfl
theorem t17_24 : gB classes (fun c => run (.row [2, 2, 1]) (.row [3, 2]) c) = true := by kernel_rfl
theorem t18_2 : gB classes (fun c => run (.row [2, 2, 1, 1]) .no c) = true := by kernel_rfl
theorem t18_14 : gB classes (fun c => run (.row [2, 2, 1, 1]) (.row [2, 1, 1, 1]) c) = true := by kernel_rfl
theorem t18_26 : gB classes (fun c => run (.row [2, 2, 1, 1]) (.row [3, 3]) c) = true := by kernel_rfl
theorem t19_4 : gB classes (fun c => run (.row [2, 2, 2]) (.row []) c) = true := by kernel_rfl
theorem t19_16 : gB classes (fun c => run (.row [2, 2, 2]) (.row [2, 2]) c) = true := by kernel_rfl
theorem t19_28 : gB classes (fun c => run (.row [2, 2, 2]) (.row [4, 1]) c) = true := by kernel_rfl
theorem t20_6 : gB classes (fun c => run (.row [3]) (.row [1, 1]) c) = true := by kernel_rfl
theorem t20_18 : gB classes (fun c => run (.row [3]) (.row [2, 2, 1, 1]) c) = true := by kernel_rfl
theorem t20_30 : gB classes (fun c => run (.row [3]) (.row [4, 2]) c) = true := by kernel_rfl
theorem t21_8 : gB classes (fun c => run (.row [3, 1]) (.row [1, 1, 1, 1]) c) = true := by kernel_rfl
theorem t21_20 : gB classes (fun c => run (.row [3, 1]) (.row [3]) c) = true := by kernel_rfl
theorem t21_32 : gB classes (fun c => run (.row [3, 1]) (.row [5, 1]) c) = true := by kernel_rfl
theorem t22_10 : gB classes (fun c => run (.row [3, 1, 1]) (.row [1, 1, 1, 1, 1, 1]) c) = true := by kernel_rfl
theorem t22_22 : gB classes (fun c => run (.row [3, 1, 1]) (.row [3, 1, 1]) c) = true := by kernel_rfl
theorem t23_0 : gB classes (fun c => run (.row [3, 1, 1, 1]) .nil c) = true := by kernel_rfl
theorem t23_12 : gB classes (fun c => run (.row [3, 1, 1, 1]) (.row [2, 1]) c) = true := by kernel_rfl
theorem t23_24 : gB classes (fun c => run (.row [3, 1, 1, 1]) (.row [3, 2]) c) = true := by kernel_rfl
theorem t24_2 : gB classes (fun c => run (.row [3, 2]) .no c) = true := by kernel_rfl
theorem t24_14 : gB classes (fun c => run (.row [3, 2]) (.row [2, 1, 1, 1]) c) = true := by kernel_rfl
theorem t24_26 : gB classes (fun c => run (.row [3, 2]) (.row [3, 3]) c) = true := by kernel_rfl
theorem t25_4 : gB classes (fun c => run (.row [3, 2, 1]) (.row []) c) = true := by kernel_rfl
theorem t25_16 : gB classes (fun c => run (.row [3, 2, 1]) (.row [2, 2]) c) = true := by kernel_rfl
theorem t25_28 : gB classes (fun c => run (.row [3, 2, 1]) (.row [4, 1]) c) = true := by kernel_rfl
theorem t26_6 : gB classes (fun c => run (.row [3, 3]) (.row [1, 1]) c) = true := by kernel_rfl
theorem t26_18 : gB classes (fun c => run (.row [3, 3]) (.row [2, 2, 1, 1]) c) = true := by kernel_rfl
theorem t26_30 : gB classes (fun c => run (.row [3, 3]) (.row [4, 2]) c) = true := by kernel_rfl
theorem t27_8 : gB classes (fun c => run (.row [4]) (.row [1, 1, 1, 1]) c) = true := by kernel_rfl
theorem t27_20 : gB classes (fun c => run (.row [4]) (.row [3]) c) = true := by kernel_rfl
theorem t27_32 : gB classes (fun c => run (.row [4]) (.row [5, 1]) c) = true := by kernel_rfl
theorem t28_10 : gB classes (fun c => run (.row [4, 1]) (.row [1, 1, 1, 1, 1, 1]) c) = true := by kernel_rfl
theorem t28_22 : gB classes (fun c => run (.row [4, 1]) (.row [3, 1, 1]) c) = true := by kernel_rfl
theorem t29_0 : gB classes (fun c => run (.row [4, 1, 1]) .nil c) = true := by kernel_rfl
theorem t29_12 : gB classes (fun c => run (.row [4, 1, 1]) (.row [2, 1]) c) = true := by kernel_rfl
theorem t29_24 : gB classes (fun c => run (.row [4, 1, 1]) (.row [3, 2]) c) = true := by kernel_rfl
theorem t30_2 : gB classes (fun c => run (.row [4, 2]) .no c) = true := by kernel_rfl
theorem t30_14 : gB classes (fun c => run (.row [4, 2]) (.row [2, 1, 1, 1]) c) = true := by kernel_rfl
theorem t30_26 : gB classes (fun c => run (.row [4, 2]) (.row [3, 3]) c) = true := by kernel_rfl
theorem t31_4 : gB classes (fun c => run (.row [5]) (.row []) c) = true := by kernel_rfl
theorem t31_16 : gB classes (fun c => run (.row [5]) (.row [2, 2]) c) = true := by kernel_rfl
theorem t31_28 : gB classes (fun c => run (.row [5]) (.row [4, 1]) c) = true := by kernel_rfl
theorem t32_6 : gB classes (fun c => run (.row [5, 1]) (.row [1, 1]) c) = true := by kernel_rfl
theorem t32_18 : gB classes (fun c => run (.row [5, 1]) (.row [2, 2, 1, 1]) c) = true := by kernel_rfl
theorem t32_30 : gB classes (fun c => run (.row [5, 1]) (.row [4, 2]) c) = true := by kernel_rfl
theorem t33_8 : gB classes (fun c => run (.row [6]) (.row [1, 1, 1, 1]) c) = true := by kernel_rfl
theorem t33_20 : gB classes (fun c => run (.row [6]) (.row [3]) c) = true := by kernel_rfl
theorem t33_32 : gB classes (fun c => run (.row [6]) (.row [5, 1]) c) = true := by kernel_rfl
end Go.Proofs.Ytnglbchhlpbgkac.fnExactProductNumberRuns
