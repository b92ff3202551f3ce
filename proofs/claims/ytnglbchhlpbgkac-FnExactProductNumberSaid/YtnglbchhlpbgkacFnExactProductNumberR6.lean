/- Runs of the program at a seat. -/
import Derived.Test.YtnglbchhlpbgkacFnExactProductNumberP
namespace Go.Proofs.Ytnglbchhlpbgkac.fnExactProductNumberRuns
open Go Go.Eng
set_option linter.unusedVariables false
set_option linter.unusedSectionVars false
set_option linter.unusedSimpArgs false
set_option maxRecDepth 100000
theorem t0_6 : gB classes (fun c => run .nil (.row [1, 1]) c) = true := by kernel_rfl
theorem t0_18 : gB classes (fun c => run .nil (.row [2, 2, 1, 1]) c) = true := by kernel_rfl
theorem t0_30 : gB classes (fun c => run .nil (.row [4, 2]) c) = true := by kernel_rfl
theorem t1_8 : gB classes (fun c => run .zero (.row [1, 1, 1, 1]) c) = true := by kernel_rfl
theorem t1_20 : gB classes (fun c => run .zero (.row [3]) c) = true := by kernel_rfl
theorem t1_32 : gB classes (fun c => run .zero (.row [5, 1]) c) = true := by kernel_rfl
theorem t2_10 : gB classes (fun c => run .no (.row [1, 1, 1, 1, 1, 1]) c) = true := by kernel_rfl
theorem t2_22 : gB classes (fun c => run .no (.row [3, 1, 1]) c) = true := by kernel_rfl
theorem t3_0 : gB classes (fun c => run .long .nil c) = true := by kernel_rfl
theorem t3_12 : gB classes (fun c => run .long (.row [2, 1]) c) = true := by kernel_rfl
theorem t3_24 : gB classes (fun c => run .long (.row [3, 2]) c) = true := by kernel_rfl
theorem t4_2 : gB classes (fun c => run (.row []) .no c) = true := by kernel_rfl
theorem t4_14 : gB classes (fun c => run (.row []) (.row [2, 1, 1, 1]) c) = true := by kernel_rfl
theorem t4_26 : gB classes (fun c => run (.row []) (.row [3, 3]) c) = true := by kernel_rfl
theorem t5_4 : gB classes (fun c => run (.row [1]) (.row []) c) = true := by kernel_rfl
theorem t5_16 : gB classes (fun c => run (.row [1]) (.row [2, 2]) c) = true := by kernel_rfl
theorem t5_28 : gB classes (fun c => run (.row [1]) (.row [4, 1]) c) = true := by kernel_rfl
theorem t6_6 : gB classes (fun c => run (.row [1, 1]) (.row [1, 1]) c) = true := by kernel_rfl
theorem t6_18 : gB classes (fun c => run (.row [1, 1]) (.row [2, 2, 1, 1]) c) = true := by kernel_rfl
theorem t6_30 : gB classes (fun c => run (.row [1, 1]) (.row [4, 2]) c) = true := by kernel_rfl
theorem t7_8 : gB classes (fun c => run (.row [1, 1, 1]) (.row [1, 1, 1, 1]) c) = true := by kernel_rfl
theorem t7_20 : gB classes (fun c => run (.row [1, 1, 1]) (.row [3]) c) = true := by kernel_rfl
theorem t7_32 : gB classes (fun c => run (.row [1, 1, 1]) (.row [5, 1]) c) = true := by kernel_rfl
theorem t8_10 : gB classes (fun c => run (.row [1, 1, 1, 1]) (.row [1, 1, 1, 1, 1, 1]) c) = true := by kernel_rfl
theorem t8_22 : gB classes (fun c => run (.row [1, 1, 1, 1]) (.row [3, 1, 1]) c) = true := by kernel_rfl
theorem t9_0 : gB classes (fun c => run (.row [1, 1, 1, 1, 1]) .nil c) = true := by kernel_rfl
theorem t9_12 : gB classes (fun c => run (.row [1, 1, 1, 1, 1]) (.row [2, 1]) c) = true := by kernel_rfl
theorem t9_24 : gB classes (fun c => run (.row [1, 1, 1, 1, 1]) (.row [3, 2]) c) = true := by kernel_rfl
theorem t10_2 : gB classes (fun c => run (.row [1, 1, 1, 1, 1, 1]) .no c) = true := by kernel_rfl
theorem t10_14 : gB classes (fun c => run (.row [1, 1, 1, 1, 1, 1]) (.row [2, 1, 1, 1]) c) = true := by kernel_rfl
theorem t10_26 : gB classes (fun c => run (.row [1, 1, 1, 1, 1, 1]) (.row [3, 3]) c) = true := by kernel_rfl
theorem t11_4 : gB classes (fun c => run (.row [2]) (.row []) c) = true := by kernel_rfl
theorem t11_16 : gB classes (fun c => run (.row [2]) (.row [2, 2]) c) = true := by kernel_rfl
theorem t11_28 : gB classes (fun c => run (.row [2]) (.row [4, 1]) c) = true := by kernel_rfl
theorem t12_6 : gB classes (fun c => run (.row [2, 1]) (.row [1, 1]) c) = true := by kernel_rfl
theorem t12_18 : gB classes (fun c => run (.row [2, 1]) (.row [2, 2, 1, 1]) c) = true := by kernel_rfl
theorem t12_30 : gB classes (fun c => run (.row [2, 1]) (.row [4, 2]) c) = true := by kernel_rfl
theorem t13_8 : gB classes (fun c => run (.row [2, 1, 1]) (.row [1, 1, 1, 1]) c) = true := by kernel_rfl
theorem t13_20 : gB classes (fun c => run (.row [2, 1, 1]) (.row [3]) c) = true := by kernel_rfl
theorem t13_32 : gB classes (fun c => run (.row [2, 1, 1]) (.row [5, 1]) c) = true := by kernel_rfl
theorem t14_10 : gB classes (fun c => run (.row [2, 1, 1, 1]) (.row [1, 1, 1, 1, 1, 1]) c) = true := by kernel_rfl
theorem t14_22 : gB classes (fun c => run (.row [2, 1, 1, 1]) (.row [3, 1, 1]) c) = true := by kernel_rfl
theorem t15_0 : gB classes (fun c => run (.row [2, 1, 1, 1, 1]) .nil c) = true := by kernel_rfl
theorem t15_12 : gB classes (fun c => run (.row [2, 1, 1, 1, 1]) (.row [2, 1]) c) = true := by kernel_rfl
theorem t15_24 : gB classes (fun c => run (.row [2, 1, 1, 1, 1]) (.row [3, 2]) c) = true := by kernel_rfl
theorem t16_2 : gB classes (fun c => run (.row [2, 2]) .no c) = true := by kernel_rfl
theorem t16_14 : gB classes (fun c => run (.row [2, 2]) (.row [2, 1, 1, 1]) c) = true := by kernel_rfl
theorem t16_26 : gB classes (fun c => run (.row [2, 2]) (.row [3, 3]) c) = true := by kernel_rfl
theorem t17_4 : gB classes (fun c => run (.row [2, 2, 1]) (.row []) c) = true := by kernel_rfl
theorem t17_16 : gB classes (fun c => run (.row [2, 2, 1]) (.row [2, 2]) c) = true := by kernel_rfl
theorem t17_28 : gB classes (fun c => run (.row [2, 2, 1]) (.row [4, 1]) c) = true := by kernel_rfl
theorem t18_6 : gB classes (fun c => run (.row [2, 2, 1, 1]) (.row [1, 1]) c) = true := by kernel_rfl
theorem t18_18 : gB classes (fun c => run (.row [2, 2, 1, 1]) (.row [2, 2, 1, 1]) c) = true := by kernel_rfl
theorem t18_30 : gB classes (fun c => run (.row [2, 2, 1, 1]) (.row [4, 2]) c) = true := by kernel_rfl
theorem t19_8 : gB classes (fun c => run (.row [2, 2, 2]) (.row [1, 1, 1, 1]) c) = true := by kernel_rfl
theorem t19_20 : gB classes (fun c => run (.row [2, 2, 2]) (.row [3]) c) = true := by kernel_rfl
theorem t19_32 : gB classes (fun c => run (.row [2, 2, 2]) (.row [5, 1]) c) = true := by kernel_rfl
theorem t20_10 : gB classes (fun c => run (.row [3]) (.row [1, 1, 1, 1, 1, 1]) c) = true := by kernel_rfl
theorem t20_22 : gB classes (fun c => run (.row [3]) (.row [3, 1, 1]) c) = true := by kernel_rfl
theorem t21_0 : gB classes (fun c => run (.row [3, 1]) .nil c) = true := by kernel_rfl
theorem t21_12 : gB classes (fun c => run (.row [3, 1]) (.row [2, 1]) c) = true := by kernel_rfl
theorem t21_24 : gB classes (fun c => run (.row [3, 1]) (.row [3, 2]) c) = true := by kernel_rfl
theorem t22_2 : gB classes (fun c => run (.row [3, 1, 1]) .no c) = true := by kernel_rfl
theorem t22_14 : gB classes (fun c => run (.row [3, 1, 1]) (.row [2, 1, 1, 1]) c) = true := by kernel_rfl
theorem t22_26 : gB classes (fun c => run (.row [3, 1, 1]) (.row [3, 3]) c) = true := by kernel_rfl
theorem t23_4 : gB classes (fun c => run (.row [3, 1, 1, 1]) (.row []) c) = true := by kernel_rfl
theorem t23_16 : gB classes (fun c => run (.row [3, 1, 1, 1]) (.row [2, 2]) c) = true := by kernel_rfl
theorem t23_28 : gB classes (fun c => run (.row [3, 1, 1, 1]) (.row [4, 1]) c) = true := by kernel_rfl
theorem t24_6 : gB classes (fun c => run (.row [3, 2]) (.row [1, 1]) c) = true := by kernel_rfl
theorem t24_18 : gB classes (fun c => run (.row [3, 2]) (.row [2, 2, 1, 1]) c) = true := by kernel_rfl
theorem t24_30 : gB classes (fun c => run (.row [3, 2]) (.row [4, 2]) c) = true := by kernel_rfl
theorem t25_8 : gB classes (fun c => run (.row [3, 2, 1]) (.row [1, 1, 1, 1]) c) = true := by kernel_rfl
theorem t25_20 : gB classes (fun c => run (.row [3, 2, 1]) (.row [3]) c) = true := by kernel_rfl
theorem t25_32 : gB classes (fun c => run (.row [3, 2, 1]) (.row [5, 1]) c) = true := by kernel_rfl
theorem t26_10 : gB classes (fun c => run (.row [3, 3]) (.row [1, 1, 1, 1, 1, 1]) c) = true := by kernel_rfl
theorem t26_22 : gB classes (fun c => run (.row [3, 3]) (.row [3, 1, 1]) c) = true := by kernel_rfl
theorem t27_0 : gB classes (fun c => run (.row [4]) .nil c) = true := by kernel_rfl
theorem t27_12 : gB classes (fun c => run (.row [4]) (.row [2, 1]) c) = true := by kernel_rfl
theorem t27_24 : gB classes (fun c => run (.row [4]) (.row [3, 2]) c) = true := by kernel_rfl
theorem t28_2 : gB classes (fun c => run (.row [4, 1]) .no c) = true := by kernel_rfl
theorem t28_14 : gB classes (fun c => run (.row [4, 1]) (.row [2, 1, 1, 1]) c) = true := by kernel_rfl
theorem t28_26 : gB classes (fun c => run (.row [4, 1]) (.row [3, 3]) c) = true := by kernel_rfl
theorem t29_4 : gB classes (fun c => run (.row [4, 1, 1]) (.row []) c) = true := by kernel_rfl
theorem t29_16 : gB classes (fun c => run (.row [4, 1, 1]) (.row [2, 2]) c) = true := by kernel_rfl
theorem t29_28 : gB classes (fun c => run (.row [4, 1, 1]) (.row [4, 1]) c) = true := by kernel_rfl
theorem t30_6 : gB classes (fun c => run (.row [4, 2]) (.row [1, 1]) c) = true := by kernel_rfl
theorem t30_18 : gB classes (fun c => run (.row [4, 2]) (.row [2, 2, 1, 1]) c) = true := by kernel_rfl
theorem t30_30 : gB classes (fun c => run (.row [4, 2]) (.row [4, 2]) c) = true := by kernel_rfl
theorem t31_8 : gB classes (fun c => run (.row [5]) (.row [1, 1, 1, 1]) c) = true := by kernel_rfl
theorem t31_20 : gB classes (fun c => run (.row [5]) (.row [3]) c) = true := by kernel_rfl
theorem t31_32 : gB classes (fun c => run (.row [5]) (.row [5, 1]) c) = true := by kernel_rfl
theorem t32_10 : gB classes (fun c => run (.row [5, 1]) (.row [1, 1, 1, 1, 1, 1]) c) = true := by kernel_rfl
theorem t32_22 : gB classes (fun c => run (.row [5, 1]) (.row [3, 1, 1]) c) = true := by kernel_rfl
theorem t33_0 : gB classes (fun c => run (.row [6]) .nil c) = true := by kernel_rfl
theorem t33_12 : gB classes (fun c => run (.row [6]) (.row [2, 1]) c) = true := by kernel_rfl
theorem t33_24 : gB classes (fun c => run (.row [6]) (.row [3, 2]) c) = true := by kernel_rfl
end Go.Proofs.Ytnglbchhlpbgkac.fnExactProductNumberRuns
