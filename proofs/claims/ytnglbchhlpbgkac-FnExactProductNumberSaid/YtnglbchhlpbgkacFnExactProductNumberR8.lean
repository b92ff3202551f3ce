/- Runs of the program at a seat. -/
import Derived.Test.YtnglbchhlpbgkacFnExactProductNumberP
namespace Go.Proofs.Ytnglbchhlpbgkac.fnExactProductNumberRuns
open Go Go.Eng
set_option linter.unusedVariables false
set_option linter.unusedSectionVars false
set_option linter.unusedSimpArgs false
set_option maxRecDepth 100000
theorem t0_8 : gB classes (fun c => run .nil (.row [1, 1, 1, 1]) c) = true := by kernel_rfl
theorem t0_20 : gB classes (fun c => run .nil (.row [3]) c) = true := by kernel_rfl
theorem t0_32 : gB classes (fun c => run .nil (.row [5, 1]) c) = true := by kernel_rfl
theorem t1_10 : gB classes (fun c => run .zero (.row [1, 1, 1, 1, 1, 1]) c) = true := by kernel_rfl
theorem t1_22 : gB classes (fun c => run .zero (.row [3, 1, 1]) c) = true := by kernel_rfl
theorem t2_0 : gB classes (fun c => run .no .nil c) = true := by kernel_rfl
theorem t2_12 : gB classes (fun c => run .no (.row [2, 1]) c) = true := by kernel_rfl
theorem t2_24 : gB classes (fun c => run .no (.row [3, 2]) c) = true := by kernel_rfl
theorem t3_2 : gB classes (fun c => run .long .no c) = true := by kernel_rfl
theorem t3_14 : gB classes (fun c => run .long (.row [2, 1, 1, 1]) c) = true := by kernel_rfl
theorem t3_26 : gB classes (fun c => run .long (.row [3, 3]) c) = true := by kernel_rfl
theorem t4_4 : gB classes (fun c => run (.row []) (.row []) c) = true := by kernel_rfl
theorem t4_16 : gB classes (fun c => run (.row []) (.row [2, 2]) c) = true := by kernel_rfl
theorem t4_28 : gB classes (fun c => run (.row []) (.row [4, 1]) c) = true := by kernel_rfl
theorem t5_6 : gB classes (fun c => run (.row [1]) (.row [1, 1]) c) = true := by kernel_rfl
theorem t5_18 : gB classes (fun c => run (.row [1]) (.row [2, 2, 1, 1]) c) = true := by kernel_rfl
theorem t5_30 : gB classes (fun c => run (.row [1]) (.row [4, 2]) c) = true := by kernel_rfl
theorem t6_8 : gB classes (fun c => run (.row [1, 1]) (.row [1, 1, 1, 1]) c) = true := by kernel_rfl
theorem t6_20 : gB classes (fun c => run (.row [1, 1]) (.row [3]) c) = true := by kernel_rfl
theorem t6_32 : gB classes (fun c => run (.row [1, 1]) (.row [5, 1]) c) = true := by kernel_rfl
theorem t7_10 : gB classes (fun c => run (.row [1, 1, 1]) (.row [1, 1, 1, 1, 1, 1]) c) = true := by kernel_rfl
theorem t7_22 : gB classes (fun c => run (.row [1, 1, 1]) (.row [3, 1, 1]) c) = true := by kernel_rfl
theorem t8_0 : gB classes (fun c => run (.row [1, 1, 1, 1]) .nil c) = true := by kernel_rfl
theorem t8_12 : gB classes (fun c => run (.row [1, 1, 1, 1]) (.row [2, 1]) c) = true := by kernel_rfl
theorem t8_24 : gB classes (fun c => run (.row [1, 1, 1, 1]) (.row [3, 2]) c) = true := by kernel_rfl
theorem t9_2 : gB classes (fun c => run (.row [1, 1, 1, 1, 1]) .no c) = true := by kernel_rfl
theorem t9_14 : gB classes (fun c => run (.row [1, 1, 1, 1, 1]) (.row [2, 1, 1, 1]) c) = true := by kernel_rfl
theorem t9_26 : gB classes (fun c => run (.row [1, 1, 1, 1, 1]) (.row [3, 3]) c) = true := by kernel_rfl
theorem t10_4 : gB classes (fun c => run (.row [1, 1, 1, 1, 1, 1]) (.row []) c) = true := by kernel_rfl
theorem t10_16 : gB classes (fun c => run (.row [1, 1, 1, 1, 1, 1]) (.row [2, 2]) c) = true := by kernel_rfl
theorem t10_28 : gB classes (fun c => run (.row [1, 1, 1, 1, 1, 1]) (.row [4, 1]) c) = true := by kernel_rfl
theorem t11_6 : gB classes (fun c => run (.row [2]) (.row [1, 1]) c) = true := by kernel_rfl
theorem t11_18 : gB classes (fun c => run (.row [2]) (.row [2, 2, 1, 1]) c) = true := by kernel_rfl
theorem t11_30 : gB classes (fun c => run (.row [2]) (.row [4, 2]) c) = true := by kernel_rfl
theorem t12_8 : gB classes (fun c => run (.row [2, 1]) (.row [1, 1, 1, 1]) c) = true := by kernel_rfl
theorem t12_20 : gB classes (fun c => run (.row [2, 1]) (.row [3]) c) = true := by kernel_rfl
theorem t12_32 : gB classes (fun c => run (.row [2, 1]) (.row [5, 1]) c) = true := by kernel_rfl
theorem t13_10 : gB classes (fun c => run (.row [2, 1, 1]) (.row [1, 1, 1, 1, 1, 1]) c) = true := by kernel_rfl
theorem t13_22 : gB classes (fun c => run (.row [2, 1, 1]) (.row [3, 1, 1]) c) = true := by kernel_rfl
theorem t14_0 : gB classes (fun c => run (.row [2, 1, 1, 1]) .nil c) = true := by kernel_rfl
theorem t14_12 : gB classes (fun c => run (.row [2, 1, 1, 1]) (.row [2, 1]) c) = true := by kernel_rfl
theorem t14_24 : gB classes (fun c => run (.row [2, 1, 1, 1]) (.row [3, 2]) c) = true := by kernel_rfl
theorem t15_2 : gB classes (fun c => run (.row [2, 1, 1, 1, 1]) .no c) = true := by kernel_rfl
theorem t15_14 : gB classes (fun c => run (.row [2, 1, 1, 1, 1]) (.row [2, 1, 1, 1]) c) = true := by kernel_rfl
theorem t15_26 : gB classes (fun c => run (.row [2, 1, 1, 1, 1]) (.row [3, 3]) c) = true := by kernel_rfl
theorem t16_4 : gB classes (fun c => run (.row [2, 2]) (.row []) c) = true := by kernel_rfl
theorem t16_16 : gB classes (fun c => run (.row [2, 2]) (.row [2, 2]) c) = true := by kernel_rfl
theorem t16_28 : gB classes (fun c => run (.row [2, 2]) (.row [4, 1]) c) = true := by kernel_rfl
theorem t17_6 : gB classes (fun c => run (.row [2, 2, 1]) (.row [1, 1]) c) = true := by kernel_rfl
theorem t17_18 : gB classes (fun c => run (.row [2, 2, 1]) (.row [2, 2, 1, 1]) c) = true := by kernel_rfl
theorem t17_30 : gB classes (fun c => run (.row [2, 2, 1]) (.row [4, 2]) c) = true := by kernel_rfl
theorem t18_8 : gB classes (fun c => run (.row [2, 2, 1, 1]) (.row [1, 1, 1, 1]) c) = true := by kernel_rfl
theorem t18_20 : gB classes (fun c => run (.row [2, 2, 1, 1]) (.row [3]) c) = true := by kernel_rfl
theorem t18_32 : gB classes (fun c => run (.row [2, 2, 1, 1]) (.row [5, 1]) c) = true := by kernel_rfl
theorem t19_10 : gB classes (fun c => run (.row [2, 2, 2]) (.row [1, 1, 1, 1, 1, 1]) c) = true := by kernel_rfl
theorem t19_22 : gB classes (fun c => run (.row [2, 2, 2]) (.row [3, 1, 1]) c) = true := by kernel_rfl
theorem t20_0 : gB classes (fun c => run (.row [3]) .nil c) = true := by kernel_rfl
theorem t20_12 : gB classes (fun c => run (.row [3]) (.row [2, 1]) c) = true := by kernel_rfl
theorem t20_24 : gB classes (fun c => run (.row [3]) (.row [3, 2]) c) = true := by kernel_rfl
theorem t21_2 : gB classes (fun c => run (.row [3, 1]) .no c) = true := by kernel_rfl
theorem t21_14 : gB classes (fun c => run (.row [3, 1]) (.row [2, 1, 1, 1]) c) = true := by kernel_rfl
theorem t21_26 : gB classes (fun c => run (.row [3, 1]) (.row [3, 3]) c) = true := by kernel_rfl
theorem t22_4 : gB classes (fun c => run (.row [3, 1, 1]) (.row []) c) = true := by kernel_rfl
theorem t22_16 : gB classes (fun c => run (.row [3, 1, 1]) (.row [2, 2]) c) = true := by kernel_rfl
theorem t22_28 : gB classes (fun c => run (.row [3, 1, 1]) (.row [4, 1]) c) = true := by kernel_rfl
theorem t23_6 : gB classes (fun c => run (.row [3, 1, 1, 1]) (.row [1, 1]) c) = true := by kernel_rfl
theorem t23_18 : gB classes (fun c => run (.row [3, 1, 1, 1]) (.row [2, 2, 1, 1]) c) = true := by kernel_rfl
theorem t23_30 : gB classes (fun c => run (.row [3, 1, 1, 1]) (.row [4, 2]) c) = true := by kernel_rfl
theorem t24_8 : gB classes (fun c => run (.row [3, 2]) (.row [1, 1, 1, 1]) c) = true := by kernel_rfl
theorem t24_20 : gB classes (fun c => run (.row [3, 2]) (.row [3]) c) = true := by kernel_rfl
theorem t24_32 : gB classes (fun c => run (.row [3, 2]) (.row [5, 1]) c) = true := by kernel_rfl
theorem t25_10 : gB classes (fun c => run (.row [3, 2, 1]) (.row [1, 1, 1, 1, 1, 1]) c) = true := by kernel_rfl
theorem t25_22 : gB classes (fun c => run (.row [3, 2, 1]) (.row [3, 1, 1]) c) = true := by kernel_rfl
theorem t26_0 : gB classes (fun c => run (.row [3, 3]) .nil c) = true := by kernel_rfl
theorem t26_12 : gB classes (fun c => run (.row [3, 3]) (.row [2, 1]) c) = true := by kernel_rfl
theorem t26_24 : gB classes (fun c => run (.row [3, 3]) (.row [3, 2]) c) = true := by kernel_rfl
theorem t27_2 : gB classes (fun c => run (.row [4]) .no c) = true := by kernel_rfl
theorem t27_14 : gB classes (fun c => run (.row [4]) (.row [2, 1, 1, 1]) c) = true := by kernel_rfl
theorem t27_26 : gB classes (fun c => run (.row [4]) (.row [3, 3]) c) = true := by kernel_rfl
theorem t28_4 : gB classes (fun c => run (.row [4, 1]) (.row []) c) = true := by kernel_rfl
theorem t28_16 : gB classes (fun c => run (.row [4, 1]) (.row [2, 2]) c) = true := by kernel_rfl
theorem t28_28 : gB classes (fun c => run (.row [4, 1]) (.row [4, 1]) c) = true := by kernel_rfl
theorem t29_6 : gB classes (fun c => run (.row [4, 1, 1]) (.row [1, 1]) c) = true := by kernel_rfl
theorem t29_18 : gB classes (fun c => run (.row [4, 1, 1]) (.row [2, 2, 1, 1]) c) = true := by kernel_rfl
theorem t29_30 : gB classes (fun c => run (.row [4, 1, 1]) (.row [4, 2]) c) = true := by kernel_rfl
theorem t30_8 : gB classes (fun c => run (.row [4, 2]) (.row [1, 1, 1, 1]) c) = true := by kernel_rfl
theorem t30_20 : gB classes (fun c => run (.row [4, 2]) (.row [3]) c) = true := by kernel_rfl
theorem t30_32 : gB classes (fun c => run (.row [4, 2]) (.row [5, 1]) c) = true := by kernel_rfl
theorem t31_10 : gB classes (fun c => run (.row [5]) (.row [1, 1, 1, 1, 1, 1]) c) = true := by kernel_rfl
theorem t31_22 : gB classes (fun c => run (.row [5]) (.row [3, 1, 1]) c) = true := by kernel_rfl
theorem t32_0 : gB classes (fun c => run (.row [5, 1]) .nil c) = true := by kernel_rfl
theorem t32_12 : gB classes (fun c => run (.row [5, 1]) (.row [2, 1]) c) = true := by kernel_rfl
theorem t32_24 : gB classes (fun c => run (.row [5, 1]) (.row [3, 2]) c) = true := by kernel_rfl
theorem t33_2 : gB classes (fun c => run (.row [6]) .no c) = true := by kernel_rfl
theorem t33_14 : gB classes (fun c => run (.row [6]) (.row [2, 1, 1, 1]) c) = true := by kernel_rfl
theorem t33_26 : gB classes (fun c => run (.row [6]) (.row [3, 3]) c) = true := by kernel_rfl
end Go.Proofs.Ytnglbchhlpbgkac.fnExactProductNumberRuns
