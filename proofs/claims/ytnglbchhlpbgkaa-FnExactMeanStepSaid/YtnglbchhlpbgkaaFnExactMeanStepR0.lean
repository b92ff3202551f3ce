/- Runs of the program at a seat. -/
import Derived.Test.YtnglbchhlpbgkaaFnExactMeanStepP
namespace Go.Proofs.Ytnglbchhlpbgkaa.fnExactMeanStepRuns
open Go Go.Eng
set_option linter.unusedVariables false
set_option linter.unusedSectionVars false
set_option linter.unusedSimpArgs false
set_option maxRecDepth 100000
theorem t0_0 : gB (iclasses 6) (fun c => run .nil .neg c) = true := by kernel_rfl
theorem t0_3 : gB (iclasses 6) (fun c => run .nil (.is 1) c) = true := by kernel_rfl
theorem t0_6 : gB (iclasses 6) (fun c => run .nil (.is 4) c) = true := by kernel_rfl
theorem t1_0 : gB (iclasses 6) (fun c => run .zero .neg c) = true := by kernel_rfl
theorem t1_3 : gB (iclasses 6) (fun c => run .zero (.is 1) c) = true := by kernel_rfl
theorem t1_6 : gB (iclasses 6) (fun c => run .zero (.is 4) c) = true := by kernel_rfl
theorem t2_0 : gB (iclasses 6) (fun c => run .no .neg c) = true := by kernel_rfl
theorem t2_3 : gB (iclasses 6) (fun c => run .no (.is 1) c) = true := by kernel_rfl
theorem t2_6 : gB (iclasses 6) (fun c => run .no (.is 4) c) = true := by kernel_rfl
theorem t3_0 : gB (iclasses 6) (fun c => run .long .neg c) = true := by kernel_rfl
theorem t3_3 : gB (iclasses 6) (fun c => run .long (.is 1) c) = true := by kernel_rfl
theorem t3_6 : gB (iclasses 6) (fun c => run .long (.is 4) c) = true := by kernel_rfl
theorem t4_0 : gB (iclasses 6) (fun c => run (.row []) .neg c) = true := by kernel_rfl
theorem t4_3 : gB (iclasses 6) (fun c => run (.row []) (.is 1) c) = true := by kernel_rfl
theorem t4_6 : gB (iclasses 6) (fun c => run (.row []) (.is 4) c) = true := by kernel_rfl
theorem t5_0 : gB (iclasses 6) (fun c => run (.row [1]) .neg c) = true := by kernel_rfl
theorem t5_3 : gB (iclasses 6) (fun c => run (.row [1]) (.is 1) c) = true := by kernel_rfl
theorem t5_6 : gB (iclasses 6) (fun c => run (.row [1]) (.is 4) c) = true := by kernel_rfl
theorem t6_0 : gB (iclasses 6) (fun c => run (.row [1, 1]) .neg c) = true := by kernel_rfl
theorem t6_3 : gB (iclasses 6) (fun c => run (.row [1, 1]) (.is 1) c) = true := by kernel_rfl
theorem t6_6 : gB (iclasses 6) (fun c => run (.row [1, 1]) (.is 4) c) = true := by kernel_rfl
theorem t7_0 : gB (iclasses 6) (fun c => run (.row [1, 1, 1]) .neg c) = true := by kernel_rfl
theorem t7_3 : gB (iclasses 6) (fun c => run (.row [1, 1, 1]) (.is 1) c) = true := by kernel_rfl
theorem t7_6 : gB (iclasses 6) (fun c => run (.row [1, 1, 1]) (.is 4) c) = true := by kernel_rfl
theorem t8_0 : gB (iclasses 6) (fun c => run (.row [1, 1, 1, 1]) .neg c) = true := by kernel_rfl
theorem t8_3 : gB (iclasses 6) (fun c => run (.row [1, 1, 1, 1]) (.is 1) c) = true := by kernel_rfl
theorem t8_6 : gB (iclasses 6) (fun c => run (.row [1, 1, 1, 1]) (.is 4) c) = true := by kernel_rfl
theorem t9_0 : gB (iclasses 6) (fun c => run (.row [1, 1, 1, 1, 1]) .neg c) = true := by kernel_rfl
theorem t9_3 : gB (iclasses 6) (fun c => run (.row [1, 1, 1, 1, 1]) (.is 1) c) = true := by kernel_rfl
theorem t9_6 : gB (iclasses 6) (fun c => run (.row [1, 1, 1, 1, 1]) (.is 4) c) = true := by kernel_rfl
theorem t10_0 : gB (iclasses 6) (fun c => run (.row [1, 1, 1, 1, 1, 1]) .neg c) = true := by kernel_rfl
theorem t10_3 : gB (iclasses 6) (fun c => run (.row [1, 1, 1, 1, 1, 1]) (.is 1) c) = true := by kernel_rfl
theorem t10_6 : gB (iclasses 6) (fun c => run (.row [1, 1, 1, 1, 1, 1]) (.is 4) c) = true := by kernel_rfl
theorem t11_0 : gB (iclasses 6) (fun c => run (.row [2]) .neg c) = true := by kernel_rfl
theorem t11_3 : gB (iclasses 6) (fun c => run (.row [2]) (.is 1) c) = true := by kernel_rfl
theorem t11_6 : gB (iclasses 6) (fun c => run (.row [2]) (.is 4) c) = true := by kernel_rfl
theorem t12_0 : gB (iclasses 6) (fun c => run (.row [2, 1]) .neg c) = true := by kernel_rfl
theorem t12_3 : gB (iclasses 6) (fun c => run (.row [2, 1]) (.is 1) c) = true := by kernel_rfl
theorem t12_6 : gB (iclasses 6) (fun c => run (.row [2, 1]) (.is 4) c) = true := by kernel_rfl
theorem t13_0 : gB (iclasses 6) (fun c => run (.row [2, 1, 1]) .neg c) = true := by kernel_rfl
theorem t13_3 : gB (iclasses 6) (fun c => run (.row [2, 1, 1]) (.is 1) c) = true := by kernel_rfl
theorem t13_6 : gB (iclasses 6) (fun c => run (.row [2, 1, 1]) (.is 4) c) = true := by kernel_rfl
theorem t14_0 : gB (iclasses 6) (fun c => run (.row [2, 1, 1, 1]) .neg c) = true := by kernel_rfl
theorem t14_3 : gB (iclasses 6) (fun c => run (.row [2, 1, 1, 1]) (.is 1) c) = true := by kernel_rfl
theorem t14_6 : gB (iclasses 6) (fun c => run (.row [2, 1, 1, 1]) (.is 4) c) = true := by kernel_rfl
theorem t15_0 : gB (iclasses 6) (fun c => run (.row [2, 1, 1, 1, 1]) .neg c) = true := by kernel_rfl
theorem t15_3 : gB (iclasses 6) (fun c => run (.row [2, 1, 1, 1, 1]) (.is 1) c) = true := by kernel_rfl
theorem t15_6 : gB (iclasses 6) (fun c => run (.row [2, 1, 1, 1, 1]) (.is 4) c) = true := by kernel_rfl
theorem t16_0 : gB (iclasses 6) (fun c => run (.row [2, 2]) .neg c) = true := by kernel_rfl
theorem t16_3 : gB (iclasses 6) (fun c => run (.row [2, 2]) (.is 1) c) = true := by kernel_rfl
theorem t16_6 : gB (iclasses 6) (fun c => run (.row [2, 2]) (.is 4) c) = true := by kernel_rfl
theorem t17_0 : gB (iclasses 6) (fun c => run (.row [2, 2, 1]) .neg c) = true := by kernel_rfl
theorem t17_3 : gB (iclasses 6) (fun c => run (.row [2, 2, 1]) (.is 1) c) = true := by kernel_rfl
theorem t17_6 : gB (iclasses 6) (fun c => run (.row [2, 2, 1]) (.is 4) c) = true := by kernel_rfl
theorem t18_0 : gB (iclasses 6) (fun c => run (.row [2, 2, 1, 1]) .neg c) = true := by kernel_rfl
theorem t18_3 : gB (iclasses 6) (fun c => run (.row [2, 2, 1, 1]) (.is 1) c) = true := by kernel_rfl
theorem t18_6 : gB (iclasses 6) (fun c => run (.row [2, 2, 1, 1]) (.is 4) c) = true := by kernel_rfl
theorem t19_0 : gB (iclasses 6) (fun c => run (.row [2, 2, 2]) .neg c) = true := by kernel_rfl
theorem t19_3 : gB (iclasses 6) (fun c => run (.row [2, 2, 2]) (.is 1) c) = true := by kernel_rfl
theorem t19_6 : gB (iclasses 6) (fun c => run (.row [2, 2, 2]) (.is 4) c) = true := by kernel_rfl
theorem t20_0 : gB (iclasses 6) (fun c => run (.row [3]) .neg c) = true := by kernel_rfl
theorem t20_3 : gB (iclasses 6) (fun c => run (.row [3]) (.is 1) c) = true := by kernel_rfl
theorem t20_6 : gB (iclasses 6) (fun c => run (.row [3]) (.is 4) c) = true := by kernel_rfl
theorem t21_0 : gB (iclasses 6) (fun c => run (.row [3, 1]) .neg c) = true := by kernel_rfl
theorem t21_3 : gB (iclasses 6) (fun c => run (.row [3, 1]) (.is 1) c) = true := by kernel_rfl
theorem t21_6 : gB (iclasses 6) (fun c => run (.row [3, 1]) (.is 4) c) = true := by kernel_rfl
theorem t22_0 : gB (iclasses 6) (fun c => run (.row [3, 1, 1]) .neg c) = true := by kernel_rfl
theorem t22_3 : gB (iclasses 6) (fun c => run (.row [3, 1, 1]) (.is 1) c) = true := by kernel_rfl
theorem t22_6 : gB (iclasses 6) (fun c => run (.row [3, 1, 1]) (.is 4) c) = true := by kernel_rfl
theorem t23_0 : gB (iclasses 6) (fun c => run (.row [3, 1, 1, 1]) .neg c) = true := by kernel_rfl
theorem t23_3 : gB (iclasses 6) (fun c => run (.row [3, 1, 1, 1]) (.is 1) c) = true := by kernel_rfl
theorem t23_6 : gB (iclasses 6) (fun c => run (.row [3, 1, 1, 1]) (.is 4) c) = true := by kernel_rfl
theorem t24_0 : gB (iclasses 6) (fun c => run (.row [3, 2]) .neg c) = true := by kernel_rfl
theorem t24_3 : gB (iclasses 6) (fun c => run (.row [3, 2]) (.is 1) c) = true := by kernel_rfl
theorem t24_6 : gB (iclasses 6) (fun c => run (.row [3, 2]) (.is 4) c) = true := by kernel_rfl
theorem t25_0 : gB (iclasses 6) (fun c => run (.row [3, 2, 1]) .neg c) = true := by kernel_rfl
theorem t25_3 : gB (iclasses 6) (fun c => run (.row [3, 2, 1]) (.is 1) c) = true := by kernel_rfl
theorem t25_6 : gB (iclasses 6) (fun c => run (.row [3, 2, 1]) (.is 4) c) = true := by kernel_rfl
theorem t26_0 : gB (iclasses 6) (fun c => run (.row [3, 3]) .neg c) = true := by kernel_rfl
theorem t26_3 : gB (iclasses 6) (fun c => run (.row [3, 3]) (.is 1) c) = true := by kernel_rfl
theorem t26_6 : gB (iclasses 6) (fun c => run (.row [3, 3]) (.is 4) c) = true := by kernel_rfl
theorem t27_0 : gB (iclasses 6) (fun c => run (.row [4]) .neg c) = true := by kernel_rfl
theorem t27_3 : gB (iclasses 6) (fun c => run (.row [4]) (.is 1) c) = true := by kernel_rfl
theorem t27_6 : gB (iclasses 6) (fun c => run (.row [4]) (.is 4) c) = true := by kernel_rfl
theorem t28_0 : gB (iclasses 6) (fun c => run (.row [4, 1]) .neg c) = true := by kernel_rfl
theorem t28_3 : gB (iclasses 6) (fun c => run (.row [4, 1]) (.is 1) c) = true := by kernel_rfl
theorem t28_6 : gB (iclasses 6) (fun c => run (.row [4, 1]) (.is 4) c) = true := by kernel_rfl
theorem t29_0 : gB (iclasses 6) (fun c => run (.row [4, 1, 1]) .neg c) = true := by kernel_rfl
theorem t29_3 : gB (iclasses 6) (fun c => run (.row [4, 1, 1]) (.is 1) c) = true := by kernel_rfl
theorem t29_6 : gB (iclasses 6) (fun c => run (.row [4, 1, 1]) (.is 4) c) = true := by kernel_rfl
theorem t30_0 : gB (iclasses 6) (fun c => run (.row [4, 2]) .neg c) = true := by kernel_rfl
theorem t30_3 : gB (iclasses 6) (fun c => run (.row [4, 2]) (.is 1) c) = true := by kernel_rfl
theorem t30_6 : gB (iclasses 6) (fun c => run (.row [4, 2]) (.is 4) c) = true := by kernel_rfl
theorem t31_0 : gB (iclasses 6) (fun c => run (.row [5]) .neg c) = true := by kernel_rfl
theorem t31_3 : gB (iclasses 6) (fun c => run (.row [5]) (.is 1) c) = true := by kernel_rfl
theorem t31_6 : gB (iclasses 6) (fun c => run (.row [5]) (.is 4) c) = true := by kernel_rfl
theorem t32_0 : gB (iclasses 6) (fun c => run (.row [5, 1]) .neg c) = true := by kernel_rfl
theorem t32_3 : gB (iclasses 6) (fun c => run (.row [5, 1]) (.is 1) c) = true := by kernel_rfl
theorem t32_6 : gB (iclasses 6) (fun c => run (.row [5, 1]) (.is 4) c) = true := by kernel_rfl
theorem t33_0 : gB (iclasses 6) (fun c => run (.row [6]) .neg c) = true := by kernel_rfl
theorem t33_3 : gB (iclasses 6) (fun c => run (.row [6]) (.is 1) c) = true := by kernel_rfl
theorem t33_6 : gB (iclasses 6) (fun c => run (.row [6]) (.is 4) c) = true := by kernel_rfl
end Go.Proofs.Ytnglbchhlpbgkaa.fnExactMeanStepRuns
