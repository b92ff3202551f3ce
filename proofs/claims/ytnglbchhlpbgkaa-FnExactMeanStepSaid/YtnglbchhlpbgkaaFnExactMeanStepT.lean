/- Runs of the program at a seat. -/
import Derived.Test.YtnglbchhlpbgkaaFnExactMeanStepR0
import Derived.Test.YtnglbchhlpbgkaaFnExactMeanStepR1
import Derived.Test.YtnglbchhlpbgkaaFnExactMeanStepR2
namespace Go.Proofs.Ytnglbchhlpbgkaa.fnExactMeanStepRuns
open Go Go.Eng
set_option linter.unusedVariables false
set_option linter.unusedSectionVars false
set_option linter.unusedSimpArgs false
set_option maxRecDepth 100000
theorem t0 : ∀ c1 ∈ (iclasses 6), ∀ c2 ∈ (iclasses 6), run .nil c1 c2 = true := by
  rw [eq_iclasses_6]
  exact cm (gB_mem t0_0) (cm (gB_mem t0_1) (cm (gB_mem t0_2) (cm (gB_mem t0_3) (cm (gB_mem t0_4) (cm (gB_mem t0_5) (cm (gB_mem t0_6) (cm (gB_mem t0_7) (cm (gB_mem t0_8) (nm)))))))))
theorem t1 : ∀ c1 ∈ (iclasses 6), ∀ c2 ∈ (iclasses 6), run .zero c1 c2 = true := by
  rw [eq_iclasses_6]
  exact cm (gB_mem t1_0) (cm (gB_mem t1_1) (cm (gB_mem t1_2) (cm (gB_mem t1_3) (cm (gB_mem t1_4) (cm (gB_mem t1_5) (cm (gB_mem t1_6) (cm (gB_mem t1_7) (cm (gB_mem t1_8) (nm)))))))))
theorem t2 : ∀ c1 ∈ (iclasses 6), ∀ c2 ∈ (iclasses 6), run .no c1 c2 = true := by
  rw [eq_iclasses_6]
  exact cm (gB_mem t2_0) (cm (gB_mem t2_1) (cm (gB_mem t2_2) (cm (gB_mem t2_3) (cm (gB_mem t2_4) (cm (gB_mem t2_5) (cm (gB_mem t2_6) (cm (gB_mem t2_7) (cm (gB_mem t2_8) (nm)))))))))
theorem t3 : ∀ c1 ∈ (iclasses 6), ∀ c2 ∈ (iclasses 6), run .long c1 c2 = true := by
  rw [eq_iclasses_6]
  exact cm (gB_mem t3_0) (cm (gB_mem t3_1) (cm (gB_mem t3_2) (cm (gB_mem t3_3) (cm (gB_mem t3_4) (cm (gB_mem t3_5) (cm (gB_mem t3_6) (cm (gB_mem t3_7) (cm (gB_mem t3_8) (nm)))))))))
theorem t4 : ∀ c1 ∈ (iclasses 6), ∀ c2 ∈ (iclasses 6), run (.row []) c1 c2 = true := by
  rw [eq_iclasses_6]
  exact cm (gB_mem t4_0) (cm (gB_mem t4_1) (cm (gB_mem t4_2) (cm (gB_mem t4_3) (cm (gB_mem t4_4) (cm (gB_mem t4_5) (cm (gB_mem t4_6) (cm (gB_mem t4_7) (cm (gB_mem t4_8) (nm)))))))))
theorem t5 : ∀ c1 ∈ (iclasses 6), ∀ c2 ∈ (iclasses 6), run (.row [1]) c1 c2 = true := by
  rw [eq_iclasses_6]
  exact cm (gB_mem t5_0) (cm (gB_mem t5_1) (cm (gB_mem t5_2) (cm (gB_mem t5_3) (cm (gB_mem t5_4) (cm (gB_mem t5_5) (cm (gB_mem t5_6) (cm (gB_mem t5_7) (cm (gB_mem t5_8) (nm)))))))))
theorem t6 : ∀ c1 ∈ (iclasses 6), ∀ c2 ∈ (iclasses 6), run (.row [1, 1]) c1 c2 = true := by
  rw [eq_iclasses_6]
  exact cm (gB_mem t6_0) (cm (gB_mem t6_1) (cm (gB_mem t6_2) (cm (gB_mem t6_3) (cm (gB_mem t6_4) (cm (gB_mem t6_5) (cm (gB_mem t6_6) (cm (gB_mem t6_7) (cm (gB_mem t6_8) (nm)))))))))
theorem t7 : ∀ c1 ∈ (iclasses 6), ∀ c2 ∈ (iclasses 6), run (.row [1, 1, 1]) c1 c2 = true := by
  rw [eq_iclasses_6]
  exact cm (gB_mem t7_0) (cm (gB_mem t7_1) (cm (gB_mem t7_2) (cm (gB_mem t7_3) (cm (gB_mem t7_4) (cm (gB_mem t7_5) (cm (gB_mem t7_6) (cm (gB_mem t7_7) (cm (gB_mem t7_8) (nm)))))))))
theorem t8 : ∀ c1 ∈ (iclasses 6), ∀ c2 ∈ (iclasses 6), run (.row [1, 1, 1, 1]) c1 c2 = true := by
  rw [eq_iclasses_6]
  exact cm (gB_mem t8_0) (cm (gB_mem t8_1) (cm (gB_mem t8_2) (cm (gB_mem t8_3) (cm (gB_mem t8_4) (cm (gB_mem t8_5) (cm (gB_mem t8_6) (cm (gB_mem t8_7) (cm (gB_mem t8_8) (nm)))))))))
theorem t9 : ∀ c1 ∈ (iclasses 6), ∀ c2 ∈ (iclasses 6), run (.row [1, 1, 1, 1, 1]) c1 c2 = true := by
  rw [eq_iclasses_6]
  exact cm (gB_mem t9_0) (cm (gB_mem t9_1) (cm (gB_mem t9_2) (cm (gB_mem t9_3) (cm (gB_mem t9_4) (cm (gB_mem t9_5) (cm (gB_mem t9_6) (cm (gB_mem t9_7) (cm (gB_mem t9_8) (nm)))))))))
theorem t10 : ∀ c1 ∈ (iclasses 6), ∀ c2 ∈ (iclasses 6), run (.row [1, 1, 1, 1, 1, 1]) c1 c2 = true := by
  rw [eq_iclasses_6]
  exact cm (gB_mem t10_0) (cm (gB_mem t10_1) (cm (gB_mem t10_2) (cm (gB_mem t10_3) (cm (gB_mem t10_4) (cm (gB_mem t10_5) (cm (gB_mem t10_6) (cm (gB_mem t10_7) (cm (gB_mem t10_8) (nm)))))))))
theorem t11 : ∀ c1 ∈ (iclasses 6), ∀ c2 ∈ (iclasses 6), run (.row [2]) c1 c2 = true := by
  rw [eq_iclasses_6]
  exact cm (gB_mem t11_0) (cm (gB_mem t11_1) (cm (gB_mem t11_2) (cm (gB_mem t11_3) (cm (gB_mem t11_4) (cm (gB_mem t11_5) (cm (gB_mem t11_6) (cm (gB_mem t11_7) (cm (gB_mem t11_8) (nm)))))))))
theorem t12 : ∀ c1 ∈ (iclasses 6), ∀ c2 ∈ (iclasses 6), run (.row [2, 1]) c1 c2 = true := by
  rw [eq_iclasses_6]
  exact cm (gB_mem t12_0) (cm (gB_mem t12_1) (cm (gB_mem t12_2) (cm (gB_mem t12_3) (cm (gB_mem t12_4) (cm (gB_mem t12_5) (cm (gB_mem t12_6) (cm (gB_mem t12_7) (cm (gB_mem t12_8) (nm)))))))))
theorem t13 : ∀ c1 ∈ (iclasses 6), ∀ c2 ∈ (iclasses 6), run (.row [2, 1, 1]) c1 c2 = true := by
  rw [eq_iclasses_6]
  exact cm (gB_mem t13_0) (cm (gB_mem t13_1) (cm (gB_mem t13_2) (cm (gB_mem t13_3) (cm (gB_mem t13_4) (cm (gB_mem t13_5) (cm (gB_mem t13_6) (cm (gB_mem t13_7) (cm (gB_mem t13_8) (nm)))))))))
theorem t14 : ∀ c1 ∈ (iclasses 6), ∀ c2 ∈ (iclasses 6), run (.row [2, 1, 1, 1]) c1 c2 = true := by
  rw [eq_iclasses_6]
  exact cm (gB_mem t14_0) (cm (gB_mem t14_1) (cm (gB_mem t14_2) (cm (gB_mem t14_3) (cm (gB_mem t14_4) (cm (gB_mem t14_5) (cm (gB_mem t14_6) (cm (gB_mem t14_7) (cm (gB_mem t14_8) (nm)))))))))
theorem t15 : ∀ c1 ∈ (iclasses 6), ∀ c2 ∈ (iclasses 6), run (.row [2, 1, 1, 1, 1]) c1 c2 = true := by
  rw [eq_iclasses_6]
  exact cm (gB_mem t15_0) (cm (gB_mem t15_1) (cm (gB_mem t15_2) (cm (gB_mem t15_3) (cm (gB_mem t15_4) (cm (gB_mem t15_5) (cm (gB_mem t15_6) (cm (gB_mem t15_7) (cm (gB_mem t15_8) (nm)))))))))
theorem t16 : ∀ c1 ∈ (iclasses 6), ∀ c2 ∈ (iclasses 6), run (.row [2, 2]) c1 c2 = true := by
  rw [eq_iclasses_6]
  exact cm (gB_mem t16_0) (cm (gB_mem t16_1) (cm (gB_mem t16_2) (cm (gB_mem t16_3) (cm (gB_mem t16_4) (cm (gB_mem t16_5) (cm (gB_mem t16_6) (cm (gB_mem t16_7) (cm (gB_mem t16_8) (nm)))))))))
theorem t17 : ∀ c1 ∈ (iclasses 6), ∀ c2 ∈ (iclasses 6), run (.row [2, 2, 1]) c1 c2 = true := by
  rw [eq_iclasses_6]
  exact cm (gB_mem t17_0) (cm (gB_mem t17_1) (cm (gB_mem t17_2) (cm (gB_mem t17_3) (cm (gB_mem t17_4) (cm (gB_mem t17_5) (cm (gB_mem t17_6) (cm (gB_mem t17_7) (cm (gB_mem t17_8) (nm)))))))))
theorem t18 : ∀ c1 ∈ (iclasses 6), ∀ c2 ∈ (iclasses 6), run (.row [2, 2, 1, 1]) c1 c2 = true := by
  rw [eq_iclasses_6]
  exact cm (gB_mem t18_0) (cm (gB_mem t18_1) (cm (gB_mem t18_2) (cm (gB_mem t18_3) (cm (gB_mem t18_4) (cm (gB_mem t18_5) (cm (gB_mem t18_6) (cm (gB_mem t18_7) (cm (gB_mem t18_8) (nm)))))))))
theorem t19 : ∀ c1 ∈ (iclasses 6), ∀ c2 ∈ (iclasses 6), run (.row [2, 2, 2]) c1 c2 = true := by
  rw [eq_iclasses_6]
  exact cm (gB_mem t19_0) (cm (gB_mem t19_1) (cm (gB_mem t19_2) (cm (gB_mem t19_3) (cm (gB_mem t19_4) (cm (gB_mem t19_5) (cm (gB_mem t19_6) (cm (gB_mem t19_7) (cm (gB_mem t19_8) (nm)))))))))
theorem t20 : ∀ c1 ∈ (iclasses 6), ∀ c2 ∈ (iclasses 6), run (.row [3]) c1 c2 = true := by
  rw [eq_iclasses_6]
  exact cm (gB_mem t20_0) (cm (gB_mem t20_1) (cm (gB_mem t20_2) (cm (gB_mem t20_3) (cm (gB_mem t20_4) (cm (gB_mem t20_5) (cm (gB_mem t20_6) (cm (gB_mem t20_7) (cm (gB_mem t20_8) (nm)))))))))
theorem t21 : ∀ c1 ∈ (iclasses 6), ∀ c2 ∈ (iclasses 6), run (.row [3, 1]) c1 c2 = true := by
  rw [eq_iclasses_6]
  exact cm (gB_mem t21_0) (cm (gB_mem t21_1) (cm (gB_mem t21_2) (cm (gB_mem t21_3) (cm (gB_mem t21_4) (cm (gB_mem t21_5) (cm (gB_mem t21_6) (cm (gB_mem t21_7) (cm (gB_mem t21_8) (nm)))))))))
theorem t22 : ∀ c1 ∈ (iclasses 6), ∀ c2 ∈ (iclasses 6), run (.row [3, 1, 1]) c1 c2 = true := by
  rw [eq_iclasses_6]
  exact cm (gB_mem t22_0) (cm (gB_mem t22_1) (cm (gB_mem t22_2) (cm (gB_mem t22_3) (cm (gB_mem t22_4) (cm (gB_mem t22_5) (cm (gB_mem t22_6) (cm (gB_mem t22_7) (cm (gB_mem t22_8) (nm)))))))))
theorem t23 : ∀ c1 ∈ (iclasses 6), ∀ c2 ∈ (iclasses 6), run (.row [3, 1, 1, 1]) c1 c2 = true := by
  rw [eq_iclasses_6]
  exact cm (gB_mem t23_0) (cm (gB_mem t23_1) (cm (gB_mem t23_2) (cm (gB_mem t23_3) (cm (gB_mem t23_4) (cm (gB_mem t23_5) (cm (gB_mem t23_6) (cm (gB_mem t23_7) (cm (gB_mem t23_8) (nm)))))))))
theorem t24 : ∀ c1 ∈ (iclasses 6), ∀ c2 ∈ (iclasses 6), run (.row [3, 2]) c1 c2 = true := by
  rw [eq_iclasses_6]
  exact cm (gB_mem t24_0) (cm (gB_mem t24_1) (cm (gB_mem t24_2) (cm (gB_mem t24_3) (cm (gB_mem t24_4) (cm (gB_mem t24_5) (cm (gB_mem t24_6) (cm (gB_mem t24_7) (cm (gB_mem t24_8) (nm)))))))))
theorem t25 : ∀ c1 ∈ (iclasses 6), ∀ c2 ∈ (iclasses 6), run (.row [3, 2, 1]) c1 c2 = true := by
  rw [eq_iclasses_6]
  exact cm (gB_mem t25_0) (cm (gB_mem t25_1) (cm (gB_mem t25_2) (cm (gB_mem t25_3) (cm (gB_mem t25_4) (cm (gB_mem t25_5) (cm (gB_mem t25_6) (cm (gB_mem t25_7) (cm (gB_mem t25_8) (nm)))))))))
theorem t26 : ∀ c1 ∈ (iclasses 6), ∀ c2 ∈ (iclasses 6), run (.row [3, 3]) c1 c2 = true := by
  rw [eq_iclasses_6]
  exact cm (gB_mem t26_0) (cm (gB_mem t26_1) (cm (gB_mem t26_2) (cm (gB_mem t26_3) (cm (gB_mem t26_4) (cm (gB_mem t26_5) (cm (gB_mem t26_6) (cm (gB_mem t26_7) (cm (gB_mem t26_8) (nm)))))))))
theorem t27 : ∀ c1 ∈ (iclasses 6), ∀ c2 ∈ (iclasses 6), run (.row [4]) c1 c2 = true := by
  rw [eq_iclasses_6]
  exact cm (gB_mem t27_0) (cm (gB_mem t27_1) (cm (gB_mem t27_2) (cm (gB_mem t27_3) (cm (gB_mem t27_4) (cm (gB_mem t27_5) (cm (gB_mem t27_6) (cm (gB_mem t27_7) (cm (gB_mem t27_8) (nm)))))))))
theorem t28 : ∀ c1 ∈ (iclasses 6), ∀ c2 ∈ (iclasses 6), run (.row [4, 1]) c1 c2 = true := by
  rw [eq_iclasses_6]
  exact cm (gB_mem t28_0) (cm (gB_mem t28_1) (cm (gB_mem t28_2) (cm (gB_mem t28_3) (cm (gB_mem t28_4) (cm (gB_mem t28_5) (cm (gB_mem t28_6) (cm (gB_mem t28_7) (cm (gB_mem t28_8) (nm)))))))))
theorem t29 : ∀ c1 ∈ (iclasses 6), ∀ c2 ∈ (iclasses 6), run (.row [4, 1, 1]) c1 c2 = true := by
  rw [eq_iclasses_6]
  exact cm (gB_mem t29_0) (cm (gB_mem t29_1) (cm (gB_mem t29_2) (cm (gB_mem t29_3) (cm (gB_mem t29_4) (cm (gB_mem t29_5) (cm (gB_mem t29_6) (cm (gB_mem t29_7) (cm (gB_mem t29_8) (nm)))))))))
theorem t30 : ∀ c1 ∈ (iclasses 6), ∀ c2 ∈ (iclasses 6), run (.row [4, 2]) c1 c2 = true := by
  rw [eq_iclasses_6]
  exact cm (gB_mem t30_0) (cm (gB_mem t30_1) (cm (gB_mem t30_2) (cm (gB_mem t30_3) (cm (gB_mem t30_4) (cm (gB_mem t30_5) (cm (gB_mem t30_6) (cm (gB_mem t30_7) (cm (gB_mem t30_8) (nm)))))))))
theorem t31 : ∀ c1 ∈ (iclasses 6), ∀ c2 ∈ (iclasses 6), run (.row [5]) c1 c2 = true := by
  rw [eq_iclasses_6]
  exact cm (gB_mem t31_0) (cm (gB_mem t31_1) (cm (gB_mem t31_2) (cm (gB_mem t31_3) (cm (gB_mem t31_4) (cm (gB_mem t31_5) (cm (gB_mem t31_6) (cm (gB_mem t31_7) (cm (gB_mem t31_8) (nm)))))))))
theorem t32 : ∀ c1 ∈ (iclasses 6), ∀ c2 ∈ (iclasses 6), run (.row [5, 1]) c1 c2 = true := by
  rw [eq_iclasses_6]
  exact cm (gB_mem t32_0) (cm (gB_mem t32_1) (cm (gB_mem t32_2) (cm (gB_mem t32_3) (cm (gB_mem t32_4) (cm (gB_mem t32_5) (cm (gB_mem t32_6) (cm (gB_mem t32_7) (cm (gB_mem t32_8) (nm)))))))))
theorem t33 : ∀ c1 ∈ (iclasses 6), ∀ c2 ∈ (iclasses 6), run (.row [6]) c1 c2 = true := by
  rw [eq_iclasses_6]
  exact cm (gB_mem t33_0) (cm (gB_mem t33_1) (cm (gB_mem t33_2) (cm (gB_mem t33_3) (cm (gB_mem t33_4) (cm (gB_mem t33_5) (cm (gB_mem t33_6) (cm (gB_mem t33_7) (cm (gB_mem t33_8) (nm)))))))))
theorem rows : ∀ c0 ∈ classes, ∀ c1 ∈ (iclasses 6), ∀ c2 ∈ (iclasses 6), run  c0 c1 c2 = true := by
  rw [eq_classes]
  exact cm t0 (cm t1 (cm t2 (cm t3 (cm t4 (cm t5 (cm t6 (cm t7 (cm t8 (cm t9 (cm t10 (cm t11 (cm t12 (cm t13 (cm t14 (cm t15 (cm t16 (cm t17 (cm t18 (cm t19 (cm t20 (cm t21 (cm t22 (cm t23 (cm t24 (cm t25 (cm t26 (cm t27 (cm t28 (cm t29 (cm t30 (cm t31 (cm t32 (cm t33 (nm))))))))))))))))))))))))))))))))))
end Go.Proofs.Ytnglbchhlpbgkaa.fnExactMeanStepRuns
