/- Runs of the program at a seat. -/
import Derived.Test.YtnglbchhlpbgkaaSFnExactMeanSignR0
import Derived.Test.YtnglbchhlpbgkaaSFnExactMeanSignR1
import Derived.Test.YtnglbchhlpbgkaaSFnExactMeanSignR2
import Derived.Test.YtnglbchhlpbgkaaSFnExactMeanSignR3
import Derived.Test.YtnglbchhlpbgkaaSFnExactMeanSignR4
import Derived.Test.YtnglbchhlpbgkaaSFnExactMeanSignR5
import Derived.Test.YtnglbchhlpbgkaaSFnExactMeanSignR6
import Derived.Test.YtnglbchhlpbgkaaSFnExactMeanSignR7
import Derived.Test.YtnglbchhlpbgkaaSFnExactMeanSignR8
import Derived.Test.YtnglbchhlpbgkaaSFnExactMeanSignR9
import Derived.Test.YtnglbchhlpbgkaaSFnExactMeanSignR10
import Derived.Test.YtnglbchhlpbgkaaSFnExactMeanSignR11
import Derived.Test.YtnglbchhlpbgkaaSFnExactMeanSignR12
import Derived.Test.YtnglbchhlpbgkaaSFnExactMeanSignR13
import Derived.Test.YtnglbchhlpbgkaaSFnExactMeanSignR14
import Derived.Test.YtnglbchhlpbgkaaSFnExactMeanSignR15
import Derived.Test.YtnglbchhlpbgkaaSFnExactMeanSignR16
import Derived.Test.YtnglbchhlpbgkaaSFnExactMeanSignR17
import Derived.Test.YtnglbchhlpbgkaaSFnExactMeanSignR18
import Derived.Test.YtnglbchhlpbgkaaSFnExactMeanSignR19
namespace Go.Proofs.Ytnglbchhlpbgkaa.fnExactMeanSignRuns
open Go Go.Eng
set_option linter.unusedVariables false
set_option linter.unusedSectionVars false
set_option linter.unusedSimpArgs false
set_option maxRecDepth 100000
theorem d2 {p : PCls → Prop} {a b : PCls} (v : p a) (w : p b) : ∀ q ∈ [a, b], p q := cm v (cm w nm)
theorem d3 {p : PCls → Prop} {a b c : PCls} (v : p a) (w : p b) (x : p c) : ∀ q ∈ [a, b, c], p q := cm v (cm w (cm x nm))
theorem d4 {p : PCls → Prop} {a b c d : PCls} (v : p a) (w : p b) (x : p c) (y : p d) : ∀ q ∈ [a, b, c, d], p q := cm v (cm w (cm x (cm y nm)))
theorem d5 {p : PCls → Prop} {a b c d e : PCls} (v : p a) (w : p b) (x : p c) (y : p d) (z : p e) : ∀ q ∈ [a, b, c, d, e], p q := cm v (cm w (cm x (cm y (cm z nm))))
@[reducible] def W (a : Cls) (l : List Cls) : Prop := gB l (fun b => gB pclasses (fun c => run a b c [])) = true
theorem s3 {a : Cls} {k l m : List Cls} (x : W a k) (y : W a l) (z : W a m) : ∀ b ∈ k ++ (l ++ m), A a b := ac (fun b h => lf (gB_mem x b h)) (ac (fun b h => lf (gB_mem y b h)) (fun b h => lf (gB_mem z b h)))
theorem s4 {a : Cls} {j k l m : List Cls} (w : W a j) (x : W a k) (y : W a l) (z : W a m) : ∀ b ∈ j ++ (k ++ (l ++ m)), A a b := ac (fun b h => lf (gB_mem w b h)) (s3 x y z)
theorem v0 : ∀ b ∈ classes, A .nil b := by
  rw [eq_classes]
  exact sp (m := L0) (h := []) (by simp [L0, L0_0, L0_1, L0_2, L0_3]) (s4 w0_0 w0_1 w0_2 w0_3) (nm)
theorem v1 : ∀ b ∈ classes, A .zero b := by
  rw [eq_classes]
  exact sp (m := L1) (h := []) (by simp [L1, L1_0, L1_1, L1_2, L1_3]) (s4 w1_0 w1_1 w1_2 w1_3) (nm)
theorem v2 : ∀ b ∈ classes, A .no b := by
  rw [eq_classes]
  exact sp (m := L2) (h := []) (by simp [L2, L2_0, L2_1, L2_2, L2_3]) (s4 w2_0 w2_1 w2_2 w2_3) (nm)
theorem v3 : ∀ b ∈ classes, A .long b := by
  rw [eq_classes]
  exact sp (m := L3) (h := []) (by simp [L3, L3_0, L3_1, L3_2, L3_3]) (s4 w3_0 w3_1 w3_2 w3_3) (nm)
theorem v4 : ∀ b ∈ classes, A (.row []) b := by
  rw [eq_classes]
  exact sp (m := L4) (h := []) (by simp [L4, L4_0, L4_1, L4_2, L4_3]) (s4 w4_0 w4_1 w4_2 w4_3) (nm)
theorem v5 : ∀ b ∈ classes, A (.row [1]) b := by
  rw [eq_classes]
  exact sp (m := L5) (h := [.row [1]]) (by simp [L5, L5_0, L5_1, L5_2, L5_3]) (s4 w5_0 w5_1 w5_2 w5_3) (cm (pa1 l5_5 (d5 t5_5_1 t5_5_2 t5_5_3 t5_5_4 t5_5_5)) nm)
theorem v6 : ∀ b ∈ classes, A (.row [1, 1]) b := by
  rw [eq_classes]
  exact sp (m := L6) (h := [.row [1, 1], .row [2]]) (by simp [L6, L6_0, L6_1, L6_2, L6_3]) (s4 w6_0 w6_1 w6_2 w6_3) (cm (pa2 l6_6 (d4 t6_6_2 t6_6_3 t6_6_4 t6_6_5)) (cm (pa2 l6_11 (d4 t6_11_2 t6_11_3 t6_11_4 t6_11_5)) nm))
theorem v7 : ∀ b ∈ classes, A (.row [1, 1, 1]) b := by
  rw [eq_classes]
  exact sp (m := L7) (h := [.row [1, 1, 1], .row [2, 1], .row [3]]) (by simp [L7, L7_0, L7_1, L7_2, L7_3]) (s4 w7_0 w7_1 w7_2 w7_3) (cm (pa3 l7_7 (d3 t7_7_3 t7_7_4 t7_7_5)) (cm (pa3 l7_12 (d3 t7_12_3 t7_12_4 t7_12_5)) (cm (pa3 l7_20 (d3 t7_20_3 t7_20_4 t7_20_5)) nm)))
theorem v8 : ∀ b ∈ classes, A (.row [1, 1, 1, 1]) b := by
  rw [eq_classes]
  exact sp (m := L8) (h := [.row [1, 1, 1, 1], .row [2, 1, 1], .row [2, 2], .row [3, 1], .row [4]]) (by simp [L8, L8_0, L8_1, L8_2, L8_3]) (s4 w8_0 w8_1 w8_2 w8_3) (cm (pa4 l8_8 (d2 t8_8_4 t8_8_5)) (cm (pa4 l8_13 (d2 t8_13_4 t8_13_5)) (cm (pa4 l8_16 (d2 t8_16_4 t8_16_5)) (cm (pa4 l8_21 (d2 t8_21_4 t8_21_5)) (cm (pa4 l8_27 (d2 t8_27_4 t8_27_5)) nm)))))
theorem v9 : ∀ b ∈ classes, A (.row [1, 1, 1, 1, 1]) b := by
  rw [eq_classes]
  exact sp (m := L9) (h := [.row [1, 1, 1, 1, 1], .row [2, 1, 1, 1], .row [2, 2, 1], .row [3, 1, 1], .row [3, 2], .row [4, 1], .row [5]]) (by simp [L9, L9_0, L9_1, L9_2]) (s3 w9_0 w9_1 w9_2) (cm (pa5 l9_9 (cm t9_9_5 nm)) (cm (pa5 l9_14 (cm t9_14_5 nm)) (cm (pa5 l9_17 (cm t9_17_5 nm)) (cm (pa5 l9_22 (cm t9_22_5 nm)) (cm (pa5 l9_24 (cm t9_24_5 nm)) (cm (pa5 l9_28 (cm t9_28_5 nm)) (cm (pa5 l9_31 (cm t9_31_5 nm)) nm)))))))
theorem v10 : ∀ b ∈ classes, A (.row [1, 1, 1, 1, 1, 1]) b := by
  rw [eq_classes]
  exact sp (m := L10) (h := []) (by simp [L10, L10_0, L10_1, L10_2, L10_3]) (s4 w10_0 w10_1 w10_2 w10_3) (nm)
theorem v11 : ∀ b ∈ classes, A (.row [2]) b := by
  rw [eq_classes]
  exact sp (m := L11) (h := [.row [1, 1], .row [2]]) (by simp [L11, L11_0, L11_1, L11_2, L11_3]) (s4 w11_0 w11_1 w11_2 w11_3) (cm (pa2 l11_6 (d4 t11_6_2 t11_6_3 t11_6_4 t11_6_5)) (cm (pa1 l11_11 (d5 t11_11_1 t11_11_2 t11_11_3 t11_11_4 t11_11_5)) nm))
theorem v12 : ∀ b ∈ classes, A (.row [2, 1]) b := by
  rw [eq_classes]
  exact sp (m := L12) (h := [.row [1, 1, 1], .row [2, 1], .row [3]]) (by simp [L12, L12_0, L12_1, L12_2, L12_3]) (s4 w12_0 w12_1 w12_2 w12_3) (cm (pa3 l12_7 (d3 t12_7_3 t12_7_4 t12_7_5)) (cm (pa2 l12_12 (d4 t12_12_2 t12_12_3 t12_12_4 t12_12_5)) (cm (pa2 l12_20 (d4 t12_20_2 t12_20_3 t12_20_4 t12_20_5)) nm)))
theorem v13 : ∀ b ∈ classes, A (.row [2, 1, 1]) b := by
  rw [eq_classes]
  exact sp (m := L13) (h := [.row [1, 1, 1, 1], .row [2, 1, 1], .row [2, 2], .row [3, 1], .row [4]]) (by simp [L13, L13_0, L13_1, L13_2, L13_3]) (s4 w13_0 w13_1 w13_2 w13_3) (cm (pa4 l13_8 (d2 t13_8_4 t13_8_5)) (cm (pa3 l13_13 (d3 t13_13_3 t13_13_4 t13_13_5)) (cm (pa3 l13_16 (d3 t13_16_3 t13_16_4 t13_16_5)) (cm (pa3 l13_21 (d3 t13_21_3 t13_21_4 t13_21_5)) (cm (pa3 l13_27 (d3 t13_27_3 t13_27_4 t13_27_5)) nm)))))
theorem v14 : ∀ b ∈ classes, A (.row [2, 1, 1, 1]) b := by
  rw [eq_classes]
  exact sp (m := L14) (h := [.row [1, 1, 1, 1, 1], .row [2, 1, 1, 1], .row [2, 2, 1], .row [3, 1, 1], .row [3, 2], .row [4, 1], .row [5]]) (by simp [L14, L14_0, L14_1, L14_2]) (s3 w14_0 w14_1 w14_2) (cm (pa5 l14_9 (cm t14_9_5 nm)) (cm (pa4 l14_14 (d2 t14_14_4 t14_14_5)) (cm (pa4 l14_17 (d2 t14_17_4 t14_17_5)) (cm (pa4 l14_22 (d2 t14_22_4 t14_22_5)) (cm (pa4 l14_24 (d2 t14_24_4 t14_24_5)) (cm (pa4 l14_28 (d2 t14_28_4 t14_28_5)) (cm (pa4 l14_31 (d2 t14_31_4 t14_31_5)) nm)))))))
theorem v15 : ∀ b ∈ classes, A (.row [2, 1, 1, 1, 1]) b := by
  rw [eq_classes]
  exact sp (m := L15) (h := [.row [2, 1, 1, 1, 1], .row [2, 2, 1, 1], .row [2, 2, 2], .row [3, 1, 1, 1], .row [3, 2, 1], .row [3, 3], .row [4, 1, 1], .row [4, 2], .row [5, 1], .row [6]]) (by simp [L15, L15_0, L15_1, L15_2]) (s3 w15_0 w15_1 w15_2) (cm (pa5 l15_15 (cm t15_15_5 nm)) (cm (pa5 l15_18 (cm t15_18_5 nm)) (cm (pa5 l15_19 (cm t15_19_5 nm)) (cm (pa5 l15_23 (cm t15_23_5 nm)) (cm (pa5 l15_25 (cm t15_25_5 nm)) (cm (pa5 l15_26 (cm t15_26_5 nm)) (cm (pa5 l15_29 (cm t15_29_5 nm)) (cm (pa5 l15_30 (cm t15_30_5 nm)) (cm (pa5 l15_32 (cm t15_32_5 nm)) (cm (pa5 l15_33 (cm t15_33_5 nm)) nm))))))))))
theorem v16 : ∀ b ∈ classes, A (.row [2, 2]) b := by
  rw [eq_classes]
  exact sp (m := L16) (h := [.row [1, 1, 1, 1], .row [2, 1, 1], .row [2, 2], .row [3, 1], .row [4]]) (by simp [L16, L16_0, L16_1, L16_2, L16_3]) (s4 w16_0 w16_1 w16_2 w16_3) (cm (pa4 l16_8 (d2 t16_8_4 t16_8_5)) (cm (pa3 l16_13 (d3 t16_13_3 t16_13_4 t16_13_5)) (cm (pa2 l16_16 (d4 t16_16_2 t16_16_3 t16_16_4 t16_16_5)) (cm (pa2 l16_21 (d4 t16_21_2 t16_21_3 t16_21_4 t16_21_5)) (cm (pa2 l16_27 (d4 t16_27_2 t16_27_3 t16_27_4 t16_27_5)) nm)))))
theorem v17 : ∀ b ∈ classes, A (.row [2, 2, 1]) b := by
  rw [eq_classes]
  exact sp (m := L17) (h := [.row [1, 1, 1, 1, 1], .row [2, 1, 1, 1], .row [2, 2, 1], .row [3, 1, 1], .row [3, 2], .row [4, 1], .row [5]]) (by simp [L17, L17_0, L17_1, L17_2]) (s3 w17_0 w17_1 w17_2) (cm (pa5 l17_9 (cm t17_9_5 nm)) (cm (pa4 l17_14 (d2 t17_14_4 t17_14_5)) (cm (pa3 l17_17 (d3 t17_17_3 t17_17_4 t17_17_5)) (cm (pa3 l17_22 (d3 t17_22_3 t17_22_4 t17_22_5)) (cm (pa3 l17_24 (d3 t17_24_3 t17_24_4 t17_24_5)) (cm (pa3 l17_28 (d3 t17_28_3 t17_28_4 t17_28_5)) (cm (pa3 l17_31 (d3 t17_31_3 t17_31_4 t17_31_5)) nm)))))))
theorem v18 : ∀ b ∈ classes, A (.row [2, 2, 1, 1]) b := by
  rw [eq_classes]
  exact sp (m := L18) (h := [.row [2, 1, 1, 1, 1], .row [2, 2, 1, 1], .row [2, 2, 2], .row [3, 1, 1, 1], .row [3, 2, 1], .row [3, 3], .row [4, 1, 1], .row [4, 2], .row [5, 1], .row [6]]) (by simp [L18, L18_0, L18_1, L18_2]) (s3 w18_0 w18_1 w18_2) (cm (pa5 l18_15 (cm t18_15_5 nm)) (cm (pa4 l18_18 (d2 t18_18_4 t18_18_5)) (cm (pa4 l18_19 (d2 t18_19_4 t18_19_5)) (cm (pa4 l18_23 (d2 t18_23_4 t18_23_5)) (cm (pa4 l18_25 (d2 t18_25_4 t18_25_5)) (cm (pa4 l18_26 (d2 t18_26_4 t18_26_5)) (cm (pa4 l18_29 (d2 t18_29_4 t18_29_5)) (cm (pa4 l18_30 (d2 t18_30_4 t18_30_5)) (cm (pa4 l18_32 (d2 t18_32_4 t18_32_5)) (cm (pa4 l18_33 (d2 t18_33_4 t18_33_5)) nm))))))))))
theorem v19 : ∀ b ∈ classes, A (.row [2, 2, 2]) b := by
  rw [eq_classes]
  exact sp (m := L19) (h := [.row [2, 1, 1, 1, 1], .row [2, 2, 1, 1], .row [2, 2, 2], .row [3, 1, 1, 1], .row [3, 2, 1], .row [3, 3], .row [4, 1, 1], .row [4, 2], .row [5, 1], .row [6]]) (by simp [L19, L19_0, L19_1, L19_2]) (s3 w19_0 w19_1 w19_2) (cm (pa5 l19_15 (cm t19_15_5 nm)) (cm (pa4 l19_18 (d2 t19_18_4 t19_18_5)) (cm (pa3 l19_19 (d3 t19_19_3 t19_19_4 t19_19_5)) (cm (pa4 l19_23 (d2 t19_23_4 t19_23_5)) (cm (pa3 l19_25 (d3 t19_25_3 t19_25_4 t19_25_5)) (cm (pa3 l19_26 (d3 t19_26_3 t19_26_4 t19_26_5)) (cm (pa3 l19_29 (d3 t19_29_3 t19_29_4 t19_29_5)) (cm (pa3 l19_30 (d3 t19_30_3 t19_30_4 t19_30_5)) (cm (pa3 l19_32 (d3 t19_32_3 t19_32_4 t19_32_5)) (cm (pa3 l19_33 (d3 t19_33_3 t19_33_4 t19_33_5)) nm))))))))))
theorem v20 : ∀ b ∈ classes, A (.row [3]) b := by
  rw [eq_classes]
  exact sp (m := L20) (h := [.row [1, 1, 1], .row [2, 1], .row [3]]) (by simp [L20, L20_0, L20_1, L20_2, L20_3]) (s4 w20_0 w20_1 w20_2 w20_3) (cm (pa3 l20_7 (d3 t20_7_3 t20_7_4 t20_7_5)) (cm (pa2 l20_12 (d4 t20_12_2 t20_12_3 t20_12_4 t20_12_5)) (cm (pa1 l20_20 (d5 t20_20_1 t20_20_2 t20_20_3 t20_20_4 t20_20_5)) nm)))
theorem v21 : ∀ b ∈ classes, A (.row [3, 1]) b := by
  rw [eq_classes]
  exact sp (m := L21) (h := [.row [1, 1, 1, 1], .row [2, 1, 1], .row [2, 2], .row [3, 1], .row [4]]) (by simp [L21, L21_0, L21_1, L21_2, L21_3]) (s4 w21_0 w21_1 w21_2 w21_3) (cm (pa4 l21_8 (d2 t21_8_4 t21_8_5)) (cm (pa3 l21_13 (d3 t21_13_3 t21_13_4 t21_13_5)) (cm (pa2 l21_16 (d4 t21_16_2 t21_16_3 t21_16_4 t21_16_5)) (cm (pa2 l21_21 (d4 t21_21_2 t21_21_3 t21_21_4 t21_21_5)) (cm (pa2 l21_27 (d4 t21_27_2 t21_27_3 t21_27_4 t21_27_5)) nm)))))
theorem v22 : ∀ b ∈ classes, A (.row [3, 1, 1]) b := by
  rw [eq_classes]
  exact sp (m := L22) (h := [.row [1, 1, 1, 1, 1], .row [2, 1, 1, 1], .row [2, 2, 1], .row [3, 1, 1], .row [3, 2], .row [4, 1], .row [5]]) (by simp [L22, L22_0, L22_1, L22_2]) (s3 w22_0 w22_1 w22_2) (cm (pa5 l22_9 (cm t22_9_5 nm)) (cm (pa4 l22_14 (d2 t22_14_4 t22_14_5)) (cm (pa3 l22_17 (d3 t22_17_3 t22_17_4 t22_17_5)) (cm (pa3 l22_22 (d3 t22_22_3 t22_22_4 t22_22_5)) (cm (pa3 l22_24 (d3 t22_24_3 t22_24_4 t22_24_5)) (cm (pa3 l22_28 (d3 t22_28_3 t22_28_4 t22_28_5)) (cm (pa3 l22_31 (d3 t22_31_3 t22_31_4 t22_31_5)) nm)))))))
theorem v23 : ∀ b ∈ classes, A (.row [3, 1, 1, 1]) b := by
  rw [eq_classes]
  exact sp (m := L23) (h := [.row [2, 1, 1, 1, 1], .row [2, 2, 1, 1], .row [2, 2, 2], .row [3, 1, 1, 1], .row [3, 2, 1], .row [3, 3], .row [4, 1, 1], .row [4, 2], .row [5, 1], .row [6]]) (by simp [L23, L23_0, L23_1, L23_2]) (s3 w23_0 w23_1 w23_2) (cm (pa5 l23_15 (cm t23_15_5 nm)) (cm (pa4 l23_18 (d2 t23_18_4 t23_18_5)) (cm (pa4 l23_19 (d2 t23_19_4 t23_19_5)) (cm (pa4 l23_23 (d2 t23_23_4 t23_23_5)) (cm (pa4 l23_25 (d2 t23_25_4 t23_25_5)) (cm (pa4 l23_26 (d2 t23_26_4 t23_26_5)) (cm (pa4 l23_29 (d2 t23_29_4 t23_29_5)) (cm (pa4 l23_30 (d2 t23_30_4 t23_30_5)) (cm (pa4 l23_32 (d2 t23_32_4 t23_32_5)) (cm (pa4 l23_33 (d2 t23_33_4 t23_33_5)) nm))))))))))
theorem v24 : ∀ b ∈ classes, A (.row [3, 2]) b := by
  rw [eq_classes]
  exact sp (m := L24) (h := [.row [1, 1, 1, 1, 1], .row [2, 1, 1, 1], .row [2, 2, 1], .row [3, 1, 1], .row [3, 2], .row [4, 1], .row [5]]) (by simp [L24, L24_0, L24_1, L24_2]) (s3 w24_0 w24_1 w24_2) (cm (pa5 l24_9 (cm t24_9_5 nm)) (cm (pa4 l24_14 (d2 t24_14_4 t24_14_5)) (cm (pa3 l24_17 (d3 t24_17_3 t24_17_4 t24_17_5)) (cm (pa3 l24_22 (d3 t24_22_3 t24_22_4 t24_22_5)) (cm (pa2 l24_24 (d4 t24_24_2 t24_24_3 t24_24_4 t24_24_5)) (cm (pa2 l24_28 (d4 t24_28_2 t24_28_3 t24_28_4 t24_28_5)) (cm (pa2 l24_31 (d4 t24_31_2 t24_31_3 t24_31_4 t24_31_5)) nm)))))))
theorem v25 : ∀ b ∈ classes, A (.row [3, 2, 1]) b := by
  rw [eq_classes]
  exact sp (m := L25) (h := [.row [2, 1, 1, 1, 1], .row [2, 2, 1, 1], .row [2, 2, 2], .row [3, 1, 1, 1], .row [3, 2, 1], .row [3, 3], .row [4, 1, 1], .row [4, 2], .row [5, 1], .row [6]]) (by simp [L25, L25_0, L25_1, L25_2]) (s3 w25_0 w25_1 w25_2) (cm (pa5 l25_15 (cm t25_15_5 nm)) (cm (pa4 l25_18 (d2 t25_18_4 t25_18_5)) (cm (pa3 l25_19 (d3 t25_19_3 t25_19_4 t25_19_5)) (cm (pa4 l25_23 (d2 t25_23_4 t25_23_5)) (cm (pa3 l25_25 (d3 t25_25_3 t25_25_4 t25_25_5)) (cm (pa3 l25_26 (d3 t25_26_3 t25_26_4 t25_26_5)) (cm (pa3 l25_29 (d3 t25_29_3 t25_29_4 t25_29_5)) (cm (pa3 l25_30 (d3 t25_30_3 t25_30_4 t25_30_5)) (cm (pa3 l25_32 (d3 t25_32_3 t25_32_4 t25_32_5)) (cm (pa3 l25_33 (d3 t25_33_3 t25_33_4 t25_33_5)) nm))))))))))
theorem v26 : ∀ b ∈ classes, A (.row [3, 3]) b := by
  rw [eq_classes]
  exact sp (m := L26) (h := [.row [2, 1, 1, 1, 1], .row [2, 2, 1, 1], .row [2, 2, 2], .row [3, 1, 1, 1], .row [3, 2, 1], .row [3, 3], .row [4, 1, 1], .row [4, 2], .row [5, 1], .row [6]]) (by simp [L26, L26_0, L26_1, L26_2]) (s3 w26_0 w26_1 w26_2) (cm (pa5 l26_15 (cm t26_15_5 nm)) (cm (pa4 l26_18 (d2 t26_18_4 t26_18_5)) (cm (pa3 l26_19 (d3 t26_19_3 t26_19_4 t26_19_5)) (cm (pa4 l26_23 (d2 t26_23_4 t26_23_5)) (cm (pa3 l26_25 (d3 t26_25_3 t26_25_4 t26_25_5)) (cm (pa2 l26_26 (d4 t26_26_2 t26_26_3 t26_26_4 t26_26_5)) (cm (pa3 l26_29 (d3 t26_29_3 t26_29_4 t26_29_5)) (cm (pa2 l26_30 (d4 t26_30_2 t26_30_3 t26_30_4 t26_30_5)) (cm (pa2 l26_32 (d4 t26_32_2 t26_32_3 t26_32_4 t26_32_5)) (cm (pa2 l26_33 (d4 t26_33_2 t26_33_3 t26_33_4 t26_33_5)) nm))))))))))
theorem v27 : ∀ b ∈ classes, A (.row [4]) b := by
  rw [eq_classes]
  exact sp (m := L27) (h := [.row [1, 1, 1, 1], .row [2, 1, 1], .row [2, 2], .row [3, 1], .row [4]]) (by simp [L27, L27_0, L27_1, L27_2, L27_3]) (s4 w27_0 w27_1 w27_2 w27_3) (cm (pa4 l27_8 (d2 t27_8_4 t27_8_5)) (cm (pa3 l27_13 (d3 t27_13_3 t27_13_4 t27_13_5)) (cm (pa2 l27_16 (d4 t27_16_2 t27_16_3 t27_16_4 t27_16_5)) (cm (pa2 l27_21 (d4 t27_21_2 t27_21_3 t27_21_4 t27_21_5)) (cm (pa1 l27_27 (d5 t27_27_1 t27_27_2 t27_27_3 t27_27_4 t27_27_5)) nm)))))
theorem v28 : ∀ b ∈ classes, A (.row [4, 1]) b := by
  rw [eq_classes]
  exact sp (m := L28) (h := [.row [1, 1, 1, 1, 1], .row [2, 1, 1, 1], .row [2, 2, 1], .row [3, 1, 1], .row [3, 2], .row [4, 1], .row [5]]) (by simp [L28, L28_0, L28_1, L28_2]) (s3 w28_0 w28_1 w28_2) (cm (pa5 l28_9 (cm t28_9_5 nm)) (cm (pa4 l28_14 (d2 t28_14_4 t28_14_5)) (cm (pa3 l28_17 (d3 t28_17_3 t28_17_4 t28_17_5)) (cm (pa3 l28_22 (d3 t28_22_3 t28_22_4 t28_22_5)) (cm (pa2 l28_24 (d4 t28_24_2 t28_24_3 t28_24_4 t28_24_5)) (cm (pa2 l28_28 (d4 t28_28_2 t28_28_3 t28_28_4 t28_28_5)) (cm (pa2 l28_31 (d4 t28_31_2 t28_31_3 t28_31_4 t28_31_5)) nm)))))))
theorem v29 : ∀ b ∈ classes, A (.row [4, 1, 1]) b := by
  rw [eq_classes]
  exact sp (m := L29) (h := [.row [2, 1, 1, 1, 1], .row [2, 2, 1, 1], .row [2, 2, 2], .row [3, 1, 1, 1], .row [3, 2, 1], .row [3, 3], .row [4, 1, 1], .row [4, 2], .row [5, 1], .row [6]]) (by simp [L29, L29_0, L29_1, L29_2]) (s3 w29_0 w29_1 w29_2) (cm (pa5 l29_15 (cm t29_15_5 nm)) (cm (pa4 l29_18 (d2 t29_18_4 t29_18_5)) (cm (pa3 l29_19 (d3 t29_19_3 t29_19_4 t29_19_5)) (cm (pa4 l29_23 (d2 t29_23_4 t29_23_5)) (cm (pa3 l29_25 (d3 t29_25_3 t29_25_4 t29_25_5)) (cm (pa3 l29_26 (d3 t29_26_3 t29_26_4 t29_26_5)) (cm (pa3 l29_29 (d3 t29_29_3 t29_29_4 t29_29_5)) (cm (pa3 l29_30 (d3 t29_30_3 t29_30_4 t29_30_5)) (cm (pa3 l29_32 (d3 t29_32_3 t29_32_4 t29_32_5)) (cm (pa3 l29_33 (d3 t29_33_3 t29_33_4 t29_33_5)) nm))))))))))
theorem v30 : ∀ b ∈ classes, A (.row [4, 2]) b := by
  rw [eq_classes]
  exact sp (m := L30) (h := [.row [2, 1, 1, 1, 1], .row [2, 2, 1, 1], .row [2, 2, 2], .row [3, 1, 1, 1], .row [3, 2, 1], .row [3, 3], .row [4, 1, 1], .row [4, 2], .row [5, 1], .row [6]]) (by simp [L30, L30_0, L30_1, L30_2]) (s3 w30_0 w30_1 w30_2) (cm (pa5 l30_15 (cm t30_15_5 nm)) (cm (pa4 l30_18 (d2 t30_18_4 t30_18_5)) (cm (pa3 l30_19 (d3 t30_19_3 t30_19_4 t30_19_5)) (cm (pa4 l30_23 (d2 t30_23_4 t30_23_5)) (cm (pa3 l30_25 (d3 t30_25_3 t30_25_4 t30_25_5)) (cm (pa2 l30_26 (d4 t30_26_2 t30_26_3 t30_26_4 t30_26_5)) (cm (pa3 l30_29 (d3 t30_29_3 t30_29_4 t30_29_5)) (cm (pa2 l30_30 (d4 t30_30_2 t30_30_3 t30_30_4 t30_30_5)) (cm (pa2 l30_32 (d4 t30_32_2 t30_32_3 t30_32_4 t30_32_5)) (cm (pa2 l30_33 (d4 t30_33_2 t30_33_3 t30_33_4 t30_33_5)) nm))))))))))
theorem v31 : ∀ b ∈ classes, A (.row [5]) b := by
  rw [eq_classes]
  exact sp (m := L31) (h := [.row [1, 1, 1, 1, 1], .row [2, 1, 1, 1], .row [2, 2, 1], .row [3, 1, 1], .row [3, 2], .row [4, 1], .row [5]]) (by simp [L31, L31_0, L31_1, L31_2]) (s3 w31_0 w31_1 w31_2) (cm (pa5 l31_9 (cm t31_9_5 nm)) (cm (pa4 l31_14 (d2 t31_14_4 t31_14_5)) (cm (pa3 l31_17 (d3 t31_17_3 t31_17_4 t31_17_5)) (cm (pa3 l31_22 (d3 t31_22_3 t31_22_4 t31_22_5)) (cm (pa2 l31_24 (d4 t31_24_2 t31_24_3 t31_24_4 t31_24_5)) (cm (pa2 l31_28 (d4 t31_28_2 t31_28_3 t31_28_4 t31_28_5)) (cm (pa1 l31_31 (d5 t31_31_1 t31_31_2 t31_31_3 t31_31_4 t31_31_5)) nm)))))))
theorem v32 : ∀ b ∈ classes, A (.row [5, 1]) b := by
  rw [eq_classes]
  exact sp (m := L32) (h := [.row [2, 1, 1, 1, 1], .row [2, 2, 1, 1], .row [2, 2, 2], .row [3, 1, 1, 1], .row [3, 2, 1], .row [3, 3], .row [4, 1, 1], .row [4, 2], .row [5, 1], .row [6]]) (by simp [L32, L32_0, L32_1, L32_2]) (s3 w32_0 w32_1 w32_2) (cm (pa5 l32_15 (cm t32_15_5 nm)) (cm (pa4 l32_18 (d2 t32_18_4 t32_18_5)) (cm (pa3 l32_19 (d3 t32_19_3 t32_19_4 t32_19_5)) (cm (pa4 l32_23 (d2 t32_23_4 t32_23_5)) (cm (pa3 l32_25 (d3 t32_25_3 t32_25_4 t32_25_5)) (cm (pa2 l32_26 (d4 t32_26_2 t32_26_3 t32_26_4 t32_26_5)) (cm (pa3 l32_29 (d3 t32_29_3 t32_29_4 t32_29_5)) (cm (pa2 l32_30 (d4 t32_30_2 t32_30_3 t32_30_4 t32_30_5)) (cm (pa2 l32_32 (d4 t32_32_2 t32_32_3 t32_32_4 t32_32_5)) (cm (pa2 l32_33 (d4 t32_33_2 t32_33_3 t32_33_4 t32_33_5)) nm))))))))))
theorem v33 : ∀ b ∈ classes, A (.row [6]) b := by
  rw [eq_classes]
  exact sp (m := L33) (h := [.row [2, 1, 1, 1, 1], .row [2, 2, 1, 1], .row [2, 2, 2], .row [3, 1, 1, 1], .row [3, 2, 1], .row [3, 3], .row [4, 1, 1], .row [4, 2], .row [5, 1], .row [6]]) (by simp [L33, L33_0, L33_1, L33_2]) (s3 w33_0 w33_1 w33_2) (cm (pa5 l33_15 (cm t33_15_5 nm)) (cm (pa4 l33_18 (d2 t33_18_4 t33_18_5)) (cm (pa3 l33_19 (d3 t33_19_3 t33_19_4 t33_19_5)) (cm (pa4 l33_23 (d2 t33_23_4 t33_23_5)) (cm (pa3 l33_25 (d3 t33_25_3 t33_25_4 t33_25_5)) (cm (pa2 l33_26 (d4 t33_26_2 t33_26_3 t33_26_4 t33_26_5)) (cm (pa3 l33_29 (d3 t33_29_3 t33_29_4 t33_29_5)) (cm (pa2 l33_30 (d4 t33_30_2 t33_30_3 t33_30_4 t33_30_5)) (cm (pa2 l33_32 (d4 t33_32_2 t33_32_3 t33_32_4 t33_32_5)) (cm (pa1 l33_33 (d5 t33_33_1 t33_33_2 t33_33_3 t33_33_4 t33_33_5)) nm))))))))))
theorem rows : ∀ a ∈ classes, ∀ b ∈ classes, ∀ c ∈ pclasses, FtOk (run a b c) := by
  have h : ∀ a ∈ [.nil, .zero, .no, .long, .row [], .row [1], .row [1, 1], .row [1, 1, 1], .row [1, 1, 1, 1], .row [1, 1, 1, 1, 1], .row [1, 1, 1, 1, 1, 1], .row [2], .row [2, 1], .row [2, 1, 1], .row [2, 1, 1, 1], .row [2, 1, 1, 1, 1], .row [2, 2], .row [2, 2, 1], .row [2, 2, 1, 1], .row [2, 2, 2], .row [3], .row [3, 1], .row [3, 1, 1], .row [3, 1, 1, 1], .row [3, 2], .row [3, 2, 1], .row [3, 3], .row [4], .row [4, 1], .row [4, 1, 1], .row [4, 2], .row [5], .row [5, 1], .row [6]], ∀ b ∈ classes, A a b := cm v0 (cm v1 (cm v2 (cm v3 (cm v4 (cm v5 (cm v6 (cm v7 (cm v8 (cm v9 (cm v10 (cm v11 (cm v12 (cm v13 (cm v14 (cm v15 (cm v16 (cm v17 (cm v18 (cm v19 (cm v20 (cm v21 (cm v22 (cm v23 (cm v24 (cm v25 (cm v26 (cm v27 (cm v28 (cm v29 (cm v30 (cm v31 (cm v32 (cm v33 nm)))))))))))))))))))))))))))))))))
  rw [← eq_classes] at h
  exact h
end Go.Proofs.Ytnglbchhlpbgkaa.fnExactMeanSignRuns
