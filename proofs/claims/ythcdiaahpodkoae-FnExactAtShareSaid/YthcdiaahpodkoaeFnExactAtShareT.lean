/- The runs of FnExactAtShare. -/
import Derived.Test.YthcdiaahpodkoaeFnExactAtShareR0
import Derived.Test.YthcdiaahpodkoaeFnExactAtShareR1
import Derived.Test.YthcdiaahpodkoaeFnExactAtShareR2
import Derived.Test.YthcdiaahpodkoaeFnExactAtShareR3
namespace Go.Proofs.Ythcdiaahpodkoae.fnExactAtShareRuns
open Go.Eng
set_option linter.unusedVariables false
set_option linter.unusedSectionVars false
set_option linter.unusedSimpArgs false
theorem r0 : AllL (fun c1 => AllL (fun c2 => run (.known 0) c1 c2 = true) pclasses) classes := by
  have h : classes = .nil :: .zero :: .no :: .long :: (List.map Cls.row [[], [1], [1, 1], [1, 1, 1], [1, 1, 1, 1], [1, 1, 1, 1, 1], [1, 1, 1, 1, 1, 1], [2], [2, 1], [2, 1, 1], [2, 1, 1, 1], [2, 1, 1, 1, 1], [2, 2], [2, 2, 1], [2, 2, 1, 1], [2, 2, 2], [3], [3, 1], [3, 1, 1], [3, 1, 1, 1], [3, 2], [3, 2, 1], [3, 3], [4], [4, 1], [4, 1, 1], [4, 2], [5], [5, 1], [6]]) := by unfold classes; rw [shares_eq]
  suffices h2 : AllL (fun c1 => AllL (fun c2 => run (.known 0) c1 c2 = true) pclasses) (.nil :: .zero :: .no :: .long :: (List.map Cls.row [[], [1], [1, 1], [1, 1, 1], [1, 1, 1, 1], [1, 1, 1, 1, 1], [1, 1, 1, 1, 1, 1], [2], [2, 1], [2, 1, 1], [2, 1, 1, 1], [2, 1, 1, 1, 1], [2, 2], [2, 2, 1], [2, 2, 1, 1], [2, 2, 2], [3], [3, 1], [3, 1, 1], [3, 1, 1, 1], [3, 2], [3, 2, 1], [3, 3], [4], [4, 1], [4, 1, 1], [4, 2], [5], [5, 1], [6]])) by
    rw [← h] at h2; exact h2
  exact ⟨r0_0, r0_1, r0_2, r0_3, r0_4, r0_5, r0_6, r0_7, r0_8, r0_9, r0_10, r0_11, r0_12, r0_13, r0_14, r0_15, r0_16, r0_17, r0_18, r0_19, r0_20, r0_21, r0_22, r0_23, r0_24, r0_25, r0_26, r0_27, r0_28, r0_29, r0_30, r0_31, r0_32, r0_33, trivial⟩
theorem r1 : AllL (fun c1 => AllL (fun c2 => run (.known 1) c1 c2 = true) pclasses) classes := by
  have h : classes = .nil :: .zero :: .no :: .long :: (List.map Cls.row [[], [1], [1, 1], [1, 1, 1], [1, 1, 1, 1], [1, 1, 1, 1, 1], [1, 1, 1, 1, 1, 1], [2], [2, 1], [2, 1, 1], [2, 1, 1, 1], [2, 1, 1, 1, 1], [2, 2], [2, 2, 1], [2, 2, 1, 1], [2, 2, 2], [3], [3, 1], [3, 1, 1], [3, 1, 1, 1], [3, 2], [3, 2, 1], [3, 3], [4], [4, 1], [4, 1, 1], [4, 2], [5], [5, 1], [6]]) := by unfold classes; rw [shares_eq]
  suffices h2 : AllL (fun c1 => AllL (fun c2 => run (.known 1) c1 c2 = true) pclasses) (.nil :: .zero :: .no :: .long :: (List.map Cls.row [[], [1], [1, 1], [1, 1, 1], [1, 1, 1, 1], [1, 1, 1, 1, 1], [1, 1, 1, 1, 1, 1], [2], [2, 1], [2, 1, 1], [2, 1, 1, 1], [2, 1, 1, 1, 1], [2, 2], [2, 2, 1], [2, 2, 1, 1], [2, 2, 2], [3], [3, 1], [3, 1, 1], [3, 1, 1, 1], [3, 2], [3, 2, 1], [3, 3], [4], [4, 1], [4, 1, 1], [4, 2], [5], [5, 1], [6]])) by
    rw [← h] at h2; exact h2
  exact ⟨r1_0, r1_1, r1_2, r1_3, r1_4, r1_5, r1_6, r1_7, r1_8, r1_9, r1_10, r1_11, r1_12, r1_13, r1_14, r1_15, r1_16, r1_17, r1_18, r1_19, r1_20, r1_21, r1_22, r1_23, r1_24, r1_25, r1_26, r1_27, r1_28, r1_29, r1_30, r1_31, r1_32, r1_33, trivial⟩
theorem r2 : AllL (fun c1 => AllL (fun c2 => run (.known 2) c1 c2 = true) pclasses) classes := by
  have h : classes = .nil :: .zero :: .no :: .long :: (List.map Cls.row [[], [1], [1, 1], [1, 1, 1], [1, 1, 1, 1], [1, 1, 1, 1, 1], [1, 1, 1, 1, 1, 1], [2], [2, 1], [2, 1, 1], [2, 1, 1, 1], [2, 1, 1, 1, 1], [2, 2], [2, 2, 1], [2, 2, 1, 1], [2, 2, 2], [3], [3, 1], [3, 1, 1], [3, 1, 1, 1], [3, 2], [3, 2, 1], [3, 3], [4], [4, 1], [4, 1, 1], [4, 2], [5], [5, 1], [6]]) := by unfold classes; rw [shares_eq]
  suffices h2 : AllL (fun c1 => AllL (fun c2 => run (.known 2) c1 c2 = true) pclasses) (.nil :: .zero :: .no :: .long :: (List.map Cls.row [[], [1], [1, 1], [1, 1, 1], [1, 1, 1, 1], [1, 1, 1, 1, 1], [1, 1, 1, 1, 1, 1], [2], [2, 1], [2, 1, 1], [2, 1, 1, 1], [2, 1, 1, 1, 1], [2, 2], [2, 2, 1], [2, 2, 1, 1], [2, 2, 2], [3], [3, 1], [3, 1, 1], [3, 1, 1, 1], [3, 2], [3, 2, 1], [3, 3], [4], [4, 1], [4, 1, 1], [4, 2], [5], [5, 1], [6]])) by
    rw [← h] at h2; exact h2
  exact ⟨r2_0, r2_1, r2_2, r2_3, r2_4, r2_5, r2_6, r2_7, r2_8, r2_9, r2_10, r2_11, r2_12, r2_13, r2_14, r2_15, r2_16, r2_17, r2_18, r2_19, r2_20, r2_21, r2_22, r2_23, r2_24, r2_25, r2_26, r2_27, r2_28, r2_29, r2_30, r2_31, r2_32, r2_33, trivial⟩
theorem r3 : AllL (fun c1 => AllL (fun c2 => run (.known 3) c1 c2 = true) pclasses) classes := by
  have h : classes = .nil :: .zero :: .no :: .long :: (List.map Cls.row [[], [1], [1, 1], [1, 1, 1], [1, 1, 1, 1], [1, 1, 1, 1, 1], [1, 1, 1, 1, 1, 1], [2], [2, 1], [2, 1, 1], [2, 1, 1, 1], [2, 1, 1, 1, 1], [2, 2], [2, 2, 1], [2, 2, 1, 1], [2, 2, 2], [3], [3, 1], [3, 1, 1], [3, 1, 1, 1], [3, 2], [3, 2, 1], [3, 3], [4], [4, 1], [4, 1, 1], [4, 2], [5], [5, 1], [6]]) := by unfold classes; rw [shares_eq]
  suffices h2 : AllL (fun c1 => AllL (fun c2 => run (.known 3) c1 c2 = true) pclasses) (.nil :: .zero :: .no :: .long :: (List.map Cls.row [[], [1], [1, 1], [1, 1, 1], [1, 1, 1, 1], [1, 1, 1, 1, 1], [1, 1, 1, 1, 1, 1], [2], [2, 1], [2, 1, 1], [2, 1, 1, 1], [2, 1, 1, 1, 1], [2, 2], [2, 2, 1], [2, 2, 1, 1], [2, 2, 2], [3], [3, 1], [3, 1, 1], [3, 1, 1, 1], [3, 2], [3, 2, 1], [3, 3], [4], [4, 1], [4, 1, 1], [4, 2], [5], [5, 1], [6]])) by
    rw [← h] at h2; exact h2
  exact ⟨r3_0, r3_1, r3_2, r3_3, r3_4, r3_5, r3_6, r3_7, r3_8, r3_9, r3_10, r3_11, r3_12, r3_13, r3_14, r3_15, r3_16, r3_17, r3_18, r3_19, r3_20, r3_21, r3_22, r3_23, r3_24, r3_25, r3_26, r3_27, r3_28, r3_29, r3_30, r3_31, r3_32, r3_33, trivial⟩
theorem r4 : AllL (fun c1 => AllL (fun c2 => run (.known 4) c1 c2 = true) pclasses) classes := by
  have h : classes = .nil :: .zero :: .no :: .long :: (List.map Cls.row [[], [1], [1, 1], [1, 1, 1], [1, 1, 1, 1], [1, 1, 1, 1, 1], [1, 1, 1, 1, 1, 1], [2], [2, 1], [2, 1, 1], [2, 1, 1, 1], [2, 1, 1, 1, 1], [2, 2], [2, 2, 1], [2, 2, 1, 1], [2, 2, 2], [3], [3, 1], [3, 1, 1], [3, 1, 1, 1], [3, 2], [3, 2, 1], [3, 3], [4], [4, 1], [4, 1, 1], [4, 2], [5], [5, 1], [6]]) := by unfold classes; rw [shares_eq]
  suffices h2 : AllL (fun c1 => AllL (fun c2 => run (.known 4) c1 c2 = true) pclasses) (.nil :: .zero :: .no :: .long :: (List.map Cls.row [[], [1], [1, 1], [1, 1, 1], [1, 1, 1, 1], [1, 1, 1, 1, 1], [1, 1, 1, 1, 1, 1], [2], [2, 1], [2, 1, 1], [2, 1, 1, 1], [2, 1, 1, 1, 1], [2, 2], [2, 2, 1], [2, 2, 1, 1], [2, 2, 2], [3], [3, 1], [3, 1, 1], [3, 1, 1, 1], [3, 2], [3, 2, 1], [3, 3], [4], [4, 1], [4, 1, 1], [4, 2], [5], [5, 1], [6]])) by
    rw [← h] at h2; exact h2
  exact ⟨r4_0, r4_1, r4_2, r4_3, r4_4, r4_5, r4_6, r4_7, r4_8, r4_9, r4_10, r4_11, r4_12, r4_13, r4_14, r4_15, r4_16, r4_17, r4_18, r4_19, r4_20, r4_21, r4_22, r4_23, r4_24, r4_25, r4_26, r4_27, r4_28, r4_29, r4_30, r4_31, r4_32, r4_33, trivial⟩
theorem r5 : AllL (fun c1 => AllL (fun c2 => run (.known 5) c1 c2 = true) pclasses) classes := by
  have h : classes = .nil :: .zero :: .no :: .long :: (List.map Cls.row [[], [1], [1, 1], [1, 1, 1], [1, 1, 1, 1], [1, 1, 1, 1, 1], [1, 1, 1, 1, 1, 1], [2], [2, 1], [2, 1, 1], [2, 1, 1, 1], [2, 1, 1, 1, 1], [2, 2], [2, 2, 1], [2, 2, 1, 1], [2, 2, 2], [3], [3, 1], [3, 1, 1], [3, 1, 1, 1], [3, 2], [3, 2, 1], [3, 3], [4], [4, 1], [4, 1, 1], [4, 2], [5], [5, 1], [6]]) := by unfold classes; rw [shares_eq]
  suffices h2 : AllL (fun c1 => AllL (fun c2 => run (.known 5) c1 c2 = true) pclasses) (.nil :: .zero :: .no :: .long :: (List.map Cls.row [[], [1], [1, 1], [1, 1, 1], [1, 1, 1, 1], [1, 1, 1, 1, 1], [1, 1, 1, 1, 1, 1], [2], [2, 1], [2, 1, 1], [2, 1, 1, 1], [2, 1, 1, 1, 1], [2, 2], [2, 2, 1], [2, 2, 1, 1], [2, 2, 2], [3], [3, 1], [3, 1, 1], [3, 1, 1, 1], [3, 2], [3, 2, 1], [3, 3], [4], [4, 1], [4, 1, 1], [4, 2], [5], [5, 1], [6]])) by
    rw [← h] at h2; exact h2
  exact ⟨r5_0, r5_1, r5_2, r5_3, r5_4, r5_5, r5_6, r5_7, r5_8, r5_9, r5_10, r5_11, r5_12, r5_13, r5_14, r5_15, r5_16, r5_17, r5_18, r5_19, r5_20, r5_21, r5_22, r5_23, r5_24, r5_25, r5_26, r5_27, r5_28, r5_29, r5_30, r5_31, r5_32, r5_33, trivial⟩
theorem r6 : AllL (fun c1 => AllL (fun c2 => run .other c1 c2 = true) pclasses) classes := by
  have h : classes = .nil :: .zero :: .no :: .long :: (List.map Cls.row [[], [1], [1, 1], [1, 1, 1], [1, 1, 1, 1], [1, 1, 1, 1, 1], [1, 1, 1, 1, 1, 1], [2], [2, 1], [2, 1, 1], [2, 1, 1, 1], [2, 1, 1, 1, 1], [2, 2], [2, 2, 1], [2, 2, 1, 1], [2, 2, 2], [3], [3, 1], [3, 1, 1], [3, 1, 1, 1], [3, 2], [3, 2, 1], [3, 3], [4], [4, 1], [4, 1, 1], [4, 2], [5], [5, 1], [6]]) := by unfold classes; rw [shares_eq]
  suffices h2 : AllL (fun c1 => AllL (fun c2 => run .other c1 c2 = true) pclasses) (.nil :: .zero :: .no :: .long :: (List.map Cls.row [[], [1], [1, 1], [1, 1, 1], [1, 1, 1, 1], [1, 1, 1, 1, 1], [1, 1, 1, 1, 1, 1], [2], [2, 1], [2, 1, 1], [2, 1, 1, 1], [2, 1, 1, 1, 1], [2, 2], [2, 2, 1], [2, 2, 1, 1], [2, 2, 2], [3], [3, 1], [3, 1, 1], [3, 1, 1, 1], [3, 2], [3, 2, 1], [3, 3], [4], [4, 1], [4, 1, 1], [4, 2], [5], [5, 1], [6]])) by
    rw [← h] at h2; exact h2
  exact ⟨r6_0, r6_1, r6_2, r6_3, r6_4, r6_5, r6_6, r6_7, r6_8, r6_9, r6_10, r6_11, r6_12, r6_13, r6_14, r6_15, r6_16, r6_17, r6_18, r6_19, r6_20, r6_21, r6_22, r6_23, r6_24, r6_25, r6_26, r6_27, r6_28, r6_29, r6_30, r6_31, r6_32, r6_33, trivial⟩
theorem r7 : AllL (fun c1 => AllL (fun c2 => run .long c1 c2 = true) pclasses) classes := by
  have h : classes = .nil :: .zero :: .no :: .long :: (List.map Cls.row [[], [1], [1, 1], [1, 1, 1], [1, 1, 1, 1], [1, 1, 1, 1, 1], [1, 1, 1, 1, 1, 1], [2], [2, 1], [2, 1, 1], [2, 1, 1, 1], [2, 1, 1, 1, 1], [2, 2], [2, 2, 1], [2, 2, 1, 1], [2, 2, 2], [3], [3, 1], [3, 1, 1], [3, 1, 1, 1], [3, 2], [3, 2, 1], [3, 3], [4], [4, 1], [4, 1, 1], [4, 2], [5], [5, 1], [6]]) := by unfold classes; rw [shares_eq]
  suffices h2 : AllL (fun c1 => AllL (fun c2 => run .long c1 c2 = true) pclasses) (.nil :: .zero :: .no :: .long :: (List.map Cls.row [[], [1], [1, 1], [1, 1, 1], [1, 1, 1, 1], [1, 1, 1, 1, 1], [1, 1, 1, 1, 1, 1], [2], [2, 1], [2, 1, 1], [2, 1, 1, 1], [2, 1, 1, 1, 1], [2, 2], [2, 2, 1], [2, 2, 1, 1], [2, 2, 2], [3], [3, 1], [3, 1, 1], [3, 1, 1, 1], [3, 2], [3, 2, 1], [3, 3], [4], [4, 1], [4, 1, 1], [4, 2], [5], [5, 1], [6]])) by
    rw [← h] at h2; exact h2
  exact ⟨r7_0, r7_1, r7_2, r7_3, r7_4, r7_5, r7_6, r7_7, r7_8, r7_9, r7_10, r7_11, r7_12, r7_13, r7_14, r7_15, r7_16, r7_17, r7_18, r7_19, r7_20, r7_21, r7_22, r7_23, r7_24, r7_25, r7_26, r7_27, r7_28, r7_29, r7_30, r7_31, r7_32, r7_33, trivial⟩
theorem rows : AllL (fun c0 => AllL (fun c1 => AllL (fun c2 => run c0 c1 c2 = true) pclasses) classes) sclasses := ⟨r0, r1, r2, r3, r4, r5, r6, r7, trivial⟩
end Go.Proofs.Ythcdiaahpodkoae.fnExactAtShareRuns
