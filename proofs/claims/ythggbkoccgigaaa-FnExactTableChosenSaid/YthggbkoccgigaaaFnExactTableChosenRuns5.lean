/- The runs of FnExactTableChosen, part 5. -/
import Derived.Test.YthggbkoccgigaaaEngZb
import Derived.Test.YthggbkoccgigaaaChosenZ
import Derived.Test.YthggbkoccgigaaaProg
namespace Go.Proofs.Ythggbkoccgigaaa.fnExactTableChosenRuns
set_option linter.unusedVariables false
set_option linter.unusedSectionVars false
set_option linter.unusedSimpArgs false
open Go.Eng Go.Proofs.Ythggbkoccgigaaa.tabChosen
set_option maxRecDepth 100000 in
theorem r5_0 : run (.row [1]) .nil = true := by kernel_rfl
set_option maxRecDepth 100000 in
theorem r5_1 : run (.row [1]) .zero = true := by kernel_rfl
set_option maxRecDepth 100000 in
theorem r5_2 : run (.row [1]) .no = true := by kernel_rfl
set_option maxRecDepth 100000 in
theorem r5_3 : run (.row [1]) .long = true := by kernel_rfl
set_option maxRecDepth 100000 in
theorem r5_4 : run (.row [1]) (.row []) = true := by kernel_rfl
set_option maxRecDepth 100000 in
theorem r5_5 : run (.row [1]) (.row [1]) = true := by kernel_rfl
set_option maxRecDepth 100000 in
theorem r5_6 : run (.row [1]) (.row [1, 1]) = true := by kernel_rfl
set_option maxRecDepth 100000 in
theorem r5_7 : run (.row [1]) (.row [1, 1, 1]) = true := by kernel_rfl
set_option maxRecDepth 100000 in
theorem r5_8 : run (.row [1]) (.row [1, 1, 1, 1]) = true := by kernel_rfl
set_option maxRecDepth 100000 in
theorem r5_9 : run (.row [1]) (.row [1, 1, 1, 1, 1]) = true := by kernel_rfl
set_option maxRecDepth 100000 in
theorem r5_10 : run (.row [1]) (.row [1, 1, 1, 1, 1, 1]) = true := by kernel_rfl
set_option maxRecDepth 100000 in
theorem r5_11 : run (.row [1]) (.row [2]) = true := by kernel_rfl
set_option maxRecDepth 100000 in
theorem r5_12 : run (.row [1]) (.row [2, 1]) = true := by kernel_rfl
set_option maxRecDepth 100000 in
theorem r5_13 : run (.row [1]) (.row [2, 1, 1]) = true := by kernel_rfl
set_option maxRecDepth 100000 in
theorem r5_14 : run (.row [1]) (.row [2, 1, 1, 1]) = true := by kernel_rfl
set_option maxRecDepth 100000 in
theorem r5_15 : run (.row [1]) (.row [2, 1, 1, 1, 1]) = true := by kernel_rfl
set_option maxRecDepth 100000 in
theorem r5_16 : run (.row [1]) (.row [2, 2]) = true := by kernel_rfl
set_option maxRecDepth 100000 in
theorem r5_17 : run (.row [1]) (.row [2, 2, 1]) = true := by kernel_rfl
set_option maxRecDepth 100000 in
theorem r5_18 : run (.row [1]) (.row [2, 2, 1, 1]) = true := by kernel_rfl
set_option maxRecDepth 100000 in
theorem r5_19 : run (.row [1]) (.row [2, 2, 2]) = true := by kernel_rfl
set_option maxRecDepth 100000 in
theorem r5_20 : run (.row [1]) (.row [3]) = true := by kernel_rfl
set_option maxRecDepth 100000 in
theorem r5_21 : run (.row [1]) (.row [3, 1]) = true := by kernel_rfl
set_option maxRecDepth 100000 in
theorem r5_22 : run (.row [1]) (.row [3, 1, 1]) = true := by kernel_rfl
set_option maxRecDepth 100000 in
theorem r5_23 : run (.row [1]) (.row [3, 1, 1, 1]) = true := by kernel_rfl
set_option maxRecDepth 100000 in
theorem r5_24 : run (.row [1]) (.row [3, 2]) = true := by kernel_rfl
set_option maxRecDepth 100000 in
theorem r5_25 : run (.row [1]) (.row [3, 2, 1]) = true := by kernel_rfl
set_option maxRecDepth 100000 in
theorem r5_26 : run (.row [1]) (.row [3, 3]) = true := by kernel_rfl
set_option maxRecDepth 100000 in
theorem r5_27 : run (.row [1]) (.row [4]) = true := by kernel_rfl
set_option maxRecDepth 100000 in
theorem r5_28 : run (.row [1]) (.row [4, 1]) = true := by kernel_rfl
set_option maxRecDepth 100000 in
theorem r5_29 : run (.row [1]) (.row [4, 1, 1]) = true := by kernel_rfl
set_option maxRecDepth 100000 in
theorem r5_30 : run (.row [1]) (.row [4, 2]) = true := by kernel_rfl
set_option maxRecDepth 100000 in
theorem r5_31 : run (.row [1]) (.row [5]) = true := by kernel_rfl
set_option maxRecDepth 100000 in
theorem r5_32 : run (.row [1]) (.row [5, 1]) = true := by kernel_rfl
set_option maxRecDepth 100000 in
theorem r5_33 : run (.row [1]) (.row [6]) = true := by kernel_rfl
theorem r5 : AllL (fun c => run (.row [1]) c = true) classes := by
  unfold classes
  rw [shares_eq]
  exact ⟨r5_0, r5_1, r5_2, r5_3, r5_4, r5_5, r5_6, r5_7, r5_8, r5_9, r5_10, r5_11, r5_12, r5_13, r5_14, r5_15, r5_16, r5_17, r5_18, r5_19, r5_20, r5_21, r5_22, r5_23, r5_24, r5_25, r5_26, r5_27, r5_28, r5_29, r5_30, r5_31, r5_32, r5_33, trivial⟩
set_option maxRecDepth 100000 in
theorem r11_0 : run (.row [2]) .nil = true := by kernel_rfl
set_option maxRecDepth 100000 in
theorem r11_1 : run (.row [2]) .zero = true := by kernel_rfl
set_option maxRecDepth 100000 in
theorem r11_2 : run (.row [2]) .no = true := by kernel_rfl
set_option maxRecDepth 100000 in
theorem r11_3 : run (.row [2]) .long = true := by kernel_rfl
set_option maxRecDepth 100000 in
theorem r11_4 : run (.row [2]) (.row []) = true := by kernel_rfl
set_option maxRecDepth 100000 in
theorem r11_5 : run (.row [2]) (.row [1]) = true := by kernel_rfl
set_option maxRecDepth 100000 in
theorem r11_6 : run (.row [2]) (.row [1, 1]) = true := by kernel_rfl
set_option maxRecDepth 100000 in
theorem r11_7 : run (.row [2]) (.row [1, 1, 1]) = true := by kernel_rfl
set_option maxRecDepth 100000 in
theorem r11_8 : run (.row [2]) (.row [1, 1, 1, 1]) = true := by kernel_rfl
set_option maxRecDepth 100000 in
theorem r11_9 : run (.row [2]) (.row [1, 1, 1, 1, 1]) = true := by kernel_rfl
set_option maxRecDepth 100000 in
theorem r11_10 : run (.row [2]) (.row [1, 1, 1, 1, 1, 1]) = true := by kernel_rfl
set_option maxRecDepth 100000 in
theorem r11_11 : run (.row [2]) (.row [2]) = true := by kernel_rfl
set_option maxRecDepth 100000 in
theorem r11_12 : run (.row [2]) (.row [2, 1]) = true := by kernel_rfl
set_option maxRecDepth 100000 in
theorem r11_13 : run (.row [2]) (.row [2, 1, 1]) = true := by kernel_rfl
set_option maxRecDepth 100000 in
theorem r11_14 : run (.row [2]) (.row [2, 1, 1, 1]) = true := by kernel_rfl
set_option maxRecDepth 100000 in
theorem r11_15 : run (.row [2]) (.row [2, 1, 1, 1, 1]) = true := by kernel_rfl
set_option maxRecDepth 100000 in
theorem r11_16 : run (.row [2]) (.row [2, 2]) = true := by kernel_rfl
set_option maxRecDepth 100000 in
theorem r11_17 : run (.row [2]) (.row [2, 2, 1]) = true := by kernel_rfl
set_option maxRecDepth 100000 in
theorem r11_18 : run (.row [2]) (.row [2, 2, 1, 1]) = true := by kernel_rfl
set_option maxRecDepth 100000 in
theorem r11_19 : run (.row [2]) (.row [2, 2, 2]) = true := by kernel_rfl
set_option maxRecDepth 100000 in
theorem r11_20 : run (.row [2]) (.row [3]) = true := by kernel_rfl
set_option maxRecDepth 100000 in
theorem r11_21 : run (.row [2]) (.row [3, 1]) = true := by kernel_rfl
set_option maxRecDepth 100000 in
theorem r11_22 : run (.row [2]) (.row [3, 1, 1]) = true := by kernel_rfl
set_option maxRecDepth 100000 in
theorem r11_23 : run (.row [2]) (.row [3, 1, 1, 1]) = true := by kernel_rfl
set_option maxRecDepth 100000 in
theorem r11_24 : run (.row [2]) (.row [3, 2]) = true := by kernel_rfl
set_option maxRecDepth 100000 in
theorem r11_25 : run (.row [2]) (.row [3, 2, 1]) = true := by kernel_rfl
set_option maxRecDepth 100000 in
theorem r11_26 : run (.row [2]) (.row [3, 3]) = true := by kernel_rfl
set_option maxRecDepth 100000 in
theorem r11_27 : run (.row [2]) (.row [4]) = true := by kernel_rfl
set_option maxRecDepth 100000 in
theorem r11_28 : run (.row [2]) (.row [4, 1]) = true := by kernel_rfl
set_option maxRecDepth 100000 in
theorem r11_29 : run (.row [2]) (.row [4, 1, 1]) = true := by kernel_rfl
set_option maxRecDepth 100000 in
theorem r11_30 : run (.row [2]) (.row [4, 2]) = true := by kernel_rfl
set_option maxRecDepth 100000 in
theorem r11_31 : run (.row [2]) (.row [5]) = true := by kernel_rfl
set_option maxRecDepth 100000 in
theorem r11_32 : run (.row [2]) (.row [5, 1]) = true := by kernel_rfl
set_option maxRecDepth 100000 in
theorem r11_33 : run (.row [2]) (.row [6]) = true := by kernel_rfl
theorem r11 : AllL (fun c => run (.row [2]) c = true) classes := by
  unfold classes
  rw [shares_eq]
  exact ⟨r11_0, r11_1, r11_2, r11_3, r11_4, r11_5, r11_6, r11_7, r11_8, r11_9, r11_10, r11_11, r11_12, r11_13, r11_14, r11_15, r11_16, r11_17, r11_18, r11_19, r11_20, r11_21, r11_22, r11_23, r11_24, r11_25, r11_26, r11_27, r11_28, r11_29, r11_30, r11_31, r11_32, r11_33, trivial⟩
set_option maxRecDepth 100000 in
theorem r17_0 : run (.row [2, 2, 1]) .nil = true := by kernel_rfl
set_option maxRecDepth 100000 in
theorem r17_1 : run (.row [2, 2, 1]) .zero = true := by kernel_rfl
set_option maxRecDepth 100000 in
theorem r17_2 : run (.row [2, 2, 1]) .no = true := by kernel_rfl
set_option maxRecDepth 100000 in
theorem r17_3 : run (.row [2, 2, 1]) .long = true := by kernel_rfl
set_option maxRecDepth 100000 in
theorem r17_4 : run (.row [2, 2, 1]) (.row []) = true := by kernel_rfl
set_option maxRecDepth 100000 in
theorem r17_5 : run (.row [2, 2, 1]) (.row [1]) = true := by kernel_rfl
set_option maxRecDepth 100000 in
theorem r17_6 : run (.row [2, 2, 1]) (.row [1, 1]) = true := by kernel_rfl
set_option maxRecDepth 100000 in
theorem r17_7 : run (.row [2, 2, 1]) (.row [1, 1, 1]) = true := by kernel_rfl
set_option maxRecDepth 100000 in
theorem r17_8 : run (.row [2, 2, 1]) (.row [1, 1, 1, 1]) = true := by kernel_rfl
set_option maxRecDepth 100000 in
theorem r17_9 : run (.row [2, 2, 1]) (.row [1, 1, 1, 1, 1]) = true := by kernel_rfl
set_option maxRecDepth 100000 in
theorem r17_10 : run (.row [2, 2, 1]) (.row [1, 1, 1, 1, 1, 1]) = true := by kernel_rfl
set_option maxRecDepth 100000 in
theorem r17_11 : run (.row [2, 2, 1]) (.row [2]) = true := by kernel_rfl
set_option maxRecDepth 100000 in
theorem r17_12 : run (.row [2, 2, 1]) (.row [2, 1]) = true := by kernel_rfl
set_option maxRecDepth 100000 in
theorem r17_13 : run (.row [2, 2, 1]) (.row [2, 1, 1]) = true := by kernel_rfl
set_option maxRecDepth 100000 in
theorem r17_14 : run (.row [2, 2, 1]) (.row [2, 1, 1, 1]) = true := by kernel_rfl
set_option maxRecDepth 100000 in
theorem r17_15 : run (.row [2, 2, 1]) (.row [2, 1, 1, 1, 1]) = true := by kernel_rfl
set_option maxRecDepth 100000 in
theorem r17_16 : run (.row [2, 2, 1]) (.row [2, 2]) = true := by kernel_rfl
set_option maxRecDepth 100000 in
theorem r17_17 : run (.row [2, 2, 1]) (.row [2, 2, 1]) = true := by kernel_rfl
set_option maxRecDepth 100000 in
theorem r17_18 : run (.row [2, 2, 1]) (.row [2, 2, 1, 1]) = true := by kernel_rfl
set_option maxRecDepth 100000 in
theorem r17_19 : run (.row [2, 2, 1]) (.row [2, 2, 2]) = true := by kernel_rfl
set_option maxRecDepth 100000 in
theorem r17_20 : run (.row [2, 2, 1]) (.row [3]) = true := by kernel_rfl
set_option maxRecDepth 100000 in
theorem r17_21 : run (.row [2, 2, 1]) (.row [3, 1]) = true := by kernel_rfl
set_option maxRecDepth 100000 in
theorem r17_22 : run (.row [2, 2, 1]) (.row [3, 1, 1]) = true := by kernel_rfl
set_option maxRecDepth 100000 in
theorem r17_23 : run (.row [2, 2, 1]) (.row [3, 1, 1, 1]) = true := by kernel_rfl
set_option maxRecDepth 100000 in
theorem r17_24 : run (.row [2, 2, 1]) (.row [3, 2]) = true := by kernel_rfl
set_option maxRecDepth 100000 in
theorem r17_25 : run (.row [2, 2, 1]) (.row [3, 2, 1]) = true := by kernel_rfl
set_option maxRecDepth 100000 in
theorem r17_26 : run (.row [2, 2, 1]) (.row [3, 3]) = true := by kernel_rfl
set_option maxRecDepth 100000 in
theorem r17_27 : run (.row [2, 2, 1]) (.row [4]) = true := by kernel_rfl
set_option maxRecDepth 100000 in
theorem r17_28 : run (.row [2, 2, 1]) (.row [4, 1]) = true := by kernel_rfl
set_option maxRecDepth 100000 in
theorem r17_29 : run (.row [2, 2, 1]) (.row [4, 1, 1]) = true := by kernel_rfl
set_option maxRecDepth 100000 in
theorem r17_30 : run (.row [2, 2, 1]) (.row [4, 2]) = true := by kernel_rfl
set_option maxRecDepth 100000 in
theorem r17_31 : run (.row [2, 2, 1]) (.row [5]) = true := by kernel_rfl
set_option maxRecDepth 100000 in
theorem r17_32 : run (.row [2, 2, 1]) (.row [5, 1]) = true := by kernel_rfl
set_option maxRecDepth 100000 in
theorem r17_33 : run (.row [2, 2, 1]) (.row [6]) = true := by kernel_rfl
theorem r17 : AllL (fun c => run (.row [2, 2, 1]) c = true) classes := by
  unfold classes
  rw [shares_eq]
  exact ⟨r17_0, r17_1, r17_2, r17_3, r17_4, r17_5, r17_6, r17_7, r17_8, r17_9, r17_10, r17_11, r17_12, r17_13, r17_14, r17_15, r17_16, r17_17, r17_18, r17_19, r17_20, r17_21, r17_22, r17_23, r17_24, r17_25, r17_26, r17_27, r17_28, r17_29, r17_30, r17_31, r17_32, r17_33, trivial⟩
set_option maxRecDepth 100000 in
theorem r23_0 : run (.row [3, 1, 1, 1]) .nil = true := by kernel_rfl
set_option maxRecDepth 100000 in
theorem r23_1 : run (.row [3, 1, 1, 1]) .zero = true := by kernel_rfl
set_option maxRecDepth 100000 in
theorem r23_2 : run (.row [3, 1, 1, 1]) .no = true := by kernel_rfl
set_option maxRecDepth 100000 in
theorem r23_3 : run (.row [3, 1, 1, 1]) .long = true := by kernel_rfl
set_option maxRecDepth 100000 in
theorem r23_4 : run (.row [3, 1, 1, 1]) (.row []) = true := by kernel_rfl
set_option maxRecDepth 100000 in
theorem r23_5 : run (.row [3, 1, 1, 1]) (.row [1]) = true := by kernel_rfl
set_option maxRecDepth 100000 in
theorem r23_6 : run (.row [3, 1, 1, 1]) (.row [1, 1]) = true := by kernel_rfl
set_option maxRecDepth 100000 in
theorem r23_7 : run (.row [3, 1, 1, 1]) (.row [1, 1, 1]) = true := by kernel_rfl
set_option maxRecDepth 100000 in
theorem r23_8 : run (.row [3, 1, 1, 1]) (.row [1, 1, 1, 1]) = true := by kernel_rfl
set_option maxRecDepth 100000 in
theorem r23_9 : run (.row [3, 1, 1, 1]) (.row [1, 1, 1, 1, 1]) = true := by kernel_rfl
set_option maxRecDepth 100000 in
theorem r23_10 : run (.row [3, 1, 1, 1]) (.row [1, 1, 1, 1, 1, 1]) = true := by kernel_rfl
set_option maxRecDepth 100000 in
theorem r23_11 : run (.row [3, 1, 1, 1]) (.row [2]) = true := by kernel_rfl
set_option maxRecDepth 100000 in
theorem r23_12 : run (.row [3, 1, 1, 1]) (.row [2, 1]) = true := by kernel_rfl
set_option maxRecDepth 100000 in
theorem r23_13 : run (.row [3, 1, 1, 1]) (.row [2, 1, 1]) = true := by kernel_rfl
set_option maxRecDepth 100000 in
theorem r23_14 : run (.row [3, 1, 1, 1]) (.row [2, 1, 1, 1]) = true := by kernel_rfl
set_option maxRecDepth 100000 in
theorem r23_15 : run (.row [3, 1, 1, 1]) (.row [2, 1, 1, 1, 1]) = true := by kernel_rfl
set_option maxRecDepth 100000 in
theorem r23_16 : run (.row [3, 1, 1, 1]) (.row [2, 2]) = true := by kernel_rfl
set_option maxRecDepth 100000 in
theorem r23_17 : run (.row [3, 1, 1, 1]) (.row [2, 2, 1]) = true := by kernel_rfl
set_option maxRecDepth 100000 in
theorem r23_18 : run (.row [3, 1, 1, 1]) (.row [2, 2, 1, 1]) = true := by kernel_rfl
set_option maxRecDepth 100000 in
theorem r23_19 : run (.row [3, 1, 1, 1]) (.row [2, 2, 2]) = true := by kernel_rfl
set_option maxRecDepth 100000 in
theorem r23_20 : run (.row [3, 1, 1, 1]) (.row [3]) = true := by kernel_rfl
set_option maxRecDepth 100000 in
theorem r23_21 : run (.row [3, 1, 1, 1]) (.row [3, 1]) = true := by kernel_rfl
set_option maxRecDepth 100000 in
theorem r23_22 : run (.row [3, 1, 1, 1]) (.row [3, 1, 1]) = true := by kernel_rfl
set_option maxRecDepth 100000 in
theorem r23_23 : run (.row [3, 1, 1, 1]) (.row [3, 1, 1, 1]) = true := by kernel_rfl
set_option maxRecDepth 100000 in
theorem r23_24 : run (.row [3, 1, 1, 1]) (.row [3, 2]) = true := by kernel_rfl
set_option maxRecDepth 100000 in
theorem r23_25 : run (.row [3, 1, 1, 1]) (.row [3, 2, 1]) = true := by kernel_rfl
set_option maxRecDepth 100000 in
theorem r23_26 : run (.row [3, 1, 1, 1]) (.row [3, 3]) = true := by kernel_rfl
set_option maxRecDepth 100000 in
theorem r23_27 : run (.row [3, 1, 1, 1]) (.row [4]) = true := by kernel_rfl
set_option maxRecDepth 100000 in
theorem r23_28 : run (.row [3, 1, 1, 1]) (.row [4, 1]) = true := by kernel_rfl
set_option maxRecDepth 100000 in
theorem r23_29 : run (.row [3, 1, 1, 1]) (.row [4, 1, 1]) = true := by kernel_rfl
set_option maxRecDepth 100000 in
theorem r23_30 : run (.row [3, 1, 1, 1]) (.row [4, 2]) = true := by kernel_rfl
set_option maxRecDepth 100000 in
theorem r23_31 : run (.row [3, 1, 1, 1]) (.row [5]) = true := by kernel_rfl
set_option maxRecDepth 100000 in
theorem r23_32 : run (.row [3, 1, 1, 1]) (.row [5, 1]) = true := by kernel_rfl
set_option maxRecDepth 100000 in
theorem r23_33 : run (.row [3, 1, 1, 1]) (.row [6]) = true := by kernel_rfl
theorem r23 : AllL (fun c => run (.row [3, 1, 1, 1]) c = true) classes := by
  unfold classes
  rw [shares_eq]
  exact ⟨r23_0, r23_1, r23_2, r23_3, r23_4, r23_5, r23_6, r23_7, r23_8, r23_9, r23_10, r23_11, r23_12, r23_13, r23_14, r23_15, r23_16, r23_17, r23_18, r23_19, r23_20, r23_21, r23_22, r23_23, r23_24, r23_25, r23_26, r23_27, r23_28, r23_29, r23_30, r23_31, r23_32, r23_33, trivial⟩
set_option maxRecDepth 100000 in
theorem r29_0 : run (.row [4, 1, 1]) .nil = true := by kernel_rfl
set_option maxRecDepth 100000 in
theorem r29_1 : run (.row [4, 1, 1]) .zero = true := by kernel_rfl
set_option maxRecDepth 100000 in
theorem r29_2 : run (.row [4, 1, 1]) .no = true := by kernel_rfl
set_option maxRecDepth 100000 in
theorem r29_3 : run (.row [4, 1, 1]) .long = true := by kernel_rfl
set_option maxRecDepth 100000 in
theorem r29_4 : run (.row [4, 1, 1]) (.row []) = true := by kernel_rfl
set_option maxRecDepth 100000 in
theorem r29_5 : run (.row [4, 1, 1]) (.row [1]) = true := by kernel_rfl
set_option maxRecDepth 100000 in
theorem r29_6 : run (.row [4, 1, 1]) (.row [1, 1]) = true := by kernel_rfl
set_option maxRecDepth 100000 in
theorem r29_7 : run (.row [4, 1, 1]) (.row [1, 1, 1]) = true := by kernel_rfl
set_option maxRecDepth 100000 in
theorem r29_8 : run (.row [4, 1, 1]) (.row [1, 1, 1, 1]) = true := by kernel_rfl
set_option maxRecDepth 100000 in
theorem r29_9 : run (.row [4, 1, 1]) (.row [1, 1, 1, 1, 1]) = true := by kernel_rfl
set_option maxRecDepth 100000 in
theorem r29_10 : run (.row [4, 1, 1]) (.row [1, 1, 1, 1, 1, 1]) = true := by kernel_rfl
set_option maxRecDepth 100000 in
theorem r29_11 : run (.row [4, 1, 1]) (.row [2]) = true := by kernel_rfl
set_option maxRecDepth 100000 in
theorem r29_12 : run (.row [4, 1, 1]) (.row [2, 1]) = true := by kernel_rfl
set_option maxRecDepth 100000 in
theorem r29_13 : run (.row [4, 1, 1]) (.row [2, 1, 1]) = true := by kernel_rfl
set_option maxRecDepth 100000 in
theorem r29_14 : run (.row [4, 1, 1]) (.row [2, 1, 1, 1]) = true := by kernel_rfl
set_option maxRecDepth 100000 in
theorem r29_15 : run (.row [4, 1, 1]) (.row [2, 1, 1, 1, 1]) = true := by kernel_rfl
set_option maxRecDepth 100000 in
theorem r29_16 : run (.row [4, 1, 1]) (.row [2, 2]) = true := by kernel_rfl
set_option maxRecDepth 100000 in
theorem r29_17 : run (.row [4, 1, 1]) (.row [2, 2, 1]) = true := by kernel_rfl
set_option maxRecDepth 100000 in
theorem r29_18 : run (.row [4, 1, 1]) (.row [2, 2, 1, 1]) = true := by kernel_rfl
set_option maxRecDepth 100000 in
theorem r29_19 : run (.row [4, 1, 1]) (.row [2, 2, 2]) = true := by kernel_rfl
set_option maxRecDepth 100000 in
theorem r29_20 : run (.row [4, 1, 1]) (.row [3]) = true := by kernel_rfl
set_option maxRecDepth 100000 in
theorem r29_21 : run (.row [4, 1, 1]) (.row [3, 1]) = true := by kernel_rfl
set_option maxRecDepth 100000 in
theorem r29_22 : run (.row [4, 1, 1]) (.row [3, 1, 1]) = true := by kernel_rfl
set_option maxRecDepth 100000 in
theorem r29_23 : run (.row [4, 1, 1]) (.row [3, 1, 1, 1]) = true := by kernel_rfl
set_option maxRecDepth 100000 in
theorem r29_24 : run (.row [4, 1, 1]) (.row [3, 2]) = true := by kernel_rfl
set_option maxRecDepth 100000 in
theorem r29_25 : run (.row [4, 1, 1]) (.row [3, 2, 1]) = true := by kernel_rfl
set_option maxRecDepth 100000 in
theorem r29_26 : run (.row [4, 1, 1]) (.row [3, 3]) = true := by kernel_rfl
set_option maxRecDepth 100000 in
theorem r29_27 : run (.row [4, 1, 1]) (.row [4]) = true := by kernel_rfl
set_option maxRecDepth 100000 in
theorem r29_28 : run (.row [4, 1, 1]) (.row [4, 1]) = true := by kernel_rfl
set_option maxRecDepth 100000 in
theorem r29_29 : run (.row [4, 1, 1]) (.row [4, 1, 1]) = true := by kernel_rfl
set_option maxRecDepth 100000 in
theorem r29_30 : run (.row [4, 1, 1]) (.row [4, 2]) = true := by kernel_rfl
set_option maxRecDepth 100000 in
theorem r29_31 : run (.row [4, 1, 1]) (.row [5]) = true := by kernel_rfl
set_option maxRecDepth 100000 in
theorem r29_32 : run (.row [4, 1, 1]) (.row [5, 1]) = true := by kernel_rfl
set_option maxRecDepth 100000 in
theorem r29_33 : run (.row [4, 1, 1]) (.row [6]) = true := by kernel_rfl
theorem r29 : AllL (fun c => run (.row [4, 1, 1]) c = true) classes := by
  unfold classes
  rw [shares_eq]
  exact ⟨r29_0, r29_1, r29_2, r29_3, r29_4, r29_5, r29_6, r29_7, r29_8, r29_9, r29_10, r29_11, r29_12, r29_13, r29_14, r29_15, r29_16, r29_17, r29_18, r29_19, r29_20, r29_21, r29_22, r29_23, r29_24, r29_25, r29_26, r29_27, r29_28, r29_29, r29_30, r29_31, r29_32, r29_33, trivial⟩
end Go.Proofs.Ythggbkoccgigaaa.fnExactTableChosenRuns
