/- The runs of FnExactTableChosen, part 4. -/
import Derived.Test.YthggbkoccgigaaaEngZb
import Derived.Test.YthggbkoccgigaaaChosenZ
import Derived.Test.YthggbkoccgigaaaProg
namespace Go.Proofs.Ythggbkoccgigaaa.fnExactTableChosenRuns
set_option linter.unusedVariables false
set_option linter.unusedSectionVars false
set_option linter.unusedSimpArgs false
open Go.Eng Go.Proofs.Ythggbkoccgigaaa.tabChosen
set_option maxRecDepth 100000 in
theorem r4_0 : run (.row []) .nil = true := by kernel_rfl
set_option maxRecDepth 100000 in
theorem r4_1 : run (.row []) .zero = true := by kernel_rfl
set_option maxRecDepth 100000 in
theorem r4_2 : run (.row []) .no = true := by kernel_rfl
set_option maxRecDepth 100000 in
theorem r4_3 : run (.row []) .long = true := by kernel_rfl
set_option maxRecDepth 100000 in
theorem r4_4 : run (.row []) (.row []) = true := by kernel_rfl
set_option maxRecDepth 100000 in
theorem r4_5 : run (.row []) (.row [1]) = true := by kernel_rfl
set_option maxRecDepth 100000 in
theorem r4_6 : run (.row []) (.row [1, 1]) = true := by kernel_rfl
set_option maxRecDepth 100000 in
theorem r4_7 : run (.row []) (.row [1, 1, 1]) = true := by kernel_rfl
set_option maxRecDepth 100000 in
theorem r4_8 : run (.row []) (.row [1, 1, 1, 1]) = true := by kernel_rfl
set_option maxRecDepth 100000 in
theorem r4_9 : run (.row []) (.row [1, 1, 1, 1, 1]) = true := by kernel_rfl
set_option maxRecDepth 100000 in
theorem r4_10 : run (.row []) (.row [1, 1, 1, 1, 1, 1]) = true := by kernel_rfl
set_option maxRecDepth 100000 in
theorem r4_11 : run (.row []) (.row [2]) = true := by kernel_rfl
set_option maxRecDepth 100000 in
theorem r4_12 : run (.row []) (.row [2, 1]) = true := by kernel_rfl
set_option maxRecDepth 100000 in
theorem r4_13 : run (.row []) (.row [2, 1, 1]) = true := by kernel_rfl
set_option maxRecDepth 100000 in
theorem r4_14 : run (.row []) (.row [2, 1, 1, 1]) = true := by kernel_rfl
set_option maxRecDepth 100000 in
theorem r4_15 : run (.row []) (.row [2, 1, 1, 1, 1]) = true := by kernel_rfl
set_option maxRecDepth 100000 in
theorem r4_16 : run (.row []) (.row [2, 2]) = true := by kernel_rfl
set_option maxRecDepth 100000 in
theorem r4_17 : run (.row []) (.row [2, 2, 1]) = true := by kernel_rfl
set_option maxRecDepth 100000 in
theorem r4_18 : run (.row []) (.row [2, 2, 1, 1]) = true := by kernel_rfl
set_option maxRecDepth 100000 in
theorem r4_19 : run (.row []) (.row [2, 2, 2]) = true := by kernel_rfl
set_option maxRecDepth 100000 in
theorem r4_20 : run (.row []) (.row [3]) = true := by kernel_rfl
set_option maxRecDepth 100000 in
theorem r4_21 : run (.row []) (.row [3, 1]) = true := by kernel_rfl
set_option maxRecDepth 100000 in
theorem r4_22 : run (.row []) (.row [3, 1, 1]) = true := by kernel_rfl
set_option maxRecDepth 100000 in
theorem r4_23 : run (.row []) (.row [3, 1, 1, 1]) = true := by kernel_rfl
set_option maxRecDepth 100000 in
theorem r4_24 : run (.row []) (.row [3, 2]) = true := by kernel_rfl
set_option maxRecDepth 100000 in
theorem r4_25 : run (.row []) (.row [3, 2, 1]) = true := by kernel_rfl
set_option maxRecDepth 100000 in
theorem r4_26 : run (.row []) (.row [3, 3]) = true := by kernel_rfl
set_option maxRecDepth 100000 in
theorem r4_27 : run (.row []) (.row [4]) = true := by kernel_rfl
set_option maxRecDepth 100000 in
theorem r4_28 : run (.row []) (.row [4, 1]) = true := by kernel_rfl
set_option maxRecDepth 100000 in
theorem r4_29 : run (.row []) (.row [4, 1, 1]) = true := by kernel_rfl
set_option maxRecDepth 100000 in
theorem r4_30 : run (.row []) (.row [4, 2]) = true := by kernel_rfl
set_option maxRecDepth 100000 in
theorem r4_31 : run (.row []) (.row [5]) = true := by kernel_rfl
set_option maxRecDepth 100000 in
theorem r4_32 : run (.row []) (.row [5, 1]) = true := by kernel_rfl
set_option maxRecDepth 100000 in
theorem r4_33 : run (.row []) (.row [6]) = true := by kernel_rfl
theorem r4 : AllL (fun c => run (.row []) c = true) classes := by
  unfold classes
  rw [shares_eq]
  exact ⟨r4_0, r4_1, r4_2, r4_3, r4_4, r4_5, r4_6, r4_7, r4_8, r4_9, r4_10, r4_11, r4_12, r4_13, r4_14, r4_15, r4_16, r4_17, r4_18, r4_19, r4_20, r4_21, r4_22, r4_23, r4_24, r4_25, r4_26, r4_27, r4_28, r4_29, r4_30, r4_31, r4_32, r4_33, trivial⟩
set_option maxRecDepth 100000 in
theorem r10_0 : run (.row [1, 1, 1, 1, 1, 1]) .nil = true := by kernel_rfl
set_option maxRecDepth 100000 in
theorem r10_1 : run (.row [1, 1, 1, 1, 1, 1]) .zero = true := by kernel_rfl
set_option maxRecDepth 100000 in
theorem r10_2 : run (.row [1, 1, 1, 1, 1, 1]) .no = true := by kernel_rfl
set_option maxRecDepth 100000 in
theorem r10_3 : run (.row [1, 1, 1, 1, 1, 1]) .long = true := by kernel_rfl
set_option maxRecDepth 100000 in
theorem r10_4 : run (.row [1, 1, 1, 1, 1, 1]) (.row []) = true := by kernel_rfl
set_option maxRecDepth 100000 in
theorem r10_5 : run (.row [1, 1, 1, 1, 1, 1]) (.row [1]) = true := by kernel_rfl
set_option maxRecDepth 100000 in
theorem r10_6 : run (.row [1, 1, 1, 1, 1, 1]) (.row [1, 1]) = true := by kernel_rfl
set_option maxRecDepth 100000 in
theorem r10_7 : run (.row [1, 1, 1, 1, 1, 1]) (.row [1, 1, 1]) = true := by kernel_rfl
set_option maxRecDepth 100000 in
theorem r10_8 : run (.row [1, 1, 1, 1, 1, 1]) (.row [1, 1, 1, 1]) = true := by kernel_rfl
set_option maxRecDepth 100000 in
theorem r10_9 : run (.row [1, 1, 1, 1, 1, 1]) (.row [1, 1, 1, 1, 1]) = true := by kernel_rfl
set_option maxRecDepth 100000 in
theorem r10_10 : run (.row [1, 1, 1, 1, 1, 1]) (.row [1, 1, 1, 1, 1, 1]) = true := by kernel_rfl
set_option maxRecDepth 100000 in
theorem r10_11 : run (.row [1, 1, 1, 1, 1, 1]) (.row [2]) = true := by kernel_rfl
set_option maxRecDepth 100000 in
theorem r10_12 : run (.row [1, 1, 1, 1, 1, 1]) (.row [2, 1]) = true := by kernel_rfl
set_option maxRecDepth 100000 in
theorem r10_13 : run (.row [1, 1, 1, 1, 1, 1]) (.row [2, 1, 1]) = true := by kernel_rfl
set_option maxRecDepth 100000 in
theorem r10_14 : run (.row [1, 1, 1, 1, 1, 1]) (.row [2, 1, 1, 1]) = true := by kernel_rfl
set_option maxRecDepth 100000 in
theorem r10_15 : run (.row [1, 1, 1, 1, 1, 1]) (.row [2, 1, 1, 1, 1]) = true := by kernel_rfl
set_option maxRecDepth 100000 in
theorem r10_16 : run (.row [1, 1, 1, 1, 1, 1]) (.row [2, 2]) = true := by kernel_rfl
set_option maxRecDepth 100000 in
theorem r10_17 : run (.row [1, 1, 1, 1, 1, 1]) (.row [2, 2, 1]) = true := by kernel_rfl
set_option maxRecDepth 100000 in
theorem r10_18 : run (.row [1, 1, 1, 1, 1, 1]) (.row [2, 2, 1, 1]) = true := by kernel_rfl
set_option maxRecDepth 100000 in
theorem r10_19 : run (.row [1, 1, 1, 1, 1, 1]) (.row [2, 2, 2]) = true := by kernel_rfl
set_option maxRecDepth 100000 in
theorem r10_20 : run (.row [1, 1, 1, 1, 1, 1]) (.row [3]) = true := by kernel_rfl
set_option maxRecDepth 100000 in
theorem r10_21 : run (.row [1, 1, 1, 1, 1, 1]) (.row [3, 1]) = true := by kernel_rfl
set_option maxRecDepth 100000 in
theorem r10_22 : run (.row [1, 1, 1, 1, 1, 1]) (.row [3, 1, 1]) = true := by kernel_rfl
set_option maxRecDepth 100000 in
theorem r10_23 : run (.row [1, 1, 1, 1, 1, 1]) (.row [3, 1, 1, 1]) = true := by kernel_rfl
set_option maxRecDepth 100000 in
theorem r10_24 : run (.row [1, 1, 1, 1, 1, 1]) (.row [3, 2]) = true := by kernel_rfl
set_option maxRecDepth 100000 in
theorem r10_25 : run (.row [1, 1, 1, 1, 1, 1]) (.row [3, 2, 1]) = true := by kernel_rfl
set_option maxRecDepth 100000 in
theorem r10_26 : run (.row [1, 1, 1, 1, 1, 1]) (.row [3, 3]) = true := by kernel_rfl
set_option maxRecDepth 100000 in
theorem r10_27 : run (.row [1, 1, 1, 1, 1, 1]) (.row [4]) = true := by kernel_rfl
set_option maxRecDepth 100000 in
theorem r10_28 : run (.row [1, 1, 1, 1, 1, 1]) (.row [4, 1]) = true := by kernel_rfl
set_option maxRecDepth 100000 in
theorem r10_29 : run (.row [1, 1, 1, 1, 1, 1]) (.row [4, 1, 1]) = true := by kernel_rfl
set_option maxRecDepth 100000 in
theorem r10_30 : run (.row [1, 1, 1, 1, 1, 1]) (.row [4, 2]) = true := by kernel_rfl
set_option maxRecDepth 100000 in
theorem r10_31 : run (.row [1, 1, 1, 1, 1, 1]) (.row [5]) = true := by kernel_rfl
set_option maxRecDepth 100000 in
theorem r10_32 : run (.row [1, 1, 1, 1, 1, 1]) (.row [5, 1]) = true := by kernel_rfl
set_option maxRecDepth 100000 in
theorem r10_33 : run (.row [1, 1, 1, 1, 1, 1]) (.row [6]) = true := by kernel_rfl
theorem r10 : AllL (fun c => run (.row [1, 1, 1, 1, 1, 1]) c = true) classes := by
  unfold classes
  rw [shares_eq]
  exact ⟨r10_0, r10_1, r10_2, r10_3, r10_4, r10_5, r10_6, r10_7, r10_8, r10_9, r10_10, r10_11, r10_12, r10_13, r10_14, r10_15, r10_16, r10_17, r10_18, r10_19, r10_20, r10_21, r10_22, r10_23, r10_24, r10_25, r10_26, r10_27, r10_28, r10_29, r10_30, r10_31, r10_32, r10_33, trivial⟩
set_option maxRecDepth 100000 in
theorem r16_0 : run (.row [2, 2]) .nil = true := by kernel_rfl
set_option maxRecDepth 100000 in
theorem r16_1 : run (.row [2, 2]) .zero = true := by kernel_rfl
set_option maxRecDepth 100000 in
theorem r16_2 : run (.row [2, 2]) .no = true := by kernel_rfl
set_option maxRecDepth 100000 in
theorem r16_3 : run (.row [2, 2]) .long = true := by kernel_rfl
set_option maxRecDepth 100000 in
theorem r16_4 : run (.row [2, 2]) (.row []) = true := by kernel_rfl
set_option maxRecDepth 100000 in
theorem r16_5 : run (.row [2, 2]) (.row [1]) = true := by kernel_rfl
set_option maxRecDepth 100000 in
theorem r16_6 : run (.row [2, 2]) (.row [1, 1]) = true := by kernel_rfl
set_option maxRecDepth 100000 in
theorem r16_7 : run (.row [2, 2]) (.row [1, 1, 1]) = true := by kernel_rfl
set_option maxRecDepth 100000 in
theorem r16_8 : run (.row [2, 2]) (.row [1, 1, 1, 1]) = true := by kernel_rfl
set_option maxRecDepth 100000 in
theorem r16_9 : run (.row [2, 2]) (.row [1, 1, 1, 1, 1]) = true := by kernel_rfl
set_option maxRecDepth 100000 in
theorem r16_10 : run (.row [2, 2]) (.row [1, 1, 1, 1, 1, 1]) = true := by kernel_rfl
set_option maxRecDepth 100000 in
theorem r16_11 : run (.row [2, 2]) (.row [2]) = true := by kernel_rfl
set_option maxRecDepth 100000 in
theorem r16_12 : run (.row [2, 2]) (.row [2, 1]) = true := by kernel_rfl
set_option maxRecDepth 100000 in
theorem r16_13 : run (.row [2, 2]) (.row [2, 1, 1]) = true := by kernel_rfl
set_option maxRecDepth 100000 in
theorem r16_14 : run (.row [2, 2]) (.row [2, 1, 1, 1]) = true := by kernel_rfl
set_option maxRecDepth 100000 in
theorem r16_15 : run (.row [2, 2]) (.row [2, 1, 1, 1, 1]) = true := by kernel_rfl
set_option maxRecDepth 100000 in
theorem r16_16 : run (.row [2, 2]) (.row [2, 2]) = true := by kernel_rfl
set_option maxRecDepth 100000 in
theorem r16_17 : run (.row [2, 2]) (.row [2, 2, 1]) = true := by kernel_rfl
set_option maxRecDepth 100000 in
theorem r16_18 : run (.row [2, 2]) (.row [2, 2, 1, 1]) = true := by kernel_rfl
set_option maxRecDepth 100000 in
theorem r16_19 : run (.row [2, 2]) (.row [2, 2, 2]) = true := by kernel_rfl
set_option maxRecDepth 100000 in
theorem r16_20 : run (.row [2, 2]) (.row [3]) = true := by kernel_rfl
set_option maxRecDepth 100000 in
theorem r16_21 : run (.row [2, 2]) (.row [3, 1]) = true := by kernel_rfl
set_option maxRecDepth 100000 in
theorem r16_22 : run (.row [2, 2]) (.row [3, 1, 1]) = true := by kernel_rfl
set_option maxRecDepth 100000 in
theorem r16_23 : run (.row [2, 2]) (.row [3, 1, 1, 1]) = true := by kernel_rfl
set_option maxRecDepth 100000 in
theorem r16_24 : run (.row [2, 2]) (.row [3, 2]) = true := by kernel_rfl
set_option maxRecDepth 100000 in
theorem r16_25 : run (.row [2, 2]) (.row [3, 2, 1]) = true := by kernel_rfl
set_option maxRecDepth 100000 in
theorem r16_26 : run (.row [2, 2]) (.row [3, 3]) = true := by kernel_rfl
set_option maxRecDepth 100000 in
theorem r16_27 : run (.row [2, 2]) (.row [4]) = true := by kernel_rfl
set_option maxRecDepth 100000 in
theorem r16_28 : run (.row [2, 2]) (.row [4, 1]) = true := by kernel_rfl
set_option maxRecDepth 100000 in
theorem r16_29 : run (.row [2, 2]) (.row [4, 1, 1]) = true := by kernel_rfl
set_option maxRecDepth 100000 in
theorem r16_30 : run (.row [2, 2]) (.row [4, 2]) = true := by kernel_rfl
set_option maxRecDepth 100000 in
theorem r16_31 : run (.row [2, 2]) (.row [5]) = true := by kernel_rfl
set_option maxRecDepth 100000 in
theorem r16_32 : run (.row [2, 2]) (.row [5, 1]) = true := by kernel_rfl
set_option maxRecDepth 100000 in
theorem r16_33 : run (.row [2, 2]) (.row [6]) = true := by kernel_rfl
theorem r16 : AllL (fun c => run (.row [2, 2]) c = true) classes := by
  unfold classes
  rw [shares_eq]
  exact ⟨r16_0, r16_1, r16_2, r16_3, r16_4, r16_5, r16_6, r16_7, r16_8, r16_9, r16_10, r16_11, r16_12, r16_13, r16_14, r16_15, r16_16, r16_17, r16_18, r16_19, r16_20, r16_21, r16_22, r16_23, r16_24, r16_25, r16_26, r16_27, r16_28, r16_29, r16_30, r16_31, r16_32, r16_33, trivial⟩
set_option maxRecDepth 100000 in
theorem r22_0 : run (.row [3, 1, 1]) .nil = true := by kernel_rfl
set_option maxRecDepth 100000 in
theorem r22_1 : run (.row [3, 1, 1]) .zero = true := by kernel_rfl
set_option maxRecDepth 100000 in
theorem r22_2 : run (.row [3, 1, 1]) .no = true := by kernel_rfl
set_option maxRecDepth 100000 in
theorem r22_3 : run (.row [3, 1, 1]) .long = true := by kernel_rfl
set_option maxRecDepth 100000 in
theorem r22_4 : run (.row [3, 1, 1]) (.row []) = true := by kernel_rfl
set_option maxRecDepth 100000 in
theorem r22_5 : run (.row [3, 1, 1]) (.row [1]) = true := by kernel_rfl
set_option maxRecDepth 100000 in
theorem r22_6 : run (.row [3, 1, 1]) (.row [1, 1]) = true := by kernel_rfl
set_option maxRecDepth 100000 in
theorem r22_7 : run (.row [3, 1, 1]) (.row [1, 1, 1]) = true := by kernel_rfl
set_option maxRecDepth 100000 in
theorem r22_8 : run (.row [3, 1, 1]) (.row [1, 1, 1, 1]) = true := by kernel_rfl
set_option maxRecDepth 100000 in
theorem r22_9 : run (.row [3, 1, 1]) (.row [1, 1, 1, 1, 1]) = true := by kernel_rfl
set_option maxRecDepth 100000 in
theorem r22_10 : run (.row [3, 1, 1]) (.row [1, 1, 1, 1, 1, 1]) = true := by kernel_rfl
set_option maxRecDepth 100000 in
theorem r22_11 : run (.row [3, 1, 1]) (.row [2]) = true := by kernel_rfl
set_option maxRecDepth 100000 in
theorem r22_12 : run (.row [3, 1, 1]) (.row [2, 1]) = true := by kernel_rfl
set_option maxRecDepth 100000 in
theorem r22_13 : run (.row [3, 1, 1]) (.row [2, 1, 1]) = true := by kernel_rfl
set_option maxRecDepth 100000 in
theorem r22_14 : run (.row [3, 1, 1]) (.row [2, 1, 1, 1]) = true := by kernel_rfl
set_option maxRecDepth 100000 in
theorem r22_15 : run (.row [3, 1, 1]) (.row [2, 1, 1, 1, 1]) = true := by kernel_rfl
set_option maxRecDepth 100000 in
theorem r22_16 : run (.row [3, 1, 1]) (.row [2, 2]) = true := by kernel_rfl
set_option maxRecDepth 100000 in
theorem r22_17 : run (.row [3, 1, 1]) (.row [2, 2, 1]) = true := by kernel_rfl
set_option maxRecDepth 100000 in
theorem r22_18 : run (.row [3, 1, 1]) (.row [2, 2, 1, 1]) = true := by kernel_rfl
set_option maxRecDepth 100000 in
theorem r22_19 : run (.row [3, 1, 1]) (.row [2, 2, 2]) = true := by kernel_rfl
set_option maxRecDepth 100000 in
theorem r22_20 : run (.row [3, 1, 1]) (.row [3]) = true := by kernel_rfl
set_option maxRecDepth 100000 in
theorem r22_21 : run (.row [3, 1, 1]) (.row [3, 1]) = true := by kernel_rfl
set_option maxRecDepth 100000 in
theorem r22_22 : run (.row [3, 1, 1]) (.row [3, 1, 1]) = true := by kernel_rfl
set_option maxRecDepth 100000 in
theorem r22_23 : run (.row [3, 1, 1]) (.row [3, 1, 1, 1]) = true := by kernel_rfl
set_option maxRecDepth 100000 in
theorem r22_24 : run (.row [3, 1, 1]) (.row [3, 2]) = true := by kernel_rfl
set_option maxRecDepth 100000 in
theorem r22_25 : run (.row [3, 1, 1]) (.row [3, 2, 1]) = true := by kernel_rfl
set_option maxRecDepth 100000 in
theorem r22_26 : run (.row [3, 1, 1]) (.row [3, 3]) = true := by kernel_rfl
set_option maxRecDepth 100000 in
theorem r22_27 : run (.row [3, 1, 1]) (.row [4]) = true := by kernel_rfl
set_option maxRecDepth 100000 in
theorem r22_28 : run (.row [3, 1, 1]) (.row [4, 1]) = true := by kernel_rfl
set_option maxRecDepth 100000 in
theorem r22_29 : run (.row [3, 1, 1]) (.row [4, 1, 1]) = true := by kernel_rfl
set_option maxRecDepth 100000 in
theorem r22_30 : run (.row [3, 1, 1]) (.row [4, 2]) = true := by kernel_rfl
set_option maxRecDepth 100000 in
theorem r22_31 : run (.row [3, 1, 1]) (.row [5]) = true := by kernel_rfl
set_option maxRecDepth 100000 in
theorem r22_32 : run (.row [3, 1, 1]) (.row [5, 1]) = true := by kernel_rfl
set_option maxRecDepth 100000 in
theorem r22_33 : run (.row [3, 1, 1]) (.row [6]) = true := by kernel_rfl
theorem r22 : AllL (fun c => run (.row [3, 1, 1]) c = true) classes := by
  unfold classes
  rw [shares_eq]
  exact ⟨r22_0, r22_1, r22_2, r22_3, r22_4, r22_5, r22_6, r22_7, r22_8, r22_9, r22_10, r22_11, r22_12, r22_13, r22_14, r22_15, r22_16, r22_17, r22_18, r22_19, r22_20, r22_21, r22_22, r22_23, r22_24, r22_25, r22_26, r22_27, r22_28, r22_29, r22_30, r22_31, r22_32, r22_33, trivial⟩
set_option maxRecDepth 100000 in
theorem r28_0 : run (.row [4, 1]) .nil = true := by kernel_rfl
set_option maxRecDepth 100000 in
theorem r28_1 : run (.row [4, 1]) .zero = true := by kernel_rfl
set_option maxRecDepth 100000 in
theorem r28_2 : run (.row [4, 1]) .no = true := by kernel_rfl
set_option maxRecDepth 100000 in
theorem r28_3 : run (.row [4, 1]) .long = true := by kernel_rfl
set_option maxRecDepth 100000 in
theorem r28_4 : run (.row [4, 1]) (.row []) = true := by kernel_rfl
set_option maxRecDepth 100000 in
theorem r28_5 : run (.row [4, 1]) (.row [1]) = true := by kernel_rfl
set_option maxRecDepth 100000 in
theorem r28_6 : run (.row [4, 1]) (.row [1, 1]) = true := by kernel_rfl
set_option maxRecDepth 100000 in
theorem r28_7 : run (.row [4, 1]) (.row [1, 1, 1]) = true := by kernel_rfl
set_option maxRecDepth 100000 in
theorem r28_8 : run (.row [4, 1]) (.row [1, 1, 1, 1]) = true := by kernel_rfl
set_option maxRecDepth 100000 in
theorem r28_9 : run (.row [4, 1]) (.row [1, 1, 1, 1, 1]) = true := by kernel_rfl
set_option maxRecDepth 100000 in
theorem r28_10 : run (.row [4, 1]) (.row [1, 1, 1, 1, 1, 1]) = true := by kernel_rfl
set_option maxRecDepth 100000 in
theorem r28_11 : run (.row [4, 1]) (.row [2]) = true := by kernel_rfl
set_option maxRecDepth 100000 in
theorem r28_12 : run (.row [4, 1]) (.row [2, 1]) = true := by kernel_rfl
set_option maxRecDepth 100000 in
theorem r28_13 : run (.row [4, 1]) (.row [2, 1, 1]) = true := by kernel_rfl
set_option maxRecDepth 100000 in
theorem r28_14 : run (.row [4, 1]) (.row [2, 1, 1, 1]) = true := by kernel_rfl
set_option maxRecDepth 100000 in
theorem r28_15 : run (.row [4, 1]) (.row [2, 1, 1, 1, 1]) = true := by kernel_rfl
set_option maxRecDepth 100000 in
theorem r28_16 : run (.row [4, 1]) (.row [2, 2]) = true := by kernel_rfl
set_option maxRecDepth 100000 in
theorem r28_17 : run (.row [4, 1]) (.row [2, 2, 1]) = true := by kernel_rfl
set_option maxRecDepth 100000 in
theorem r28_18 : run (.row [4, 1]) (.row [2, 2, 1, 1]) = true := by kernel_rfl
set_option maxRecDepth 100000 in
theorem r28_19 : run (.row [4, 1]) (.row [2, 2, 2]) = true := by kernel_rfl
set_option maxRecDepth 100000 in
theorem r28_20 : run (.row [4, 1]) (.row [3]) = true := by kernel_rfl
set_option maxRecDepth 100000 in
theorem r28_21 : run (.row [4, 1]) (.row [3, 1]) = true := by kernel_rfl
set_option maxRecDepth 100000 in
theorem r28_22 : run (.row [4, 1]) (.row [3, 1, 1]) = true := by kernel_rfl
set_option maxRecDepth 100000 in
theorem r28_23 : run (.row [4, 1]) (.row [3, 1, 1, 1]) = true := by kernel_rfl
set_option maxRecDepth 100000 in
theorem r28_24 : run (.row [4, 1]) (.row [3, 2]) = true := by kernel_rfl
set_option maxRecDepth 100000 in
theorem r28_25 : run (.row [4, 1]) (.row [3, 2, 1]) = true := by kernel_rfl
set_option maxRecDepth 100000 in
theorem r28_26 : run (.row [4, 1]) (.row [3, 3]) = true := by kernel_rfl
set_option maxRecDepth 100000 in
theorem r28_27 : run (.row [4, 1]) (.row [4]) = true := by kernel_rfl
set_option maxRecDepth 100000 in
theorem r28_28 : run (.row [4, 1]) (.row [4, 1]) = true := by kernel_rfl
set_option maxRecDepth 100000 in
theorem r28_29 : run (.row [4, 1]) (.row [4, 1, 1]) = true := by kernel_rfl
set_option maxRecDepth 100000 in
theorem r28_30 : run (.row [4, 1]) (.row [4, 2]) = true := by kernel_rfl
set_option maxRecDepth 100000 in
theorem r28_31 : run (.row [4, 1]) (.row [5]) = true := by kernel_rfl
set_option maxRecDepth 100000 in
theorem r28_32 : run (.row [4, 1]) (.row [5, 1]) = true := by kernel_rfl
set_option maxRecDepth 100000 in
theorem r28_33 : run (.row [4, 1]) (.row [6]) = true := by kernel_rfl
theorem r28 : AllL (fun c => run (.row [4, 1]) c = true) classes := by
  unfold classes
  rw [shares_eq]
  exact ⟨r28_0, r28_1, r28_2, r28_3, r28_4, r28_5, r28_6, r28_7, r28_8, r28_9, r28_10, r28_11, r28_12, r28_13, r28_14, r28_15, r28_16, r28_17, r28_18, r28_19, r28_20, r28_21, r28_22, r28_23, r28_24, r28_25, r28_26, r28_27, r28_28, r28_29, r28_30, r28_31, r28_32, r28_33, trivial⟩
end Go.Proofs.Ythggbkoccgigaaa.fnExactTableChosenRuns
