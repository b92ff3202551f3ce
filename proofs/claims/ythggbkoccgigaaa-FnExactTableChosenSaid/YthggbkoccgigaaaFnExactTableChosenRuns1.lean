/- The runs of FnExactTableChosen, part 1. -/
import Derived.Test.YthggbkoccgigaaaEngZb
import Derived.Test.YthggbkoccgigaaaChosenZ
import Derived.Test.YthggbkoccgigaaaProg
namespace Go.Proofs.Ythggbkoccgigaaa.fnExactTableChosenRuns
set_option linter.unusedVariables false
set_option linter.unusedSectionVars false
set_option linter.unusedSimpArgs false
open Go.Eng Go.Proofs.Ythggbkoccgigaaa.tabChosen
set_option maxRecDepth 100000 in
theorem r1_0 : run .zero .nil = true := by kernel_rfl
set_option maxRecDepth 100000 in
theorem r1_1 : run .zero .zero = true := by kernel_rfl
set_option maxRecDepth 100000 in
theorem r1_2 : run .zero .no = true := by kernel_rfl
set_option maxRecDepth 100000 in
theorem r1_3 : run .zero .long = true := by kernel_rfl
set_option maxRecDepth 100000 in
theorem r1_4 : run .zero (.row []) = true := by kernel_rfl
set_option maxRecDepth 100000 in
theorem r1_5 : run .zero (.row [1]) = true := by kernel_rfl
set_option maxRecDepth 100000 in
theorem r1_6 : run .zero (.row [1, 1]) = true := by kernel_rfl
set_option maxRecDepth 100000 in
theorem r1_7 : run .zero (.row [1, 1, 1]) = true := by kernel_rfl
set_option maxRecDepth 100000 in
theorem r1_8 : run .zero (.row [1, 1, 1, 1]) = true := by kernel_rfl
set_option maxRecDepth 100000 in
theorem r1_9 : run .zero (.row [1, 1, 1, 1, 1]) = true := by kernel_rfl
set_option maxRecDepth 100000 in
theorem r1_10 : run .zero (.row [1, 1, 1, 1, 1, 1]) = true := by kernel_rfl
set_option maxRecDepth 100000 in
theorem r1_11 : run .zero (.row [2]) = true := by kernel_rfl
set_option maxRecDepth 100000 in
theorem r1_12 : run .zero (.row [2, 1]) = true := by kernel_rfl
set_option maxRecDepth 100000 in
theorem r1_13 : run .zero (.row [2, 1, 1]) = true := by kernel_rfl
set_option maxRecDepth 100000 in
theorem r1_14 : run .zero (.row [2, 1, 1, 1]) = true := by kernel_rfl
set_option maxRecDepth 100000 in
theorem r1_15 : run .zero (.row [2, 1, 1, 1, 1]) = true := by kernel_rfl
set_option maxRecDepth 100000 in
theorem r1_16 : run .zero (.row [2, 2]) = true := by kernel_rfl
set_option maxRecDepth 100000 in
theorem r1_17 : run .zero (.row [2, 2, 1]) = true := by kernel_rfl
set_option maxRecDepth 100000 in
theorem r1_18 : run .zero (.row [2, 2, 1, 1]) = true := by kernel_rfl
set_option maxRecDepth 100000 in
theorem r1_19 : run .zero (.row [2, 2, 2]) = true := by kernel_rfl
set_option maxRecDepth 100000 in
theorem r1_20 : run .zero (.row [3]) = true := by kernel_rfl
set_option maxRecDepth 100000 in
theorem r1_21 : run .zero (.row [3, 1]) = true := by kernel_rfl
set_option maxRecDepth 100000 in
theorem r1_22 : run .zero (.row [3, 1, 1]) = true := by kernel_rfl
set_option maxRecDepth 100000 in
theorem r1_23 : run .zero (.row [3, 1, 1, 1]) = true := by kernel_rfl
set_option maxRecDepth 100000 in
theorem r1_24 : run .zero (.row [3, 2]) = true := by kernel_rfl
set_option maxRecDepth 100000 in
theorem r1_25 : run .zero (.row [3, 2, 1]) = true := by kernel_rfl
set_option maxRecDepth 100000 in
theorem r1_26 : run .zero (.row [3, 3]) = true := by kernel_rfl
set_option maxRecDepth 100000 in
theorem r1_27 : run .zero (.row [4]) = true := by kernel_rfl
set_option maxRecDepth 100000 in
theorem r1_28 : run .zero (.row [4, 1]) = true := by kernel_rfl
set_option maxRecDepth 100000 in
theorem r1_29 : run .zero (.row [4, 1, 1]) = true := by kernel_rfl
set_option maxRecDepth 100000 in
theorem r1_30 : run .zero (.row [4, 2]) = true := by kernel_rfl
set_option maxRecDepth 100000 in
theorem r1_31 : run .zero (.row [5]) = true := by kernel_rfl
set_option maxRecDepth 100000 in
theorem r1_32 : run .zero (.row [5, 1]) = true := by kernel_rfl
set_option maxRecDepth 100000 in
theorem r1_33 : run .zero (.row [6]) = true := by kernel_rfl
theorem r1 : AllL (fun c => run .zero c = true) classes := by
  unfold classes
  rw [shares_eq]
  exact ⟨r1_0, r1_1, r1_2, r1_3, r1_4, r1_5, r1_6, r1_7, r1_8, r1_9, r1_10, r1_11, r1_12, r1_13, r1_14, r1_15, r1_16, r1_17, r1_18, r1_19, r1_20, r1_21, r1_22, r1_23, r1_24, r1_25, r1_26, r1_27, r1_28, r1_29, r1_30, r1_31, r1_32, r1_33, trivial⟩
set_option maxRecDepth 100000 in
theorem r7_0 : run (.row [1, 1, 1]) .nil = true := by kernel_rfl
set_option maxRecDepth 100000 in
theorem r7_1 : run (.row [1, 1, 1]) .zero = true := by kernel_rfl
set_option maxRecDepth 100000 in
theorem r7_2 : run (.row [1, 1, 1]) .no = true := by kernel_rfl
set_option maxRecDepth 100000 in
theorem r7_3 : run (.row [1, 1, 1]) .long = true := by kernel_rfl
set_option maxRecDepth 100000 in
theorem r7_4 : run (.row [1, 1, 1]) (.row []) = true := by kernel_rfl
set_option maxRecDepth 100000 in
theorem r7_5 : run (.row [1, 1, 1]) (.row [1]) = true := by kernel_rfl
set_option maxRecDepth 100000 in
theorem r7_6 : run (.row [1, 1, 1]) (.row [1, 1]) = true := by kernel_rfl
set_option maxRecDepth 100000 in
theorem r7_7 : run (.row [1, 1, 1]) (.row [1, 1, 1]) = true := by kernel_rfl
set_option maxRecDepth 100000 in
theorem r7_8 : run (.row [1, 1, 1]) (.row [1, 1, 1, 1]) = true := by kernel_rfl
set_option maxRecDepth 100000 in
theorem r7_9 : run (.row [1, 1, 1]) (.row [1, 1, 1, 1, 1]) = true := by kernel_rfl
set_option maxRecDepth 100000 in
theorem r7_10 : run (.row [1, 1, 1]) (.row [1, 1, 1, 1, 1, 1]) = true := by kernel_rfl
set_option maxRecDepth 100000 in
theorem r7_11 : run (.row [1, 1, 1]) (.row [2]) = true := by kernel_rfl
set_option maxRecDepth 100000 in
theorem r7_12 : run (.row [1, 1, 1]) (.row [2, 1]) = true := by kernel_rfl
set_option maxRecDepth 100000 in
theorem r7_13 : run (.row [1, 1, 1]) (.row [2, 1, 1]) = true := by kernel_rfl
set_option maxRecDepth 100000 in
theorem r7_14 : run (.row [1, 1, 1]) (.row [2, 1, 1, 1]) = true := by kernel_rfl
set_option maxRecDepth 100000 in
theorem r7_15 : run (.row [1, 1, 1]) (.row [2, 1, 1, 1, 1]) = true := by kernel_rfl
set_option maxRecDepth 100000 in
theorem r7_16 : run (.row [1, 1, 1]) (.row [2, 2]) = true := by kernel_rfl
set_option maxRecDepth 100000 in
theorem r7_17 : run (.row [1, 1, 1]) (.row [2, 2, 1]) = true := by kernel_rfl
set_option maxRecDepth 100000 in
theorem r7_18 : run (.row [1, 1, 1]) (.row [2, 2, 1, 1]) = true := by kernel_rfl
set_option maxRecDepth 100000 in
theorem r7_19 : run (.row [1, 1, 1]) (.row [2, 2, 2]) = true := by kernel_rfl
set_option maxRecDepth 100000 in
theorem r7_20 : run (.row [1, 1, 1]) (.row [3]) = true := by kernel_rfl
set_option maxRecDepth 100000 in
theorem r7_21 : run (.row [1, 1, 1]) (.row [3, 1]) = true := by kernel_rfl
set_option maxRecDepth 100000 in
theorem r7_22 : run (.row [1, 1, 1]) (.row [3, 1, 1]) = true := by kernel_rfl
set_option maxRecDepth 100000 in
theorem r7_23 : run (.row [1, 1, 1]) (.row [3, 1, 1, 1]) = true := by kernel_rfl
set_option maxRecDepth 100000 in
theorem r7_24 : run (.row [1, 1, 1]) (.row [3, 2]) = true := by kernel_rfl
set_option maxRecDepth 100000 in
theorem r7_25 : run (.row [1, 1, 1]) (.row [3, 2, 1]) = true := by kernel_rfl
set_option maxRecDepth 100000 in
theorem r7_26 : run (.row [1, 1, 1]) (.row [3, 3]) = true := by kernel_rfl
set_option maxRecDepth 100000 in
theorem r7_27 : run (.row [1, 1, 1]) (.row [4]) = true := by kernel_rfl
set_option maxRecDepth 100000 in
theorem r7_28 : run (.row [1, 1, 1]) (.row [4, 1]) = true := by kernel_rfl
set_option maxRecDepth 100000 in
theorem r7_29 : run (.row [1, 1, 1]) (.row [4, 1, 1]) = true := by kernel_rfl
set_option maxRecDepth 100000 in
theorem r7_30 : run (.row [1, 1, 1]) (.row [4, 2]) = true := by kernel_rfl
set_option maxRecDepth 100000 in
theorem r7_31 : run (.row [1, 1, 1]) (.row [5]) = true := by kernel_rfl
set_option maxRecDepth 100000 in
theorem r7_32 : run (.row [1, 1, 1]) (.row [5, 1]) = true := by kernel_rfl
set_option maxRecDepth 100000 in
theorem r7_33 : run (.row [1, 1, 1]) (.row [6]) = true := by kernel_rfl
theorem r7 : AllL (fun c => run (.row [1, 1, 1]) c = true) classes := by
  unfold classes
  rw [shares_eq]
  exact ⟨r7_0, r7_1, r7_2, r7_3, r7_4, r7_5, r7_6, r7_7, r7_8, r7_9, r7_10, r7_11, r7_12, r7_13, r7_14, r7_15, r7_16, r7_17, r7_18, r7_19, r7_20, r7_21, r7_22, r7_23, r7_24, r7_25, r7_26, r7_27, r7_28, r7_29, r7_30, r7_31, r7_32, r7_33, trivial⟩
set_option maxRecDepth 100000 in
theorem r13_0 : run (.row [2, 1, 1]) .nil = true := by kernel_rfl
set_option maxRecDepth 100000 in
theorem r13_1 : run (.row [2, 1, 1]) .zero = true := by kernel_rfl
set_option maxRecDepth 100000 in
theorem r13_2 : run (.row [2, 1, 1]) .no = true := by kernel_rfl
set_option maxRecDepth 100000 in
theorem r13_3 : run (.row [2, 1, 1]) .long = true := by kernel_rfl
set_option maxRecDepth 100000 in
theorem r13_4 : run (.row [2, 1, 1]) (.row []) = true := by kernel_rfl
set_option maxRecDepth 100000 in
theorem r13_5 : run (.row [2, 1, 1]) (.row [1]) = true := by kernel_rfl
set_option maxRecDepth 100000 in
theorem r13_6 : run (.row [2, 1, 1]) (.row [1, 1]) = true := by kernel_rfl
set_option maxRecDepth 100000 in
theorem r13_7 : run (.row [2, 1, 1]) (.row [1, 1, 1]) = true := by kernel_rfl
set_option maxRecDepth 100000 in
theorem r13_8 : run (.row [2, 1, 1]) (.row [1, 1, 1, 1]) = true := by kernel_rfl
set_option maxRecDepth 100000 in
theorem r13_9 : run (.row [2, 1, 1]) (.row [1, 1, 1, 1, 1]) = true := by kernel_rfl
set_option maxRecDepth 100000 in
theorem r13_10 : run (.row [2, 1, 1]) (.row [1, 1, 1, 1, 1, 1]) = true := by kernel_rfl
set_option maxRecDepth 100000 in
theorem r13_11 : run (.row [2, 1, 1]) (.row [2]) = true := by kernel_rfl
set_option maxRecDepth 100000 in
theorem r13_12 : run (.row [2, 1, 1]) (.row [2, 1]) = true := by kernel_rfl
set_option maxRecDepth 100000 in
theorem r13_13 : run (.row [2, 1, 1]) (.row [2, 1, 1]) = true := by kernel_rfl
set_option maxRecDepth 100000 in
theorem r13_14 : run (.row [2, 1, 1]) (.row [2, 1, 1, 1]) = true := by kernel_rfl
set_option maxRecDepth 100000 in
theorem r13_15 : run (.row [2, 1, 1]) (.row [2, 1, 1, 1, 1]) = true := by kernel_rfl
set_option maxRecDepth 100000 in
theorem r13_16 : run (.row [2, 1, 1]) (.row [2, 2]) = true := by kernel_rfl
set_option maxRecDepth 100000 in
theorem r13_17 : run (.row [2, 1, 1]) (.row [2, 2, 1]) = true := by kernel_rfl
set_option maxRecDepth 100000 in
theorem r13_18 : run (.row [2, 1, 1]) (.row [2, 2, 1, 1]) = true := by kernel_rfl
set_option maxRecDepth 100000 in
theorem r13_19 : run (.row [2, 1, 1]) (.row [2, 2, 2]) = true := by kernel_rfl
set_option maxRecDepth 100000 in
theorem r13_20 : run (.row [2, 1, 1]) (.row [3]) = true := by kernel_rfl
set_option maxRecDepth 100000 in
theorem r13_21 : run (.row [2, 1, 1]) (.row [3, 1]) = true := by kernel_rfl
set_option maxRecDepth 100000 in
theorem r13_22 : run (.row [2, 1, 1]) (.row [3, 1, 1]) = true := by kernel_rfl
set_option maxRecDepth 100000 in
theorem r13_23 : run (.row [2, 1, 1]) (.row [3, 1, 1, 1]) = true := by kernel_rfl
set_option maxRecDepth 100000 in
theorem r13_24 : run (.row [2, 1, 1]) (.row [3, 2]) = true := by kernel_rfl
set_option maxRecDepth 100000 in
theorem r13_25 : run (.row [2, 1, 1]) (.row [3, 2, 1]) = true := by kernel_rfl
set_option maxRecDepth 100000 in
theorem r13_26 : run (.row [2, 1, 1]) (.row [3, 3]) = true := by kernel_rfl
set_option maxRecDepth 100000 in
theorem r13_27 : run (.row [2, 1, 1]) (.row [4]) = true := by kernel_rfl
set_option maxRecDepth 100000 in
theorem r13_28 : run (.row [2, 1, 1]) (.row [4, 1]) = true := by kernel_rfl
set_option maxRecDepth 100000 in
theorem r13_29 : run (.row [2, 1, 1]) (.row [4, 1, 1]) = true := by kernel_rfl
set_option maxRecDepth 100000 in
theorem r13_30 : run (.row [2, 1, 1]) (.row [4, 2]) = true := by kernel_rfl
set_option maxRecDepth 100000 in
theorem r13_31 : run (.row [2, 1, 1]) (.row [5]) = true := by kernel_rfl
set_option maxRecDepth 100000 in
theorem r13_32 : run (.row [2, 1, 1]) (.row [5, 1]) = true := by kernel_rfl
set_option maxRecDepth 100000 in
theorem r13_33 : run (.row [2, 1, 1]) (.row [6]) = true := by kernel_rfl
theorem r13 : AllL (fun c => run (.row [2, 1, 1]) c = true) classes := by
  unfold classes
  rw [shares_eq]
  exact ⟨r13_0, r13_1, r13_2, r13_3, r13_4, r13_5, r13_6, r13_7, r13_8, r13_9, r13_10, r13_11, r13_12, r13_13, r13_14, r13_15, r13_16, r13_17, r13_18, r13_19, r13_20, r13_21, r13_22, r13_23, r13_24, r13_25, r13_26, r13_27, r13_28, r13_29, r13_30, r13_31, r13_32, r13_33, trivial⟩
set_option maxRecDepth 100000 in
theorem r19_0 : run (.row [2, 2, 2]) .nil = true := by kernel_rfl
set_option maxRecDepth 100000 in
theorem r19_1 : run (.row [2, 2, 2]) .zero = true := by kernel_rfl
set_option maxRecDepth 100000 in
theorem r19_2 : run (.row [2, 2, 2]) .no = true := by kernel_rfl
set_option maxRecDepth 100000 in
theorem r19_3 : run (.row [2, 2, 2]) .long = true := by kernel_rfl
set_option maxRecDepth 100000 in
theorem r19_4 : run (.row [2, 2, 2]) (.row []) = true := by kernel_rfl
set_option maxRecDepth 100000 in
theorem r19_5 : run (.row [2, 2, 2]) (.row [1]) = true := by kernel_rfl
set_option maxRecDepth 100000 in
theorem r19_6 : run (.row [2, 2, 2]) (.row [1, 1]) = true := by kernel_rfl
set_option maxRecDepth 100000 in
theorem r19_7 : run (.row [2, 2, 2]) (.row [1, 1, 1]) = true := by kernel_rfl
set_option maxRecDepth 100000 in
theorem r19_8 : run (.row [2, 2, 2]) (.row [1, 1, 1, 1]) = true := by kernel_rfl
set_option maxRecDepth 100000 in
theorem r19_9 : run (.row [2, 2, 2]) (.row [1, 1, 1, 1, 1]) = true := by kernel_rfl
set_option maxRecDepth 100000 in
theorem r19_10 : run (.row [2, 2, 2]) (.row [1, 1, 1, 1, 1, 1]) = true := by kernel_rfl
set_option maxRecDepth 100000 in
theorem r19_11 : run (.row [2, 2, 2]) (.row [2]) = true := by kernel_rfl
set_option maxRecDepth 100000 in
theorem r19_12 : run (.row [2, 2, 2]) (.row [2, 1]) = true := by kernel_rfl
set_option maxRecDepth 100000 in
theorem r19_13 : run (.row [2, 2, 2]) (.row [2, 1, 1]) = true := by kernel_rfl
set_option maxRecDepth 100000 in
theorem r19_14 : run (.row [2, 2, 2]) (.row [2, 1, 1, 1]) = true := by kernel_rfl
set_option maxRecDepth 100000 in
theorem r19_15 : run (.row [2, 2, 2]) (.row [2, 1, 1, 1, 1]) = true := by kernel_rfl
set_option maxRecDepth 100000 in
theorem r19_16 : run (.row [2, 2, 2]) (.row [2, 2]) = true := by kernel_rfl
set_option maxRecDepth 100000 in
theorem r19_17 : run (.row [2, 2, 2]) (.row [2, 2, 1]) = true := by kernel_rfl
set_option maxRecDepth 100000 in
theorem r19_18 : run (.row [2, 2, 2]) (.row [2, 2, 1, 1]) = true := by kernel_rfl
set_option maxRecDepth 100000 in
theorem r19_19 : run (.row [2, 2, 2]) (.row [2, 2, 2]) = true := by kernel_rfl
set_option maxRecDepth 100000 in
theorem r19_20 : run (.row [2, 2, 2]) (.row [3]) = true := by kernel_rfl
set_option maxRecDepth 100000 in
theorem r19_21 : run (.row [2, 2, 2]) (.row [3, 1]) = true := by kernel_rfl
set_option maxRecDepth 100000 in
theorem r19_22 : run (.row [2, 2, 2]) (.row [3, 1, 1]) = true := by kernel_rfl
set_option maxRecDepth 100000 in
theorem r19_23 : run (.row [2, 2, 2]) (.row [3, 1, 1, 1]) = true := by kernel_rfl
set_option maxRecDepth 100000 in
theorem r19_24 : run (.row [2, 2, 2]) (.row [3, 2]) = true := by kernel_rfl
set_option maxRecDepth 100000 in
theorem r19_25 : run (.row [2, 2, 2]) (.row [3, 2, 1]) = true := by kernel_rfl
set_option maxRecDepth 100000 in
theorem r19_26 : run (.row [2, 2, 2]) (.row [3, 3]) = true := by kernel_rfl
set_option maxRecDepth 100000 in
theorem r19_27 : run (.row [2, 2, 2]) (.row [4]) = true := by kernel_rfl
set_option maxRecDepth 100000 in
theorem r19_28 : run (.row [2, 2, 2]) (.row [4, 1]) = true := by kernel_rfl
set_option maxRecDepth 100000 in
theorem r19_29 : run (.row [2, 2, 2]) (.row [4, 1, 1]) = true := by kernel_rfl
set_option maxRecDepth 100000 in
theorem r19_30 : run (.row [2, 2, 2]) (.row [4, 2]) = true := by kernel_rfl
set_option maxRecDepth 100000 in
theorem r19_31 : run (.row [2, 2, 2]) (.row [5]) = true := by kernel_rfl
set_option maxRecDepth 100000 in
theorem r19_32 : run (.row [2, 2, 2]) (.row [5, 1]) = true := by kernel_rfl
set_option maxRecDepth 100000 in
theorem r19_33 : run (.row [2, 2, 2]) (.row [6]) = true := by kernel_rfl
theorem r19 : AllL (fun c => run (.row [2, 2, 2]) c = true) classes := by
  unfold classes
  rw [shares_eq]
  exact ⟨r19_0, r19_1, r19_2, r19_3, r19_4, r19_5, r19_6, r19_7, r19_8, r19_9, r19_10, r19_11, r19_12, r19_13, r19_14, r19_15, r19_16, r19_17, r19_18, r19_19, r19_20, r19_21, r19_22, r19_23, r19_24, r19_25, r19_26, r19_27, r19_28, r19_29, r19_30, r19_31, r19_32, r19_33, trivial⟩
set_option maxRecDepth 100000 in
theorem r25_0 : run (.row [3, 2, 1]) .nil = true := by kernel_rfl
set_option maxRecDepth 100000 in
theorem r25_1 : run (.row [3, 2, 1]) .zero = true := by kernel_rfl
set_option maxRecDepth 100000 in
theorem r25_2 : run (.row [3, 2, 1]) .no = true := by kernel_rfl
set_option maxRecDepth 100000 in
theorem r25_3 : run (.row [3, 2, 1]) .long = true := by kernel_rfl
set_option maxRecDepth 100000 in
theorem r25_4 : run (.row [3, 2, 1]) (.row []) = true := by kernel_rfl
set_option maxRecDepth 100000 in
theorem r25_5 : run (.row [3, 2, 1]) (.row [1]) = true := by kernel_rfl
set_option maxRecDepth 100000 in
theorem r25_6 : run (.row [3, 2, 1]) (.row [1, 1]) = true := by kernel_rfl
set_option maxRecDepth 100000 in
theorem r25_7 : run (.row [3, 2, 1]) (.row [1, 1, 1]) = true := by kernel_rfl
set_option maxRecDepth 100000 in
theorem r25_8 : run (.row [3, 2, 1]) (.row [1, 1, 1, 1]) = true := by kernel_rfl
set_option maxRecDepth 100000 in
theorem r25_9 : run (.row [3, 2, 1]) (.row [1, 1, 1, 1, 1]) = true := by kernel_rfl
set_option maxRecDepth 100000 in
theorem r25_10 : run (.row [3, 2, 1]) (.row [1, 1, 1, 1, 1, 1]) = true := by kernel_rfl
set_option maxRecDepth 100000 in
theorem r25_11 : run (.row [3, 2, 1]) (.row [2]) = true := by kernel_rfl
set_option maxRecDepth 100000 in
theorem r25_12 : run (.row [3, 2, 1]) (.row [2, 1]) = true := by kernel_rfl
set_option maxRecDepth 100000 in
theorem r25_13 : run (.row [3, 2, 1]) (.row [2, 1, 1]) = true := by kernel_rfl
set_option maxRecDepth 100000 in
theorem r25_14 : run (.row [3, 2, 1]) (.row [2, 1, 1, 1]) = true := by kernel_rfl
set_option maxRecDepth 100000 in
theorem r25_15 : run (.row [3, 2, 1]) (.row [2, 1, 1, 1, 1]) = true := by kernel_rfl
set_option maxRecDepth 100000 in
theorem r25_16 : run (.row [3, 2, 1]) (.row [2, 2]) = true := by kernel_rfl
set_option maxRecDepth 100000 in
theorem r25_17 : run (.row [3, 2, 1]) (.row [2, 2, 1]) = true := by kernel_rfl
set_option maxRecDepth 100000 in
theorem r25_18 : run (.row [3, 2, 1]) (.row [2, 2, 1, 1]) = true := by kernel_rfl
set_option maxRecDepth 100000 in
theorem r25_19 : run (.row [3, 2, 1]) (.row [2, 2, 2]) = true := by kernel_rfl
set_option maxRecDepth 100000 in
theorem r25_20 : run (.row [3, 2, 1]) (.row [3]) = true := by kernel_rfl
set_option maxRecDepth 100000 in
theorem r25_21 : run (.row [3, 2, 1]) (.row [3, 1]) = true := by kernel_rfl
set_option maxRecDepth 100000 in
theorem r25_22 : run (.row [3, 2, 1]) (.row [3, 1, 1]) = true := by kernel_rfl
set_option maxRecDepth 100000 in
theorem r25_23 : run (.row [3, 2, 1]) (.row [3, 1, 1, 1]) = true := by kernel_rfl
set_option maxRecDepth 100000 in
theorem r25_24 : run (.row [3, 2, 1]) (.row [3, 2]) = true := by kernel_rfl
set_option maxRecDepth 100000 in
theorem r25_25 : run (.row [3, 2, 1]) (.row [3, 2, 1]) = true := by kernel_rfl
set_option maxRecDepth 100000 in
theorem r25_26 : run (.row [3, 2, 1]) (.row [3, 3]) = true := by kernel_rfl
set_option maxRecDepth 100000 in
theorem r25_27 : run (.row [3, 2, 1]) (.row [4]) = true := by kernel_rfl
set_option maxRecDepth 100000 in
theorem r25_28 : run (.row [3, 2, 1]) (.row [4, 1]) = true := by kernel_rfl
set_option maxRecDepth 100000 in
theorem r25_29 : run (.row [3, 2, 1]) (.row [4, 1, 1]) = true := by kernel_rfl
set_option maxRecDepth 100000 in
theorem r25_30 : run (.row [3, 2, 1]) (.row [4, 2]) = true := by kernel_rfl
set_option maxRecDepth 100000 in
theorem r25_31 : run (.row [3, 2, 1]) (.row [5]) = true := by kernel_rfl
set_option maxRecDepth 100000 in
theorem r25_32 : run (.row [3, 2, 1]) (.row [5, 1]) = true := by kernel_rfl
set_option maxRecDepth 100000 in
theorem r25_33 : run (.row [3, 2, 1]) (.row [6]) = true := by kernel_rfl
theorem r25 : AllL (fun c => run (.row [3, 2, 1]) c = true) classes := by
  unfold classes
  rw [shares_eq]
  exact ⟨r25_0, r25_1, r25_2, r25_3, r25_4, r25_5, r25_6, r25_7, r25_8, r25_9, r25_10, r25_11, r25_12, r25_13, r25_14, r25_15, r25_16, r25_17, r25_18, r25_19, r25_20, r25_21, r25_22, r25_23, r25_24, r25_25, r25_26, r25_27, r25_28, r25_29, r25_30, r25_31, r25_32, r25_33, trivial⟩
set_option maxRecDepth 100000 in
theorem r31_0 : run (.row [5]) .nil = true := by kernel_rfl
set_option maxRecDepth 100000 in
theorem r31_1 : run (.row [5]) .zero = true := by kernel_rfl
set_option maxRecDepth 100000 in
theorem r31_2 : run (.row [5]) .no = true := by kernel_rfl
set_option maxRecDepth 100000 in
theorem r31_3 : run (.row [5]) .long = true := by kernel_rfl
set_option maxRecDepth 100000 in
theorem r31_4 : run (.row [5]) (.row []) = true := by kernel_rfl
set_option maxRecDepth 100000 in
theorem r31_5 : run (.row [5]) (.row [1]) = true := by kernel_rfl
set_option maxRecDepth 100000 in
theorem r31_6 : run (.row [5]) (.row [1, 1]) = true := by kernel_rfl
set_option maxRecDepth 100000 in
theorem r31_7 : run (.row [5]) (.row [1, 1, 1]) = true := by kernel_rfl
set_option maxRecDepth 100000 in
theorem r31_8 : run (.row [5]) (.row [1, 1, 1, 1]) = true := by kernel_rfl
set_option maxRecDepth 100000 in
theorem r31_9 : run (.row [5]) (.row [1, 1, 1, 1, 1]) = true := by kernel_rfl
set_option maxRecDepth 100000 in
theorem r31_10 : run (.row [5]) (.row [1, 1, 1, 1, 1, 1]) = true := by kernel_rfl
set_option maxRecDepth 100000 in
theorem r31_11 : run (.row [5]) (.row [2]) = true := by kernel_rfl
set_option maxRecDepth 100000 in
theorem r31_12 : run (.row [5]) (.row [2, 1]) = true := by kernel_rfl
set_option maxRecDepth 100000 in
theorem r31_13 : run (.row [5]) (.row [2, 1, 1]) = true := by kernel_rfl
set_option maxRecDepth 100000 in
theorem r31_14 : run (.row [5]) (.row [2, 1, 1, 1]) = true := by kernel_rfl
set_option maxRecDepth 100000 in
theorem r31_15 : run (.row [5]) (.row [2, 1, 1, 1, 1]) = true := by kernel_rfl
set_option maxRecDepth 100000 in
theorem r31_16 : run (.row [5]) (.row [2, 2]) = true := by kernel_rfl
set_option maxRecDepth 100000 in
theorem r31_17 : run (.row [5]) (.row [2, 2, 1]) = true := by kernel_rfl
set_option maxRecDepth 100000 in
theorem r31_18 : run (.row [5]) (.row [2, 2, 1, 1]) = true := by kernel_rfl
set_option maxRecDepth 100000 in
theorem r31_19 : run (.row [5]) (.row [2, 2, 2]) = true := by kernel_rfl
set_option maxRecDepth 100000 in
theorem r31_20 : run (.row [5]) (.row [3]) = true := by kernel_rfl
set_option maxRecDepth 100000 in
theorem r31_21 : run (.row [5]) (.row [3, 1]) = true := by kernel_rfl
set_option maxRecDepth 100000 in
theorem r31_22 : run (.row [5]) (.row [3, 1, 1]) = true := by kernel_rfl
set_option maxRecDepth 100000 in
theorem r31_23 : run (.row [5]) (.row [3, 1, 1, 1]) = true := by kernel_rfl
set_option maxRecDepth 100000 in
theorem r31_24 : run (.row [5]) (.row [3, 2]) = true := by kernel_rfl
set_option maxRecDepth 100000 in
theorem r31_25 : run (.row [5]) (.row [3, 2, 1]) = true := by kernel_rfl
set_option maxRecDepth 100000 in
theorem r31_26 : run (.row [5]) (.row [3, 3]) = true := by kernel_rfl
set_option maxRecDepth 100000 in
theorem r31_27 : run (.row [5]) (.row [4]) = true := by kernel_rfl
set_option maxRecDepth 100000 in
theorem r31_28 : run (.row [5]) (.row [4, 1]) = true := by kernel_rfl
set_option maxRecDepth 100000 in
theorem r31_29 : run (.row [5]) (.row [4, 1, 1]) = true := by kernel_rfl
set_option maxRecDepth 100000 in
theorem r31_30 : run (.row [5]) (.row [4, 2]) = true := by kernel_rfl
set_option maxRecDepth 100000 in
theorem r31_31 : run (.row [5]) (.row [5]) = true := by kernel_rfl
set_option maxRecDepth 100000 in
theorem r31_32 : run (.row [5]) (.row [5, 1]) = true := by kernel_rfl
set_option maxRecDepth 100000 in
theorem r31_33 : run (.row [5]) (.row [6]) = true := by kernel_rfl
theorem r31 : AllL (fun c => run (.row [5]) c = true) classes := by
  unfold classes
  rw [shares_eq]
  exact ⟨r31_0, r31_1, r31_2, r31_3, r31_4, r31_5, r31_6, r31_7, r31_8, r31_9, r31_10, r31_11, r31_12, r31_13, r31_14, r31_15, r31_16, r31_17, r31_18, r31_19, r31_20, r31_21, r31_22, r31_23, r31_24, r31_25, r31_26, r31_27, r31_28, r31_29, r31_30, r31_31, r31_32, r31_33, trivial⟩
end Go.Proofs.Ythggbkoccgigaaa.fnExactTableChosenRuns
