/- The runs of FnExactTableChosen, part 3. -/
import Derived.Test.YthggbkoccgigaaaEngZb
import Derived.Test.YthggbkoccgigaaaChosenZ
import Derived.Test.YthggbkoccgigaaaProg
namespace Go.Proofs.Ythggbkoccgigaaa.fnExactTableChosenRuns
set_option linter.unusedVariables false
set_option linter.unusedSectionVars false
set_option linter.unusedSimpArgs false
open Go.Eng Go.Proofs.Ythggbkoccgigaaa.tabChosen
set_option maxRecDepth 100000 in
theorem r3_0 : run .long .nil = true := by kernel_rfl
set_option maxRecDepth 100000 in
theorem r3_1 : run .long .zero = true := by kernel_rfl
set_option maxRecDepth 100000 in
theorem r3_2 : run .long .no = true := by kernel_rfl
set_option maxRecDepth 100000 in
theorem r3_3 : run .long .long = true := by kernel_rfl
set_option maxRecDepth 100000 in
theorem r3_4 : run .long (.row []) = true := by kernel_rfl
set_option maxRecDepth 100000 in
theorem r3_5 : run .long (.row [1]) = true := by kernel_rfl
set_option maxRecDepth 100000 in
theorem r3_6 : run .long (.row [1, 1]) = true := by kernel_rfl
set_option maxRecDepth 100000 in
theorem r3_7 : run .long (.row [1, 1, 1]) = true := by kernel_rfl
set_option maxRecDepth 100000 in
theorem r3_8 : run .long (.row [1, 1, 1, 1]) = true := by kernel_rfl
set_option maxRecDepth 100000 in
theorem r3_9 : run .long (.row [1, 1, 1, 1, 1]) = true := by kernel_rfl
set_option maxRecDepth 100000 in
theorem r3_10 : run .long (.row [1, 1, 1, 1, 1, 1]) = true := by kernel_rfl
set_option maxRecDepth 100000 in
theorem r3_11 : run .long (.row [2]) = true := by kernel_rfl
set_option maxRecDepth 100000 in
theorem r3_12 : run .long (.row [2, 1]) = true := by kernel_rfl
set_option maxRecDepth 100000 in
theorem r3_13 : run .long (.row [2, 1, 1]) = true := by kernel_rfl
set_option maxRecDepth 100000 in
theorem r3_14 : run .long (.row [2, 1, 1, 1]) = true := by kernel_rfl
set_option maxRecDepth 100000 in
theorem r3_15 : run .long (.row [2, 1, 1, 1, 1]) = true := by kernel_rfl
set_option maxRecDepth 100000 in
theorem r3_16 : run .long (.row [2, 2]) = true := by kernel_rfl
set_option maxRecDepth 100000 in
theorem r3_17 : run .long (.row [2, 2, 1]) = true := by kernel_rfl
set_option maxRecDepth 100000 in
theorem r3_18 : run .long (.row [2, 2, 1, 1]) = true := by kernel_rfl
set_option maxRecDepth 100000 in
theorem r3_19 : run .long (.row [2, 2, 2]) = true := by kernel_rfl
set_option maxRecDepth 100000 in
theorem r3_20 : run .long (.row [3]) = true := by kernel_rfl
set_option maxRecDepth 100000 in
theorem r3_21 : run .long (.row [3, 1]) = true := by kernel_rfl
set_option maxRecDepth 100000 in
theorem r3_22 : run .long (.row [3, 1, 1]) = true := by kernel_rfl
set_option maxRecDepth 100000 in
theorem r3_23 : run .long (.row [3, 1, 1, 1]) = true := by kernel_rfl
set_option maxRecDepth 100000 in
theorem r3_24 : run .long (.row [3, 2]) = true := by kernel_rfl
set_option maxRecDepth 100000 in
theorem r3_25 : run .long (.row [3, 2, 1]) = true := by kernel_rfl
set_option maxRecDepth 100000 in
theorem r3_26 : run .long (.row [3, 3]) = true := by kernel_rfl
set_option maxRecDepth 100000 in
theorem r3_27 : run .long (.row [4]) = true := by kernel_rfl
set_option maxRecDepth 100000 in
theorem r3_28 : run .long (.row [4, 1]) = true := by kernel_rfl
set_option maxRecDepth 100000 in
theorem r3_29 : run .long (.row [4, 1, 1]) = true := by kernel_rfl
set_option maxRecDepth 100000 in
theorem r3_30 : run .long (.row [4, 2]) = true := by kernel_rfl
set_option maxRecDepth 100000 in
theorem r3_31 : run .long (.row [5]) = true := by kernel_rfl
set_option maxRecDepth 100000 in
theorem r3_32 : run .long (.row [5, 1]) = true := by kernel_rfl
set_option maxRecDepth 100000 in
theorem r3_33 : run .long (.row [6]) = true := by kernel_rfl
theorem r3 : AllL (fun c => run .long c = true) classes := by
  unfold classes
  rw [shares_eq]
  exact ⟨r3_0, r3_1, r3_2, r3_3, r3_4, r3_5, r3_6, r3_7, r3_8, r3_9, r3_10, r3_11, r3_12, r3_13, r3_14, r3_15, r3_16, r3_17, r3_18, r3_19, r3_20, r3_21, r3_22, r3_23, r3_24, r3_25, r3_26, r3_27, r3_28, r3_29, r3_30, r3_31, r3_32, r3_33, trivial⟩
set_option maxRecDepth 100000 in
theorem r9_0 : run (.row [1, 1, 1, 1, 1]) .nil = true := by kernel_rfl
set_option maxRecDepth 100000 in
theorem r9_1 : run (.row [1, 1, 1, 1, 1]) .zero = true := by kernel_rfl
set_option maxRecDepth 100000 in
theorem r9_2 : run (.row [1, 1, 1, 1, 1]) .no = true := by kernel_rfl
set_option maxRecDepth 100000 in
theorem r9_3 : run (.row [1, 1, 1, 1, 1]) .long = true := by kernel_rfl
set_option maxRecDepth 100000 in
theorem r9_4 : run (.row [1, 1, 1, 1, 1]) (.row []) = true := by kernel_rfl
set_option maxRecDepth 100000 in
theorem r9_5 : run (.row [1, 1, 1, 1, 1]) (.row [1]) = true := by kernel_rfl
set_option maxRecDepth 100000 in
theorem r9_6 : run (.row [1, 1, 1, 1, 1]) (.row [1, 1]) = true := by kernel_rfl
set_option maxRecDepth 100000 in
theorem r9_7 : run (.row [1, 1, 1, 1, 1]) (.row [1, 1, 1]) = true := by kernel_rfl
set_option maxRecDepth 100000 in
theorem r9_8 : run (.row [1, 1, 1, 1, 1]) (.row [1, 1, 1, 1]) = true := by kernel_rfl
set_option maxRecDepth 100000 in
theorem r9_9 : run (.row [1, 1, 1, 1, 1]) (.row [1, 1, 1, 1, 1]) = true := by kernel_rfl
set_option maxRecDepth 100000 in
theorem r9_10 : run (.row [1, 1, 1, 1, 1]) (.row [1, 1, 1, 1, 1, 1]) = true := by kernel_rfl
set_option maxRecDepth 100000 in
theorem r9_11 : run (.row [1, 1, 1, 1, 1]) (.row [2]) = true := by kernel_rfl
set_option maxRecDepth 100000 in
theorem r9_12 : run (.row [1, 1, 1, 1, 1]) (.row [2, 1]) = true := by kernel_rfl
set_option maxRecDepth 100000 in
theorem r9_13 : run (.row [1, 1, 1, 1, 1]) (.row [2, 1, 1]) = true := by kernel_rfl
set_option maxRecDepth 100000 in
theorem r9_14 : run (.row [1, 1, 1, 1, 1]) (.row [2, 1, 1, 1]) = true := by kernel_rfl
set_option maxRecDepth 100000 in
theorem r9_15 : run (.row [1, 1, 1, 1, 1]) (.row [2, 1, 1, 1, 1]) = true := by kernel_rfl
set_option maxRecDepth 100000 in
theorem r9_16 : run (.row [1, 1, 1, 1, 1]) (.row [2, 2]) = true := by kernel_rfl
set_option maxRecDepth 100000 in
theorem r9_17 : run (.row [1, 1, 1, 1, 1]) (.row [2, 2, 1]) = true := by kernel_rfl
set_option maxRecDepth 100000 in
theorem r9_18 : run (.row [1, 1, 1, 1, 1]) (.row [2, 2, 1, 1]) = true := by kernel_rfl
set_option maxRecDepth 100000 in
theorem r9_19 : run (.row [1, 1, 1, 1, 1]) (.row [2, 2, 2]) = true := by kernel_rfl
set_option maxRecDepth 100000 in
theorem r9_20 : run (.row [1, 1, 1, 1, 1]) (.row [3]) = true := by kernel_rfl
set_option maxRecDepth 100000 in
theorem r9_21 : run (.row [1, 1, 1, 1, 1]) (.row [3, 1]) = true := by kernel_rfl
set_option maxRecDepth 100000 in
theorem r9_22 : run (.row [1, 1, 1, 1, 1]) (.row [3, 1, 1]) = true := by kernel_rfl
set_option maxRecDepth 100000 in
theorem r9_23 : run (.row [1, 1, 1, 1, 1]) (.row [3, 1, 1, 1]) = true := by kernel_rfl
set_option maxRecDepth 100000 in
theorem r9_24 : run (.row [1, 1, 1, 1, 1]) (.row [3, 2]) = true := by kernel_rfl
set_option maxRecDepth 100000 in
theorem r9_25 : run (.row [1, 1, 1, 1, 1]) (.row [3, 2, 1]) = true := by kernel_rfl
set_option maxRecDepth 100000 in
theorem r9_26 : run (.row [1, 1, 1, 1, 1]) (.row [3, 3]) = true := by kernel_rfl
set_option maxRecDepth 100000 in
theorem r9_27 : run (.row [1, 1, 1, 1, 1]) (.row [4]) = true := by kernel_rfl
set_option maxRecDepth 100000 in
theorem r9_28 : run (.row [1, 1, 1, 1, 1]) (.row [4, 1]) = true := by kernel_rfl
set_option maxRecDepth 100000 in
theorem r9_29 : run (.row [1, 1, 1, 1, 1]) (.row [4, 1, 1]) = true := by kernel_rfl
set_option maxRecDepth 100000 in
theorem r9_30 : run (.row [1, 1, 1, 1, 1]) (.row [4, 2]) = true := by kernel_rfl
set_option maxRecDepth 100000 in
theorem r9_31 : run (.row [1, 1, 1, 1, 1]) (.row [5]) = true := by kernel_rfl
set_option maxRecDepth 100000 in
theorem r9_32 : run (.row [1, 1, 1, 1, 1]) (.row [5, 1]) = true := by kernel_rfl
set_option maxRecDepth 100000 in
theorem r9_33 : run (.row [1, 1, 1, 1, 1]) (.row [6]) = true := by kernel_rfl
theorem r9 : AllL (fun c => run (.row [1, 1, 1, 1, 1]) c = true) classes := by
  unfold classes
  rw [shares_eq]
  exact ⟨r9_0, r9_1, r9_2, r9_3, r9_4, r9_5, r9_6, r9_7, r9_8, r9_9, r9_10, r9_11, r9_12, r9_13, r9_14, r9_15, r9_16, r9_17, r9_18, r9_19, r9_20, r9_21, r9_22, r9_23, r9_24, r9_25, r9_26, r9_27, r9_28, r9_29, r9_30, r9_31, r9_32, r9_33, trivial⟩
set_option maxRecDepth 100000 in
theorem r15_0 : run (.row [2, 1, 1, 1, 1]) .nil = true := by kernel_rfl
set_option maxRecDepth 100000 in
theorem r15_1 : run (.row [2, 1, 1, 1, 1]) .zero = true := by kernel_rfl
set_option maxRecDepth 100000 in
theorem r15_2 : run (.row [2, 1, 1, 1, 1]) .no = true := by kernel_rfl
set_option maxRecDepth 100000 in
theorem r15_3 : run (.row [2, 1, 1, 1, 1]) .long = true := by kernel_rfl
set_option maxRecDepth 100000 in
theorem r15_4 : run (.row [2, 1, 1, 1, 1]) (.row []) = true := by kernel_rfl
set_option maxRecDepth 100000 in
theorem r15_5 : run (.row [2, 1, 1, 1, 1]) (.row [1]) = true := by kernel_rfl
set_option maxRecDepth 100000 in
theorem r15_6 : run (.row [2, 1, 1, 1, 1]) (.row [1, 1]) = true := by kernel_rfl
set_option maxRecDepth 100000 in
theorem r15_7 : run (.row [2, 1, 1, 1, 1]) (.row [1, 1, 1]) = true := by kernel_rfl
set_option maxRecDepth 100000 in
theorem r15_8 : run (.row [2, 1, 1, 1, 1]) (.row [1, 1, 1, 1]) = true := by kernel_rfl
set_option maxRecDepth 100000 in
theorem r15_9 : run (.row [2, 1, 1, 1, 1]) (.row [1, 1, 1, 1, 1]) = true := by kernel_rfl
set_option maxRecDepth 100000 in
theorem r15_10 : run (.row [2, 1, 1, 1, 1]) (.row [1, 1, 1, 1, 1, 1]) = true := by kernel_rfl
set_option maxRecDepth 100000 in
theorem r15_11 : run (.row [2, 1, 1, 1, 1]) (.row [2]) = true := by kernel_rfl
set_option maxRecDepth 100000 in
theorem r15_12 : run (.row [2, 1, 1, 1, 1]) (.row [2, 1]) = true := by kernel_rfl
set_option maxRecDepth 100000 in
theorem r15_13 : run (.row [2, 1, 1, 1, 1]) (.row [2, 1, 1]) = true := by kernel_rfl
set_option maxRecDepth 100000 in
theorem r15_14 : run (.row [2, 1, 1, 1, 1]) (.row [2, 1, 1, 1]) = true := by kernel_rfl
set_option maxRecDepth 100000 in
theorem r15_15 : run (.row [2, 1, 1, 1, 1]) (.row [2, 1, 1, 1, 1]) = true := by kernel_rfl
set_option maxRecDepth 100000 in
theorem r15_16 : run (.row [2, 1, 1, 1, 1]) (.row [2, 2]) = true := by kernel_rfl
set_option maxRecDepth 100000 in
theorem r15_17 : run (.row [2, 1, 1, 1, 1]) (.row [2, 2, 1]) = true := by kernel_rfl
set_option maxRecDepth 100000 in
theorem r15_18 : run (.row [2, 1, 1, 1, 1]) (.row [2, 2, 1, 1]) = true := by kernel_rfl
set_option maxRecDepth 100000 in
theorem r15_19 : run (.row [2, 1, 1, 1, 1]) (.row [2, 2, 2]) = true := by kernel_rfl
set_option maxRecDepth 100000 in
theorem r15_20 : run (.row [2, 1, 1, 1, 1]) (.row [3]) = true := by kernel_rfl
set_option maxRecDepth 100000 in
theorem r15_21 : run (.row [2, 1, 1, 1, 1]) (.row [3, 1]) = true := by kernel_rfl
set_option maxRecDepth 100000 in
theorem r15_22 : run (.row [2, 1, 1, 1, 1]) (.row [3, 1, 1]) = true := by kernel_rfl
set_option maxRecDepth 100000 in
theorem r15_23 : run (.row [2, 1, 1, 1, 1]) (.row [3, 1, 1, 1]) = true := by kernel_rfl
set_option maxRecDepth 100000 in
theorem r15_24 : run (.row [2, 1, 1, 1, 1]) (.row [3, 2]) = true := by kernel_rfl
set_option maxRecDepth 100000 in
theorem r15_25 : run (.row [2, 1, 1, 1, 1]) (.row [3, 2, 1]) = true := by kernel_rfl
set_option maxRecDepth 100000 in
theorem r15_26 : run (.row [2, 1, 1, 1, 1]) (.row [3, 3]) = true := by kernel_rfl
set_option maxRecDepth 100000 in
theorem r15_27 : run (.row [2, 1, 1, 1, 1]) (.row [4]) = true := by kernel_rfl
set_option maxRecDepth 100000 in
theorem r15_28 : run (.row [2, 1, 1, 1, 1]) (.row [4, 1]) = true := by kernel_rfl
set_option maxRecDepth 100000 in
theorem r15_29 : run (.row [2, 1, 1, 1, 1]) (.row [4, 1, 1]) = true := by kernel_rfl
set_option maxRecDepth 100000 in
theorem r15_30 : run (.row [2, 1, 1, 1, 1]) (.row [4, 2]) = true := by kernel_rfl
set_option maxRecDepth 100000 in
theorem r15_31 : run (.row [2, 1, 1, 1, 1]) (.row [5]) = true := by kernel_rfl
set_option maxRecDepth 100000 in
theorem r15_32 : run (.row [2, 1, 1, 1, 1]) (.row [5, 1]) = true := by kernel_rfl
set_option maxRecDepth 100000 in
theorem r15_33 : run (.row [2, 1, 1, 1, 1]) (.row [6]) = true := by kernel_rfl
theorem r15 : AllL (fun c => run (.row [2, 1, 1, 1, 1]) c = true) classes := by
  unfold classes
  rw [shares_eq]
  exact ⟨r15_0, r15_1, r15_2, r15_3, r15_4, r15_5, r15_6, r15_7, r15_8, r15_9, r15_10, r15_11, r15_12, r15_13, r15_14, r15_15, r15_16, r15_17, r15_18, r15_19, r15_20, r15_21, r15_22, r15_23, r15_24, r15_25, r15_26, r15_27, r15_28, r15_29, r15_30, r15_31, r15_32, r15_33, trivial⟩
set_option maxRecDepth 100000 in
theorem r21_0 : run (.row [3, 1]) .nil = true := by kernel_rfl
set_option maxRecDepth 100000 in
theorem r21_1 : run (.row [3, 1]) .zero = true := by kernel_rfl
set_option maxRecDepth 100000 in
theorem r21_2 : run (.row [3, 1]) .no = true := by kernel_rfl
set_option maxRecDepth 100000 in
theorem r21_3 : run (.row [3, 1]) .long = true := by kernel_rfl
set_option maxRecDepth 100000 in
theorem r21_4 : run (.row [3, 1]) (.row []) = true := by kernel_rfl
set_option maxRecDepth 100000 in
theorem r21_5 : run (.row [3, 1]) (.row [1]) = true := by kernel_rfl
set_option maxRecDepth 100000 in
theorem r21_6 : run (.row [3, 1]) (.row [1, 1]) = true := by kernel_rfl
set_option maxRecDepth 100000 in
theorem r21_7 : run (.row [3, 1]) (.row [1, 1, 1]) = true := by kernel_rfl
set_option maxRecDepth 100000 in
theorem r21_8 : run (.row [3, 1]) (.row [1, 1, 1, 1]) = true := by kernel_rfl
set_option maxRecDepth 100000 in
theorem r21_9 : run (.row [3, 1]) (.row [1, 1, 1, 1, 1]) = true := by kernel_rfl
set_option maxRecDepth 100000 in
theorem r21_10 : run (.row [3, 1]) (.row [1, 1, 1, 1, 1, 1]) = true := by kernel_rfl
set_option maxRecDepth 100000 in
theorem r21_11 : run (.row [3, 1]) (.row [2]) = true := by kernel_rfl
set_option maxRecDepth 100000 in
theorem r21_12 : run (.row [3, 1]) (.row [2, 1]) = true := by kernel_rfl
set_option maxRecDepth 100000 in
theorem r21_13 : run (.row [3, 1]) (.row [2, 1, 1]) = true := by kernel_rfl
set_option maxRecDepth 100000 in
theorem r21_14 : run (.row [3, 1]) (.row [2, 1, 1, 1]) = true := by kernel_rfl
set_option maxRecDepth 100000 in
theorem r21_15 : run (.row [3, 1]) (.row [2, 1, 1, 1, 1]) = true := by kernel_rfl
set_option maxRecDepth 100000 in
theorem r21_16 : run (.row [3, 1]) (.row [2, 2]) = true := by kernel_rfl
set_option maxRecDepth 100000 in
theorem r21_17 : run (.row [3, 1]) (.row [2, 2, 1]) = true := by kernel_rfl
set_option maxRecDepth 100000 in
theorem r21_18 : run (.row [3, 1]) (.row [2, 2, 1, 1]) = true := by kernel_rfl
set_option maxRecDepth 100000 in
theorem r21_19 : run (.row [3, 1]) (.row [2, 2, 2]) = true := by kernel_rfl
set_option maxRecDepth 100000 in
theorem r21_20 : run (.row [3, 1]) (.row [3]) = true := by kernel_rfl
set_option maxRecDepth 100000 in
theorem r21_21 : run (.row [3, 1]) (.row [3, 1]) = true := by kernel_rfl
set_option maxRecDepth 100000 in
theorem r21_22 : run (.row [3, 1]) (.row [3, 1, 1]) = true := by kernel_rfl
set_option maxRecDepth 100000 in
theorem r21_23 : run (.row [3, 1]) (.row [3, 1, 1, 1]) = true := by kernel_rfl
set_option maxRecDepth 100000 in
theorem r21_24 : run (.row [3, 1]) (.row [3, 2]) = true := by kernel_rfl
set_option maxRecDepth 100000 in
theorem r21_25 : run (.row [3, 1]) (.row [3, 2, 1]) = true := by kernel_rfl
set_option maxRecDepth 100000 in
theorem r21_26 : run (.row [3, 1]) (.row [3, 3]) = true := by kernel_rfl
set_option maxRecDepth 100000 in
theorem r21_27 : run (.row [3, 1]) (.row [4]) = true := by kernel_rfl
set_option maxRecDepth 100000 in
theorem r21_28 : run (.row [3, 1]) (.row [4, 1]) = true := by kernel_rfl
set_option maxRecDepth 100000 in
theorem r21_29 : run (.row [3, 1]) (.row [4, 1, 1]) = true := by kernel_rfl
set_option maxRecDepth 100000 in
theorem r21_30 : run (.row [3, 1]) (.row [4, 2]) = true := by kernel_rfl
set_option maxRecDepth 100000 in
theorem r21_31 : run (.row [3, 1]) (.row [5]) = true := by kernel_rfl
set_option maxRecDepth 100000 in
theorem r21_32 : run (.row [3, 1]) (.row [5, 1]) = true := by kernel_rfl
set_option maxRecDepth 100000 in
theorem r21_33 : run (.row [3, 1]) (.row [6]) = true := by kernel_rfl
theorem r21 : AllL (fun c => run (.row [3, 1]) c = true) classes := by
  unfold classes
  rw [shares_eq]
  exact ⟨r21_0, r21_1, r21_2, r21_3, r21_4, r21_5, r21_6, r21_7, r21_8, r21_9, r21_10, r21_11, r21_12, r21_13, r21_14, r21_15, r21_16, r21_17, r21_18, r21_19, r21_20, r21_21, r21_22, r21_23, r21_24, r21_25, r21_26, r21_27, r21_28, r21_29, r21_30, r21_31, r21_32, r21_33, trivial⟩
set_option maxRecDepth 100000 in
theorem r27_0 : run (.row [4]) .nil = true := by kernel_rfl
set_option maxRecDepth 100000 in
theorem r27_1 : run (.row [4]) .zero = true := by kernel_rfl
set_option maxRecDepth 100000 in
theorem r27_2 : run (.row [4]) .no = true := by kernel_rfl
set_option maxRecDepth 100000 in
theorem r27_3 : run (.row [4]) .long = true := by kernel_rfl
set_option maxRecDepth 100000 in
theorem r27_4 : run (.row [4]) (.row []) = true := by kernel_rfl
set_option maxRecDepth 100000 in
theorem r27_5 : run (.row [4]) (.row [1]) = true := by kernel_rfl
set_option maxRecDepth 100000 in
theorem r27_6 : run (.row [4]) (.row [1, 1]) = true := by kernel_rfl
set_option maxRecDepth 100000 in
theorem r27_7 : run (.row [4]) (.row [1, 1, 1]) = true := by kernel_rfl
set_option maxRecDepth 100000 in
theorem r27_8 : run (.row [4]) (.row [1, 1, 1, 1]) = true := by kernel_rfl
set_option maxRecDepth 100000 in
theorem r27_9 : run (.row [4]) (.row [1, 1, 1, 1, 1]) = true := by kernel_rfl
set_option maxRecDepth 100000 in
theorem r27_10 : run (.row [4]) (.row [1, 1, 1, 1, 1, 1]) = true := by kernel_rfl
set_option maxRecDepth 100000 in
theorem r27_11 : run (.row [4]) (.row [2]) = true := by kernel_rfl
set_option maxRecDepth 100000 in
theorem r27_12 : run (.row [4]) (.row [2, 1]) = true := by kernel_rfl
set_option maxRecDepth 100000 in
theorem r27_13 : run (.row [4]) (.row [2, 1, 1]) = true := by kernel_rfl
set_option maxRecDepth 100000 in
theorem r27_14 : run (.row [4]) (.row [2, 1, 1, 1]) = true := by kernel_rfl
set_option maxRecDepth 100000 in
theorem r27_15 : run (.row [4]) (.row [2, 1, 1, 1, 1]) = true := by kernel_rfl
set_option maxRecDepth 100000 in
theorem r27_16 : run (.row [4]) (.row [2, 2]) = true := by kernel_rfl
set_option maxRecDepth 100000 in
theorem r27_17 : run (.row [4]) (.row [2, 2, 1]) = true := by kernel_rfl
set_option maxRecDepth 100000 in
theorem r27_18 : run (.row [4]) (.row [2, 2, 1, 1]) = true := by kernel_rfl
set_option maxRecDepth 100000 in
theorem r27_19 : run (.row [4]) (.row [2, 2, 2]) = true := by kernel_rfl
set_option maxRecDepth 100000 in
theorem r27_20 : run (.row [4]) (.row [3]) = true := by kernel_rfl
set_option maxRecDepth 100000 in
theorem r27_21 : run (.row [4]) (.row [3, 1]) = true := by kernel_rfl
set_option maxRecDepth 100000 in
theorem r27_22 : run (.row [4]) (.row [3, 1, 1]) = true := by kernel_rfl
set_option maxRecDepth 100000 in
theorem r27_23 : run (.row [4]) (.row [3, 1, 1, 1]) = true := by kernel_rfl
set_option maxRecDepth 100000 in
theorem r27_24 : run (.row [4]) (.row [3, 2]) = true := by kernel_rfl
set_option maxRecDepth 100000 in
theorem r27_25 : run (.row [4]) (.row [3, 2, 1]) = true := by kernel_rfl
set_option maxRecDepth 100000 in
theorem r27_26 : run (.row [4]) (.row [3, 3]) = true := by kernel_rfl
set_option maxRecDepth 100000 in
theorem r27_27 : run (.row [4]) (.row [4]) = true := by kernel_rfl
set_option maxRecDepth 100000 in
theorem r27_28 : run (.row [4]) (.row [4, 1]) = true := by kernel_rfl
set_option maxRecDepth 100000 in
theorem r27_29 : run (.row [4]) (.row [4, 1, 1]) = true := by kernel_rfl
set_option maxRecDepth 100000 in
theorem r27_30 : run (.row [4]) (.row [4, 2]) = true := by kernel_rfl
set_option maxRecDepth 100000 in
theorem r27_31 : run (.row [4]) (.row [5]) = true := by kernel_rfl
set_option maxRecDepth 100000 in
theorem r27_32 : run (.row [4]) (.row [5, 1]) = true := by kernel_rfl
set_option maxRecDepth 100000 in
theorem r27_33 : run (.row [4]) (.row [6]) = true := by kernel_rfl
theorem r27 : AllL (fun c => run (.row [4]) c = true) classes := by
  unfold classes
  rw [shares_eq]
  exact ⟨r27_0, r27_1, r27_2, r27_3, r27_4, r27_5, r27_6, r27_7, r27_8, r27_9, r27_10, r27_11, r27_12, r27_13, r27_14, r27_15, r27_16, r27_17, r27_18, r27_19, r27_20, r27_21, r27_22, r27_23, r27_24, r27_25, r27_26, r27_27, r27_28, r27_29, r27_30, r27_31, r27_32, r27_33, trivial⟩
set_option maxRecDepth 100000 in
theorem r33_0 : run (.row [6]) .nil = true := by kernel_rfl
set_option maxRecDepth 100000 in
theorem r33_1 : run (.row [6]) .zero = true := by kernel_rfl
set_option maxRecDepth 100000 in
theorem r33_2 : run (.row [6]) .no = true := by kernel_rfl
set_option maxRecDepth 100000 in
theorem r33_3 : run (.row [6]) .long = true := by kernel_rfl
set_option maxRecDepth 100000 in
theorem r33_4 : run (.row [6]) (.row []) = true := by kernel_rfl
set_option maxRecDepth 100000 in
theorem r33_5 : run (.row [6]) (.row [1]) = true := by kernel_rfl
set_option maxRecDepth 100000 in
theorem r33_6 : run (.row [6]) (.row [1, 1]) = true := by kernel_rfl
set_option maxRecDepth 100000 in
theorem r33_7 : run (.row [6]) (.row [1, 1, 1]) = true := by kernel_rfl
set_option maxRecDepth 100000 in
theorem r33_8 : run (.row [6]) (.row [1, 1, 1, 1]) = true := by kernel_rfl
set_option maxRecDepth 100000 in
theorem r33_9 : run (.row [6]) (.row [1, 1, 1, 1, 1]) = true := by kernel_rfl
set_option maxRecDepth 100000 in
theorem r33_10 : run (.row [6]) (.row [1, 1, 1, 1, 1, 1]) = true := by kernel_rfl
set_option maxRecDepth 100000 in
theorem r33_11 : run (.row [6]) (.row [2]) = true := by kernel_rfl
set_option maxRecDepth 100000 in
theorem r33_12 : run (.row [6]) (.row [2, 1]) = true := by kernel_rfl
set_option maxRecDepth 100000 in
theorem r33_13 : run (.row [6]) (.row [2, 1, 1]) = true := by kernel_rfl
set_option maxRecDepth 100000 in
theorem r33_14 : run (.row [6]) (.row [2, 1, 1, 1]) = true := by kernel_rfl
set_option maxRecDepth 100000 in
theorem r33_15 : run (.row [6]) (.row [2, 1, 1, 1, 1]) = true := by kernel_rfl
set_option maxRecDepth 100000 in
theorem r33_16 : run (.row [6]) (.row [2, 2]) = true := by kernel_rfl
set_option maxRecDepth 100000 in
theorem r33_17 : run (.row [6]) (.row [2, 2, 1]) = true := by kernel_rfl
set_option maxRecDepth 100000 in
theorem r33_18 : run (.row [6]) (.row [2, 2, 1, 1]) = true := by kernel_rfl
set_option maxRecDepth 100000 in
theorem r33_19 : run (.row [6]) (.row [2, 2, 2]) = true := by kernel_rfl
set_option maxRecDepth 100000 in
theorem r33_20 : run (.row [6]) (.row [3]) = true := by kernel_rfl
set_option maxRecDepth 100000 in
theorem r33_21 : run (.row [6]) (.row [3, 1]) = true := by kernel_rfl
set_option maxRecDepth 100000 in
theorem r33_22 : run (.row [6]) (.row [3, 1, 1]) = true := by kernel_rfl
set_option maxRecDepth 100000 in
theorem r33_23 : run (.row [6]) (.row [3, 1, 1, 1]) = true := by kernel_rfl
set_option maxRecDepth 100000 in
theorem r33_24 : run (.row [6]) (.row [3, 2]) = true := by kernel_rfl
set_option maxRecDepth 100000 in
theorem r33_25 : run (.row [6]) (.row [3, 2, 1]) = true := by kernel_rfl
set_option maxRecDepth 100000 in
theorem r33_26 : run (.row [6]) (.row [3, 3]) = true := by kernel_rfl
set_option maxRecDepth 100000 in
theorem r33_27 : run (.row [6]) (.row [4]) = true := by kernel_rfl
set_option maxRecDepth 100000 in
theorem r33_28 : run (.row [6]) (.row [4, 1]) = true := by kernel_rfl
set_option maxRecDepth 100000 in
theorem r33_29 : run (.row [6]) (.row [4, 1, 1]) = true := by kernel_rfl
set_option maxRecDepth 100000 in
theorem r33_30 : run (.row [6]) (.row [4, 2]) = true := by kernel_rfl
set_option maxRecDepth 100000 in
theorem r33_31 : run (.row [6]) (.row [5]) = true := by kernel_rfl
set_option maxRecDepth 100000 in
theorem r33_32 : run (.row [6]) (.row [5, 1]) = true := by kernel_rfl
set_option maxRecDepth 100000 in
theorem r33_33 : run (.row [6]) (.row [6]) = true := by kernel_rfl
theorem r33 : AllL (fun c => run (.row [6]) c = true) classes := by
  unfold classes
  rw [shares_eq]
  exact ⟨r33_0, r33_1, r33_2, r33_3, r33_4, r33_5, r33_6, r33_7, r33_8, r33_9, r33_10, r33_11, r33_12, r33_13, r33_14, r33_15, r33_16, r33_17, r33_18, r33_19, r33_20, r33_21, r33_22, r33_23, r33_24, r33_25, r33_26, r33_27, r33_28, r33_29, r33_30, r33_31, r33_32, r33_33, trivial⟩
end Go.Proofs.Ythggbkoccgigaaa.fnExactTableChosenRuns
