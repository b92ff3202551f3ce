/- The runs of FnExactTableChosen, part 2. -/
import Derived.Test.YthggbkoccgigaaaEngZb
import Derived.Test.YthggbkoccgigaaaChosenZ
import Derived.Test.YthggbkoccgigaaaProg
namespace Go.Proofs.Ythggbkoccgigaaa.fnExactTableChosenRuns
set_option linter.unusedVariables false
set_option linter.unusedSectionVars false
set_option linter.unusedSimpArgs false
open Go.Eng Go.Proofs.Ythggbkoccgigaaa.tabChosen
set_option maxRecDepth 100000 in
theorem r2_0 : run .no .nil = true := by kernel_rfl
set_option maxRecDepth 100000 in
theorem r2_1 : run .no .zero = true := by kernel_rfl
set_option maxRecDepth 100000 in
theorem r2_2 : run .no .no = true := by kernel_rfl
set_option maxRecDepth 100000 in
theorem r2_3 : run .no .long = true := by kernel_rfl
set_option maxRecDepth 100000 in
theorem r2_4 : run .no (.row []) = true := by kernel_rfl
set_option maxRecDepth 100000 in
theorem r2_5 : run .no (.row [1]) = true := by kernel_rfl
set_option maxRecDepth 100000 in
theorem r2_6 : run .no (.row [1, 1]) = true := by kernel_rfl
set_option maxRecDepth 100000 in
theorem r2_7 : run .no (.row [1, 1, 1]) = true := by kernel_rfl
set_option maxRecDepth 100000 in
theorem r2_8 : run .no (.row [1, 1, 1, 1]) = true := by kernel_rfl
set_option maxRecDepth 100000 in
theorem r2_9 : run .no (.row [1, 1, 1, 1, 1]) = true := by kernel_rfl
set_option maxRecDepth 100000 in
theorem r2_10 : run .no (.row [1, 1, 1, 1, 1, 1]) = true := by kernel_rfl
set_option maxRecDepth 100000 in
theorem r2_11 : run .no (.row [2]) = true := by kernel_rfl
set_option maxRecDepth 100000 in
theorem r2_12 : run .no (.row [2, 1]) = true := by kernel_rfl
set_option maxRecDepth 100000 in
theorem r2_13 : run .no (.row [2, 1, 1]) = true := by kernel_rfl
set_option maxRecDepth 100000 in
theorem r2_14 : run .no (.row [2, 1, 1, 1]) = true := by kernel_rfl
set_option maxRecDepth 100000 in
theorem r2_15 : run .no (.row [2, 1, 1, 1, 1]) = true := by kernel_rfl
set_option maxRecDepth 100000 in
theorem r2_16 : run .no (.row [2, 2]) = true := by kernel_rfl
set_option maxRecDepth 100000 in
theorem r2_17 : run .no (.row [2, 2, 1]) = true := by kernel_rfl
set_option maxRecDepth 100000 in
theorem r2_18 : run .no (.row [2, 2, 1, 1]) = true := by kernel_rfl
set_option maxRecDepth 100000 in
theorem r2_19 : run .no (.row [2, 2, 2]) = true := by kernel_rfl
set_option maxRecDepth 100000 in
theorem r2_20 : run .no (.row [3]) = true := by kernel_rfl
set_option maxRecDepth 100000 in
theorem r2_21 : run .no (.row [3, 1]) = true := by kernel_rfl
set_option maxRecDepth 100000 in
theorem r2_22 : run .no (.row [3, 1, 1]) = true := by kernel_rfl
set_option maxRecDepth 100000 in
theorem r2_23 : run .no (.row [3, 1, 1, 1]) = true := by kernel_rfl
set_option maxRecDepth 100000 in
theorem r2_24 : run .no (.row [3, 2]) = true := by kernel_rfl
set_option maxRecDepth 100000 in
theorem r2_25 : run .no (.row [3, 2, 1]) = true := by kernel_rfl
set_option maxRecDepth 100000 in
theorem r2_26 : run .no (.row [3, 3]) = true := by kernel_rfl
set_option maxRecDepth 100000 in
theorem r2_27 : run .no (.row [4]) = true := by kernel_rfl
set_option maxRecDepth 100000 in
theorem r2_28 : run .no (.row [4, 1]) = true := by kernel_rfl
set_option maxRecDepth 100000 in
theorem r2_29 : run .no (.row [4, 1, 1]) = true := by kernel_rfl
set_option maxRecDepth 100000 in
theorem r2_30 : run .no (.row [4, 2]) = true := by kernel_rfl
set_option maxRecDepth 100000 in
theorem r2_31 : run .no (.row [5]) = true := by kernel_rfl
set_option maxRecDepth 100000 in
theorem r2_32 : run .no (.row [5, 1]) = true := by kernel_rfl
set_option maxRecDepth 100000 in
theorem r2_33 : run .no (.row [6]) = true := by kernel_rfl
theorem r2 : AllL (fun c => run .no c = true) classes := by
  unfold classes
  rw [shares_eq]
  exact ⟨r2_0, r2_1, r2_2, r2_3, r2_4, r2_5, r2_6, r2_7, r2_8, r2_9, r2_10, r2_11, r2_12, r2_13, r2_14, r2_15, r2_16, r2_17, r2_18, r2_19, r2_20, r2_21, r2_22, r2_23, r2_24, r2_25, r2_26, r2_27, r2_28, r2_29, r2_30, r2_31, r2_32, r2_33, trivial⟩
set_option maxRecDepth 100000 in
theorem r8_0 : run (.row [1, 1, 1, 1]) .nil = true := by kernel_rfl
set_option maxRecDepth 100000 in
theorem r8_1 : run (.row [1, 1, 1, 1]) .zero = true := by kernel_rfl
set_option maxRecDepth 100000 in
theorem r8_2 : run (.row [1, 1, 1, 1]) .no = true := by kernel_rfl
set_option maxRecDepth 100000 in
theorem r8_3 : run (.row [1, 1, 1, 1]) .long = true := by kernel_rfl
set_option maxRecDepth 100000 in
theorem r8_4 : run (.row [1, 1, 1, 1]) (.row []) = true := by kernel_rfl
set_option maxRecDepth 100000 in
theorem r8_5 : run (.row [1, 1, 1, 1]) (.row [1]) = true := by kernel_rfl
set_option maxRecDepth 100000 in
theorem r8_6 : run (.row [1, 1, 1, 1]) (.row [1, 1]) = true := by kernel_rfl
set_option maxRecDepth 100000 in
theorem r8_7 : run (.row [1, 1, 1, 1]) (.row [1, 1, 1]) = true := by kernel_rfl
set_option maxRecDepth 100000 in
theorem r8_8 : run (.row [1, 1, 1, 1]) (.row [1, 1, 1, 1]) = true := by kernel_rfl
set_option maxRecDepth 100000 in
theorem r8_9 : run (.row [1, 1, 1, 1]) (.row [1, 1, 1, 1, 1]) = true := by kernel_rfl
set_option maxRecDepth 100000 in
theorem r8_10 : run (.row [1, 1, 1, 1]) (.row [1, 1, 1, 1, 1, 1]) = true := by kernel_rfl
set_option maxRecDepth 100000 in
theorem r8_11 : run (.row [1, 1, 1, 1]) (.row [2]) = true := by kernel_rfl
set_option maxRecDepth 100000 in
theorem r8_12 : run (.row [1, 1, 1, 1]) (.row [2, 1]) = true := by kernel_rfl
set_option maxRecDepth 100000 in
theorem r8_13 : run (.row [1, 1, 1, 1]) (.row [2, 1, 1]) = true := by kernel_rfl
set_option maxRecDepth 100000 in
theorem r8_14 : run (.row [1, 1, 1, 1]) (.row [2, 1, 1, 1]) = true := by kernel_rfl
set_option maxRecDepth 100000 in
theorem r8_15 : run (.row [1, 1, 1, 1]) (.row [2, 1, 1, 1, 1]) = true := by kernel_rfl
set_option maxRecDepth 100000 in
theorem r8_16 : run (.row [1, 1, 1, 1]) (.row [2, 2]) = true := by kernel_rfl
set_option maxRecDepth 100000 in
theorem r8_17 : run (.row [1, 1, 1, 1]) (.row [2, 2, 1]) = true := by kernel_rfl
set_option maxRecDepth 100000 in
theorem r8_18 : run (.row [1, 1, 1, 1]) (.row [2, 2, 1, 1]) = true := by kernel_rfl
set_option maxRecDepth 100000 in
theorem r8_19 : run (.row [1, 1, 1, 1]) (.row [2, 2, 2]) = true := by kernel_rfl
set_option maxRecDepth 100000 in
theorem r8_20 : run (.row [1, 1, 1, 1]) (.row [3]) = true := by kernel_rfl
set_option maxRecDepth 100000 in
theorem r8_21 : run (.row [1, 1, 1, 1]) (.row [3, 1]) = true := by kernel_rfl
set_option maxRecDepth 100000 in
theorem r8_22 : run (.row [1, 1, 1, 1]) (.row [3, 1, 1]) = true := by kernel_rfl
set_option maxRecDepth 100000 in
theorem r8_23 : run (.row [1, 1, 1, 1]) (.row [3, 1, 1, 1]) = true := by kernel_rfl
set_option maxRecDepth 100000 in
theorem r8_24 : run (.row [1, 1, 1, 1]) (.row [3, 2]) = true := by kernel_rfl
set_option maxRecDepth 100000 in
theorem r8_25 : run (.row [1, 1, 1, 1]) (.row [3, 2, 1]) = true := by kernel_rfl
set_option maxRecDepth 100000 in
theorem r8_26 : run (.row [1, 1, 1, 1]) (.row [3, 3]) = true := by kernel_rfl
set_option maxRecDepth 100000 in
theorem r8_27 : run (.row [1, 1, 1, 1]) (.row [4]) = true := by kernel_rfl
set_option maxRecDepth 100000 in
theorem r8_28 : run (.row [1, 1, 1, 1]) (.row [4, 1]) = true := by kernel_rfl
set_option maxRecDepth 100000 in
theorem r8_29 : run (.row [1, 1, 1, 1]) (.row [4, 1, 1]) = true := by kernel_rfl
set_option maxRecDepth 100000 in
theorem r8_30 : run (.row [1, 1, 1, 1]) (.row [4, 2]) = true := by kernel_rfl
set_option maxRecDepth 100000 in
theorem r8_31 : run (.row [1, 1, 1, 1]) (.row [5]) = true := by kernel_rfl
set_option maxRecDepth 100000 in
theorem r8_32 : run (.row [1, 1, 1, 1]) (.row [5, 1]) = true := by kernel_rfl
set_option maxRecDepth 100000 in
theorem r8_33 : run (.row [1, 1, 1, 1]) (.row [6]) = true := by kernel_rfl
theorem r8 : AllL (fun c => run (.row [1, 1, 1, 1]) c = true) classes := by
  unfold classes
  rw [shares_eq]
  exact ⟨r8_0, r8_1, r8_2, r8_3, r8_4, r8_5, r8_6, r8_7, r8_8, r8_9, r8_10, r8_11, r8_12, r8_13, r8_14, r8_15, r8_16, r8_17, r8_18, r8_19, r8_20, r8_21, r8_22, r8_23, r8_24, r8_25, r8_26, r8_27, r8_28, r8_29, r8_30, r8_31, r8_32, r8_33, trivial⟩
set_option maxRecDepth 100000 in
theorem r14_0 : run (.row [2, 1, 1, 1]) .nil = true := by kernel_rfl
set_option maxRecDepth 100000 in
theorem r14_1 : run (.row [2, 1, 1, 1]) .zero = true := by kernel_rfl
set_option maxRecDepth 100000 in
theorem r14_2 : run (.row [2, 1, 1, 1]) .no = true := by kernel_rfl
set_option maxRecDepth 100000 in
theorem r14_3 : run (.row [2, 1, 1, 1]) .long = true := by kernel_rfl
set_option maxRecDepth 100000 in
theorem r14_4 : run (.row [2, 1, 1, 1]) (.row []) = true := by kernel_rfl
set_option maxRecDepth 100000 in
theorem r14_5 : run (.row [2, 1, 1, 1]) (.row [1]) = true := by kernel_rfl
set_option maxRecDepth 100000 in
theorem r14_6 : run (.row [2, 1, 1, 1]) (.row [1, 1]) = true := by kernel_rfl
set_option maxRecDepth 100000 in
theorem r14_7 : run (.row [2, 1, 1, 1]) (.row [1, 1, 1]) = true := by kernel_rfl
set_option maxRecDepth 100000 in
theorem r14_8 : run (.row [2, 1, 1, 1]) (.row [1, 1, 1, 1]) = true := by kernel_rfl
set_option maxRecDepth 100000 in
theorem r14_9 : run (.row [2, 1, 1, 1]) (.row [1, 1, 1, 1, 1]) = true := by kernel_rfl
set_option maxRecDepth 100000 in
theorem r14_10 : run (.row [2, 1, 1, 1]) (.row [1, 1, 1, 1, 1, 1]) = true := by kernel_rfl
set_option maxRecDepth 100000 in
theorem r14_11 : run (.row [2, 1, 1, 1]) (.row [2]) = true := by kernel_rfl
set_option maxRecDepth 100000 in
theorem r14_12 : run (.row [2, 1, 1, 1]) (.row [2, 1]) = true := by kernel_rfl
set_option maxRecDepth 100000 in
theorem r14_13 : run (.row [2, 1, 1, 1]) (.row [2, 1, 1]) = true := by kernel_rfl
set_option maxRecDepth 100000 in
theorem r14_14 : run (.row [2, 1, 1, 1]) (.row [2, 1, 1, 1]) = true := by kernel_rfl
set_option maxRecDepth 100000 in
theorem r14_15 : run (.row [2, 1, 1, 1]) (.row [2, 1, 1, 1, 1]) = true := by kernel_rfl
set_option maxRecDepth 100000 in
theorem r14_16 : run (.row [2, 1, 1, 1]) (.row [2, 2]) = true := by kernel_rfl
set_option maxRecDepth 100000 in
theorem r14_17 : run (.row [2, 1, 1, 1]) (.row [2, 2, 1]) = true := by kernel_rfl
set_option maxRecDepth 100000 in
theorem r14_18 : run (.row [2, 1, 1, 1]) (.row [2, 2, 1, 1]) = true := by kernel_rfl
set_option maxRecDepth 100000 in
theorem r14_19 : run (.row [2, 1, 1, 1]) (.row [2, 2, 2]) = true := by kernel_rfl
set_option maxRecDepth 100000 in
theorem r14_20 : run (.row [2, 1, 1, 1]) (.row [3]) = true := by kernel_rfl
set_option maxRecDepth 100000 in
theorem r14_21 : run (.row [2, 1, 1, 1]) (.row [3, 1]) = true := by kernel_rfl
set_option maxRecDepth 100000 in
theorem r14_22 : run (.row [2, 1, 1, 1]) (.row [3, 1, 1]) = true := by kernel_rfl
set_option maxRecDepth 100000 in
theorem r14_23 : run (.row [2, 1, 1, 1]) (.row [3, 1, 1, 1]) = true := by kernel_rfl
set_option maxRecDepth 100000 in
theorem r14_24 : run (.row [2, 1, 1, 1]) (.row [3, 2]) = true := by kernel_rfl
set_option maxRecDepth 100000 in
theorem r14_25 : run (.row [2, 1, 1, 1]) (.row [3, 2, 1]) = true := by kernel_rfl
set_option maxRecDepth 100000 in
theorem r14_26 : run (.row [2, 1, 1, 1]) (.row [3, 3]) = true := by kernel_rfl
set_option maxRecDepth 100000 in
theorem r14_27 : run (.row [2, 1, 1, 1]) (.row [4]) = true := by kernel_rfl
set_option maxRecDepth 100000 in
theorem r14_28 : run (.row [2, 1, 1, 1]) (.row [4, 1]) = true := by kernel_rfl
set_option maxRecDepth 100000 in
theorem r14_29 : run (.row [2, 1, 1, 1]) (.row [4, 1, 1]) = true := by kernel_rfl
set_option maxRecDepth 100000 in
theorem r14_30 : run (.row [2, 1, 1, 1]) (.row [4, 2]) = true := by kernel_rfl
set_option maxRecDepth 100000 in
theorem r14_31 : run (.row [2, 1, 1, 1]) (.row [5]) = true := by kernel_rfl
set_option maxRecDepth 100000 in
theorem r14_32 : run (.row [2, 1, 1, 1]) (.row [5, 1]) = true := by kernel_rfl
set_option maxRecDepth 100000 in
theorem r14_33 : run (.row [2, 1, 1, 1]) (.row [6]) = true := by kernel_rfl
theorem r14 : AllL (fun c => run (.row [2, 1, 1, 1]) c = true) classes := by
  unfold classes
  rw [shares_eq]
  exact ⟨r14_0, r14_1, r14_2, r14_3, r14_4, r14_5, r14_6, r14_7, r14_8, r14_9, r14_10, r14_11, r14_12, r14_13, r14_14, r14_15, r14_16, r14_17, r14_18, r14_19, r14_20, r14_21, r14_22, r14_23, r14_24, r14_25, r14_26, r14_27, r14_28, r14_29, r14_30, r14_31, r14_32, r14_33, trivial⟩
set_option maxRecDepth 100000 in
theorem r20_0 : run (.row [3]) .nil = true := by kernel_rfl
set_option maxRecDepth 100000 in
theorem r20_1 : run (.row [3]) .zero = true := by kernel_rfl
set_option maxRecDepth 100000 in
theorem r20_2 : run (.row [3]) .no = true := by kernel_rfl
set_option maxRecDepth 100000 in
theorem r20_3 : run (.row [3]) .long = true := by kernel_rfl
set_option maxRecDepth 100000 in
theorem r20_4 : run (.row [3]) (.row []) = true := by kernel_rfl
set_option maxRecDepth 100000 in
theorem r20_5 : run (.row [3]) (.row [1]) = true := by kernel_rfl
set_option maxRecDepth 100000 in
theorem r20_6 : run (.row [3]) (.row [1, 1]) = true := by kernel_rfl
set_option maxRecDepth 100000 in
theorem r20_7 : run (.row [3]) (.row [1, 1, 1]) = true := by kernel_rfl
set_option maxRecDepth 100000 in
theorem r20_8 : run (.row [3]) (.row [1, 1, 1, 1]) = true := by kernel_rfl
set_option maxRecDepth 100000 in
theorem r20_9 : run (.row [3]) (.row [1, 1, 1, 1, 1]) = true := by kernel_rfl
set_option maxRecDepth 100000 in
theorem r20_10 : run (.row [3]) (.row [1, 1, 1, 1, 1, 1]) = true := by kernel_rfl
set_option maxRecDepth 100000 in
theorem r20_11 : run (.row [3]) (.row [2]) = true := by kernel_rfl
set_option maxRecDepth 100000 in
theorem r20_12 : run (.row [3]) (.row [2, 1]) = true := by kernel_rfl
set_option maxRecDepth 100000 in
theorem r20_13 : run (.row [3]) (.row [2, 1, 1]) = true := by kernel_rfl
set_option maxRecDepth 100000 in
theorem r20_14 : run (.row [3]) (.row [2, 1, 1, 1]) = true := by kernel_rfl
set_option maxRecDepth 100000 in
theorem r20_15 : run (.row [3]) (.row [2, 1, 1, 1, 1]) = true := by kernel_rfl
set_option maxRecDepth 100000 in
theorem r20_16 : run (.row [3]) (.row [2, 2]) = true := by kernel_rfl
set_option maxRecDepth 100000 in
theorem r20_17 : run (.row [3]) (.row [2, 2, 1]) = true := by kernel_rfl
set_option maxRecDepth 100000 in
theorem r20_18 : run (.row [3]) (.row [2, 2, 1, 1]) = true := by kernel_rfl
set_option maxRecDepth 100000 in
theorem r20_19 : run (.row [3]) (.row [2, 2, 2]) = true := by kernel_rfl
set_option maxRecDepth 100000 in
theorem r20_20 : run (.row [3]) (.row [3]) = true := by kernel_rfl
set_option maxRecDepth 100000 in
theorem r20_21 : run (.row [3]) (.row [3, 1]) = true := by kernel_rfl
set_option maxRecDepth 100000 in
theorem r20_22 : run (.row [3]) (.row [3, 1, 1]) = true := by kernel_rfl
set_option maxRecDepth 100000 in
theorem r20_23 : run (.row [3]) (.row [3, 1, 1, 1]) = true := by kernel_rfl
set_option maxRecDepth 100000 in
theorem r20_24 : run (.row [3]) (.row [3, 2]) = true := by kernel_rfl
set_option maxRecDepth 100000 in
theorem r20_25 : run (.row [3]) (.row [3, 2, 1]) = true := by kernel_rfl
set_option maxRecDepth 100000 in
theorem r20_26 : run (.row [3]) (.row [3, 3]) = true := by kernel_rfl
set_option maxRecDepth 100000 in
theorem r20_27 : run (.row [3]) (.row [4]) = true := by kernel_rfl
set_option maxRecDepth 100000 in
theorem r20_28 : run (.row [3]) (.row [4, 1]) = true := by kernel_rfl
set_option maxRecDepth 100000 in
theorem r20_29 : run (.row [3]) (.row [4, 1, 1]) = true := by kernel_rfl
set_option maxRecDepth 100000 in
theorem r20_30 : run (.row [3]) (.row [4, 2]) = true := by kernel_rfl
set_option maxRecDepth 100000 in
theorem r20_31 : run (.row [3]) (.row [5]) = true := by kernel_rfl
set_option maxRecDepth 100000 in
theorem r20_32 : run (.row [3]) (.row [5, 1]) = true := by kernel_rfl
set_option maxRecDepth 100000 in
theorem r20_33 : run (.row [3]) (.row [6]) = true := by kernel_rfl
theorem r20 : AllL (fun c => run (.row [3]) c = true) classes := by
  unfold classes
  rw [shares_eq]
  exact ⟨r20_0, r20_1, r20_2, r20_3, r20_4, r20_5, r20_6, r20_7, r20_8, r20_9, r20_10, r20_11, r20_12, r20_13, r20_14, r20_15, r20_16, r20_17, r20_18, r20_19, r20_20, r20_21, r20_22, r20_23, r20_24, r20_25, r20_26, r20_27, r20_28, r20_29, r20_30, r20_31, r20_32, r20_33, trivial⟩
set_option maxRecDepth 100000 in
theorem r26_0 : run (.row [3, 3]) .nil = true := by kernel_rfl
set_option maxRecDepth 100000 in
theorem r26_1 : run (.row [3, 3]) .zero = true := by kernel_rfl
set_option maxRecDepth 100000 in
theorem r26_2 : run (.row [3, 3]) .no = true := by kernel_rfl
set_option maxRecDepth 100000 in
theorem r26_3 : run (.row [3, 3]) .long = true := by kernel_rfl
set_option maxRecDepth 100000 in
theorem r26_4 : run (.row [3, 3]) (.row []) = true := by kernel_rfl
set_option maxRecDepth 100000 in
theorem r26_5 : run (.row [3, 3]) (.row [1]) = true := by kernel_rfl
set_option maxRecDepth 100000 in
theorem r26_6 : run (.row [3, 3]) (.row [1, 1]) = true := by kernel_rfl
set_option maxRecDepth 100000 in
theorem r26_7 : run (.row [3, 3]) (.row [1, 1, 1]) = true := by kernel_rfl
set_option maxRecDepth 100000 in
theorem r26_8 : run (.row [3, 3]) (.row [1, 1, 1, 1]) = true := by kernel_rfl
set_option maxRecDepth 100000 in
theorem r26_9 : run (.row [3, 3]) (.row [1, 1, 1, 1, 1]) = true := by kernel_rfl
set_option maxRecDepth 100000 in
theorem r26_10 : run (.row [3, 3]) (.row [1, 1, 1, 1, 1, 1]) = true := by kernel_rfl
set_option maxRecDepth 100000 in
theorem r26_11 : run (.row [3, 3]) (.row [2]) = true := by kernel_rfl
set_option maxRecDepth 100000 in
theorem r26_12 : run (.row [3, 3]) (.row [2, 1]) = true := by kernel_rfl
set_option maxRecDepth 100000 in
theorem r26_13 : run (.row [3, 3]) (.row [2, 1, 1]) = true := by kernel_rfl
set_option maxRecDepth 100000 in
theorem r26_14 : run (.row [3, 3]) (.row [2, 1, 1, 1]) = true := by kernel_rfl
set_option maxRecDepth 100000 in
theorem r26_15 : run (.row [3, 3]) (.row [2, 1, 1, 1, 1]) = true := by kernel_rfl
set_option maxRecDepth 100000 in
theorem r26_16 : run (.row [3, 3]) (.row [2, 2]) = true := by kernel_rfl
set_option maxRecDepth 100000 in
theorem r26_17 : run (.row [3, 3]) (.row [2, 2, 1]) = true := by kernel_rfl
set_option maxRecDepth 100000 in
theorem r26_18 : run (.row [3, 3]) (.row [2, 2, 1, 1]) = true := by kernel_rfl
set_option maxRecDepth 100000 in
theorem r26_19 : run (.row [3, 3]) (.row [2, 2, 2]) = true := by kernel_rfl
set_option maxRecDepth 100000 in
theorem r26_20 : run (.row [3, 3]) (.row [3]) = true := by kernel_rfl
set_option maxRecDepth 100000 in
theorem r26_21 : run (.row [3, 3]) (.row [3, 1]) = true := by kernel_rfl
set_option maxRecDepth 100000 in
theorem r26_22 : run (.row [3, 3]) (.row [3, 1, 1]) = true := by kernel_rfl
set_option maxRecDepth 100000 in
theorem r26_23 : run (.row [3, 3]) (.row [3, 1, 1, 1]) = true := by kernel_rfl
set_option maxRecDepth 100000 in
theorem r26_24 : run (.row [3, 3]) (.row [3, 2]) = true := by kernel_rfl
set_option maxRecDepth 100000 in
theorem r26_25 : run (.row [3, 3]) (.row [3, 2, 1]) = true := by kernel_rfl
set_option maxRecDepth 100000 in
theorem r26_26 : run (.row [3, 3]) (.row [3, 3]) = true := by kernel_rfl
set_option maxRecDepth 100000 in
theorem r26_27 : run (.row [3, 3]) (.row [4]) = true := by kernel_rfl
set_option maxRecDepth 100000 in
theorem r26_28 : run (.row [3, 3]) (.row [4, 1]) = true := by kernel_rfl
set_option maxRecDepth 100000 in
theorem r26_29 : run (.row [3, 3]) (.row [4, 1, 1]) = true := by kernel_rfl
set_option maxRecDepth 100000 in
theorem r26_30 : run (.row [3, 3]) (.row [4, 2]) = true := by kernel_rfl
set_option maxRecDepth 100000 in
theorem r26_31 : run (.row [3, 3]) (.row [5]) = true := by kernel_rfl
set_option maxRecDepth 100000 in
theorem r26_32 : run (.row [3, 3]) (.row [5, 1]) = true := by kernel_rfl
set_option maxRecDepth 100000 in
theorem r26_33 : run (.row [3, 3]) (.row [6]) = true := by kernel_rfl
theorem r26 : AllL (fun c => run (.row [3, 3]) c = true) classes := by
  unfold classes
  rw [shares_eq]
  exact ⟨r26_0, r26_1, r26_2, r26_3, r26_4, r26_5, r26_6, r26_7, r26_8, r26_9, r26_10, r26_11, r26_12, r26_13, r26_14, r26_15, r26_16, r26_17, r26_18, r26_19, r26_20, r26_21, r26_22, r26_23, r26_24, r26_25, r26_26, r26_27, r26_28, r26_29, r26_30, r26_31, r26_32, r26_33, trivial⟩
set_option maxRecDepth 100000 in
theorem r32_0 : run (.row [5, 1]) .nil = true := by kernel_rfl
set_option maxRecDepth 100000 in
theorem r32_1 : run (.row [5, 1]) .zero = true := by kernel_rfl
set_option maxRecDepth 100000 in
theorem r32_2 : run (.row [5, 1]) .no = true := by kernel_rfl
set_option maxRecDepth 100000 in
theorem r32_3 : run (.row [5, 1]) .long = true := by kernel_rfl
set_option maxRecDepth 100000 in
theorem r32_4 : run (.row [5, 1]) (.row []) = true := by kernel_rfl
set_option maxRecDepth 100000 in
theorem r32_5 : run (.row [5, 1]) (.row [1]) = true := by kernel_rfl
set_option maxRecDepth 100000 in
theorem r32_6 : run (.row [5, 1]) (.row [1, 1]) = true := by kernel_rfl
set_option maxRecDepth 100000 in
theorem r32_7 : run (.row [5, 1]) (.row [1, 1, 1]) = true := by kernel_rfl
set_option maxRecDepth 100000 in
theorem r32_8 : run (.row [5, 1]) (.row [1, 1, 1, 1]) = true := by kernel_rfl
set_option maxRecDepth 100000 in
theorem r32_9 : run (.row [5, 1]) (.row [1, 1, 1, 1, 1]) = true := by kernel_rfl
set_option maxRecDepth 100000 in
theorem r32_10 : run (.row [5, 1]) (.row [1, 1, 1, 1, 1, 1]) = true := by kernel_rfl
set_option maxRecDepth 100000 in
theorem r32_11 : run (.row [5, 1]) (.row [2]) = true := by kernel_rfl
set_option maxRecDepth 100000 in
theorem r32_12 : run (.row [5, 1]) (.row [2, 1]) = true := by kernel_rfl
set_option maxRecDepth 100000 in
theorem r32_13 : run (.row [5, 1]) (.row [2, 1, 1]) = true := by kernel_rfl
set_option maxRecDepth 100000 in
theorem r32_14 : run (.row [5, 1]) (.row [2, 1, 1, 1]) = true := by kernel_rfl
set_option maxRecDepth 100000 in
theorem r32_15 : run (.row [5, 1]) (.row [2, 1, 1, 1, 1]) = true := by kernel_rfl
set_option maxRecDepth 100000 in
theorem r32_16 : run (.row [5, 1]) (.row [2, 2]) = true := by kernel_rfl
set_option maxRecDepth 100000 in
theorem r32_17 : run (.row [5, 1]) (.row [2, 2, 1]) = true := by kernel_rfl
set_option maxRecDepth 100000 in
theorem r32_18 : run (.row [5, 1]) (.row [2, 2, 1, 1]) = true := by kernel_rfl
set_option maxRecDepth 100000 in
theorem r32_19 : run (.row [5, 1]) (.row [2, 2, 2]) = true := by kernel_rfl
set_option maxRecDepth 100000 in
theorem r32_20 : run (.row [5, 1]) (.row [3]) = true := by kernel_rfl
set_option maxRecDepth 100000 in
theorem r32_21 : run (.row [5, 1]) (.row [3, 1]) = true := by kernel_rfl
set_option maxRecDepth 100000 in
theorem r32_22 : run (.row [5, 1]) (.row [3, 1, 1]) = true := by kernel_rfl
set_option maxRecDepth 100000 in
theorem r32_23 : run (.row [5, 1]) (.row [3, 1, 1, 1]) = true := by kernel_rfl
set_option maxRecDepth 100000 in
theorem r32_24 : run (.row [5, 1]) (.row [3, 2]) = true := by kernel_rfl
set_option maxRecDepth 100000 in
theorem r32_25 : run (.row [5, 1]) (.row [3, 2, 1]) = true := by kernel_rfl
set_option maxRecDepth 100000 in
theorem r32_26 : run (.row [5, 1]) (.row [3, 3]) = true := by kernel_rfl
set_option maxRecDepth 100000 in
theorem r32_27 : run (.row [5, 1]) (.row [4]) = true := by kernel_rfl
set_option maxRecDepth 100000 in
theorem r32_28 : run (.row [5, 1]) (.row [4, 1]) = true := by kernel_rfl
set_option maxRecDepth 100000 in
theorem r32_29 : run (.row [5, 1]) (.row [4, 1, 1]) = true := by kernel_rfl
set_option maxRecDepth 100000 in
theorem r32_30 : run (.row [5, 1]) (.row [4, 2]) = true := by kernel_rfl
set_option maxRecDepth 100000 in
theorem r32_31 : run (.row [5, 1]) (.row [5]) = true := by kernel_rfl
set_option maxRecDepth 100000 in
theorem r32_32 : run (.row [5, 1]) (.row [5, 1]) = true := by kernel_rfl
set_option maxRecDepth 100000 in
theorem r32_33 : run (.row [5, 1]) (.row [6]) = true := by kernel_rfl
theorem r32 : AllL (fun c => run (.row [5, 1]) c = true) classes := by
  unfold classes
  rw [shares_eq]
  exact ⟨r32_0, r32_1, r32_2, r32_3, r32_4, r32_5, r32_6, r32_7, r32_8, r32_9, r32_10, r32_11, r32_12, r32_13, r32_14, r32_15, r32_16, r32_17, r32_18, r32_19, r32_20, r32_21, r32_22, r32_23, r32_24, r32_25, r32_26, r32_27, r32_28, r32_29, r32_30, r32_31, r32_32, r32_33, trivial⟩
end Go.Proofs.Ythggbkoccgigaaa.fnExactTableChosenRuns
