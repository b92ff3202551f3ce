/- The runs of FnExactTableChosen, part 0. -/
import Derived.Test.YthggbkoccgigaaaEngZb
import Derived.Test.YthggbkoccgigaaaChosenZ
import Derived.Test.YthggbkoccgigaaaProg
namespace Go.Proofs.Ythggbkoccgigaaa.fnExactTableChosenRuns
set_option linter.unusedVariables false
set_option linter.unusedSectionVars false
set_option linter.unusedSimpArgs false
open Go.Eng Go.Proofs.Ythggbkoccgigaaa.tabChosen
set_option maxRecDepth 100000 in
theorem r0_0 : run .nil .nil = true := by kernel_rfl
set_option maxRecDepth 100000 in
theorem r0_1 : run .nil .zero = true := by kernel_rfl
set_option maxRecDepth 100000 in
theorem r0_2 : run .nil .no = true := by kernel_rfl
set_option maxRecDepth 100000 in
theorem r0_3 : run .nil .long = true := by kernel_rfl
set_option maxRecDepth 100000 in
theorem r0_4 : run .nil (.row []) = true := by kernel_rfl
set_option maxRecDepth 100000 in
theorem r0_5 : run .nil (.row [1]) = true := by kernel_rfl
set_option maxRecDepth 100000 in
theorem r0_6 : run .nil (.row [1, 1]) = true := by kernel_rfl
set_option maxRecDepth 100000 in
theorem r0_7 : run .nil (.row [1, 1, 1]) = true := by kernel_rfl
set_option maxRecDepth 100000 in
theorem r0_8 : run .nil (.row [1, 1, 1, 1]) = true := by kernel_rfl
set_option maxRecDepth 100000 in
theorem r0_9 : run .nil (.row [1, 1, 1, 1, 1]) = true := by kernel_rfl
set_option maxRecDepth 100000 in
theorem r0_10 : run .nil (.row [1, 1, 1, 1, 1, 1]) = true := by kernel_rfl
set_option maxRecDepth 100000 in
theorem r0_11 : run .nil (.row [2]) = true := by kernel_rfl
set_option maxRecDepth 100000 in
theorem r0_12 : run .nil (.row [2, 1]) = true := by kernel_rfl
set_option maxRecDepth 100000 in
theorem r0_13 : run .nil (.row [2, 1, 1]) = true := by kernel_rfl
set_option maxRecDepth 100000 in
theorem r0_14 : run .nil (.row [2, 1, 1, 1]) = true := by kernel_rfl
set_option maxRecDepth 100000 in
theorem r0_15 : run .nil (.row [2, 1, 1, 1, 1]) = true := by kernel_rfl
set_option maxRecDepth 100000 in
theorem r0_16 : run .nil (.row [2, 2]) = true := by kernel_rfl
set_option maxRecDepth 100000 in
theorem r0_17 : run .nil (.row [2, 2, 1]) = true := by kernel_rfl
set_option maxRecDepth 100000 in
theorem r0_18 : run .nil (.row [2, 2, 1, 1]) = true := by kernel_rfl
set_option maxRecDepth 100000 in
theorem r0_19 : run .nil (.row [2, 2, 2]) = true := by kernel_rfl
set_option maxRecDepth 100000 in
theorem r0_20 : run .nil (.row [3]) = true := by kernel_rfl
set_option maxRecDepth 100000 in
theorem r0_21 : run .nil (.row [3, 1]) = true := by kernel_rfl
set_option maxRecDepth 100000 in
theorem r0_22 : run .nil (.row [3, 1, 1]) = true := by kernel_rfl
set_option maxRecDepth 100000 in
theorem r0_23 : run .nil (.row [3, 1, 1, 1]) = true := by kernel_rfl
set_option maxRecDepth 100000 in
theorem r0_24 : run .nil (.row [3, 2]) = true := by kernel_rfl
set_option maxRecDepth 100000 in
theorem r0_25 : run .nil (.row [3, 2, 1]) = true := by kernel_rfl
set_option maxRecDepth 100000 in
theorem r0_26 : run .nil (.row [3, 3]) = true := by kernel_rfl
set_option maxRecDepth 100000 in
theorem r0_27 : run .nil (.row [4]) = true := by kernel_rfl
set_option maxRecDepth 100000 in
theorem r0_28 : run .nil (.row [4, 1]) = true := by kernel_rfl
set_option maxRecDepth 100000 in
theorem r0_29 : run .nil (.row [4, 1, 1]) = true := by kernel_rfl
set_option maxRecDepth 100000 in
theorem r0_30 : run .nil (.row [4, 2]) = true := by kernel_rfl
set_option maxRecDepth 100000 in
theorem r0_31 : run .nil (.row [5]) = true := by kernel_rfl
set_option maxRecDepth 100000 in
theorem r0_32 : run .nil (.row [5, 1]) = true := by kernel_rfl
set_option maxRecDepth 100000 in
theorem r0_33 : run .nil (.row [6]) = true := by kernel_rfl
theorem r0 : AllL (fun c => run .nil c = true) classes := by
  unfold classes
  rw [shares_eq]
  exact ⟨r0_0, r0_1, r0_2, r0_3, r0_4, r0_5, r0_6, r0_7, r0_8, r0_9, r0_10, r0_11, r0_12, r0_13, r0_14, r0_15, r0_16, r0_17, r0_18, r0_19, r0_20, r0_21, r0_22, r0_23, r0_24, r0_25, r0_26, r0_27, r0_28, r0_29, r0_30, r0_31, r0_32, r0_33, trivial⟩
set_option maxRecDepth 100000 in
theorem r6_0 : run (.row [1, 1]) .nil = true := by kernel_rfl
set_option maxRecDepth 100000 in
theorem r6_1 : run (.row [1, 1]) .zero = true := by kernel_rfl
set_option maxRecDepth 100000 in
theorem r6_2 : run (.row [1, 1]) .no = true := by kernel_rfl
set_option maxRecDepth 100000 in
theorem r6_3 : run (.row [1, 1]) .long = true := by kernel_rfl
set_option maxRecDepth 100000 in
theorem r6_4 : run (.row [1, 1]) (.row []) = true := by kernel_rfl
set_option maxRecDepth 100000 in
theorem r6_5 : run (.row [1, 1]) (.row [1]) = true := by kernel_rfl
set_option maxRecDepth 100000 in
theorem r6_6 : run (.row [1, 1]) (.row [1, 1]) = true := by kernel_rfl
set_option maxRecDepth 100000 in
theorem r6_7 : run (.row [1, 1]) (.row [1, 1, 1]) = true := by kernel_rfl
set_option maxRecDepth 100000 in
theorem r6_8 : run (.row [1, 1]) (.row [1, 1, 1, 1]) = true := by kernel_rfl
set_option maxRecDepth 100000 in
theorem r6_9 : run (.row [1, 1]) (.row [1, 1, 1, 1, 1]) = true := by kernel_rfl
set_option maxRecDepth 100000 in
theorem r6_10 : run (.row [1, 1]) (.row [1, 1, 1, 1, 1, 1]) = true := by kernel_rfl
set_option maxRecDepth 100000 in
theorem r6_11 : run (.row [1, 1]) (.row [2]) = true := by kernel_rfl
set_option maxRecDepth 100000 in
theorem r6_12 : run (.row [1, 1]) (.row [2, 1]) = true := by kernel_rfl
set_option maxRecDepth 100000 in
theorem r6_13 : run (.row [1, 1]) (.row [2, 1, 1]) = true := by kernel_rfl
set_option maxRecDepth 100000 in
theorem r6_14 : run (.row [1, 1]) (.row [2, 1, 1, 1]) = true := by kernel_rfl
set_option maxRecDepth 100000 in
theorem r6_15 : run (.row [1, 1]) (.row [2, 1, 1, 1, 1]) = true := by kernel_rfl
set_option maxRecDepth 100000 in
theorem r6_16 : run (.row [1, 1]) (.row [2, 2]) = true := by kernel_rfl
set_option maxRecDepth 100000 in
theorem r6_17 : run (.row [1, 1]) (.row [2, 2, 1]) = true := by kernel_rfl
set_option maxRecDepth 100000 in
theorem r6_18 : run (.row [1, 1]) (.row [2, 2, 1, 1]) = true := by kernel_rfl
set_option maxRecDepth 100000 in
theorem r6_19 : run (.row [1, 1]) (.row [2, 2, 2]) = true := by kernel_rfl
set_option maxRecDepth 100000 in
theorem r6_20 : run (.row [1, 1]) (.row [3]) = true := by kernel_rfl
set_option maxRecDepth 100000 in
theorem r6_21 : run (.row [1, 1]) (.row [3, 1]) = true := by kernel_rfl
set_option maxRecDepth 100000 in
theorem r6_22 : run (.row [1, 1]) (.row [3, 1, 1]) = true := by kernel_rfl
set_option maxRecDepth 100000 in
theorem r6_23 : run (.row [1, 1]) (.row [3, 1, 1, 1]) = true := by kernel_rfl
set_option maxRecDepth 100000 in
theorem r6_24 : run (.row [1, 1]) (.row [3, 2]) = true := by kernel_rfl
set_option maxRecDepth 100000 in
theorem r6_25 : run (.row [1, 1]) (.row [3, 2, 1]) = true := by kernel_rfl
set_option maxRecDepth 100000 in
theorem r6_26 : run (.row [1, 1]) (.row [3, 3]) = true := by kernel_rfl
set_option maxRecDepth 100000 in
theorem r6_27 : run (.row [1, 1]) (.row [4]) = true := by kernel_rfl
set_option maxRecDepth 100000 in
theorem r6_28 : run (.row [1, 1]) (.row [4, 1]) = true := by kernel_rfl
set_option maxRecDepth 100000 in
theorem r6_29 : run (.row [1, 1]) (.row [4, 1, 1]) = true := by kernel_rfl
set_option maxRecDepth 100000 in
theorem r6_30 : run (.row [1, 1]) (.row [4, 2]) = true := by kernel_rfl
set_option maxRecDepth 100000 in
theorem r6_31 : run (.row [1, 1]) (.row [5]) = true := by kernel_rfl
set_option maxRecDepth 100000 in
theorem r6_32 : run (.row [1, 1]) (.row [5, 1]) = true := by kernel_rfl
set_option maxRecDepth 100000 in
theorem r6_33 : run (.row [1, 1]) (.row [6]) = true := by kernel_rfl
theorem r6 : AllL (fun c => run (.row [1, 1]) c = true) classes := by
  unfold classes
  rw [shares_eq]
  exact ⟨r6_0, r6_1, r6_2, r6_3, r6_4, r6_5, r6_6, r6_7, r6_8, r6_9, r6_10, r6_11, r6_12, r6_13, r6_14, r6_15, r6_16, r6_17, r6_18, r6_19, r6_20, r6_21, r6_22, r6_23, r6_24, r6_25, r6_26, r6_27, r6_28, r6_29, r6_30, r6_31, r6_32, r6_33, trivial⟩
set_option maxRecDepth 100000 in
theorem r12_0 : run (.row [2, 1]) .nil = true := by kernel_rfl
set_option maxRecDepth 100000 in
theorem r12_1 : run (.row [2, 1]) .zero = true := by kernel_rfl
set_option maxRecDepth 100000 in
theorem r12_2 : run (.row [2, 1]) .no = true := by kernel_rfl
set_option maxRecDepth 100000 in
theorem r12_3 : run (.row [2, 1]) .long = true := by kernel_rfl
set_option maxRecDepth 100000 in
theorem r12_4 : run (.row [2, 1]) (.row []) = true := by kernel_rfl
set_option maxRecDepth 100000 in
theorem r12_5 : run (.row [2, 1]) (.row [1]) = true := by kernel_rfl
set_option maxRecDepth 100000 in
theorem r12_6 : run (.row [2, 1]) (.row [1, 1]) = true := by kernel_rfl
set_option maxRecDepth 100000 in
theorem r12_7 : run (.row [2, 1]) (.row [1, 1, 1]) = true := by kernel_rfl
set_option maxRecDepth 100000 in
theorem r12_8 : run (.row [2, 1]) (.row [1, 1, 1, 1]) = true := by kernel_rfl
set_option maxRecDepth 100000 in
theorem r12_9 : run (.row [2, 1]) (.row [1, 1, 1, 1, 1]) = true := by kernel_rfl
set_option maxRecDepth 100000 in
theorem r12_10 : run (.row [2, 1]) (.row [1, 1, 1, 1, 1, 1]) = true := by kernel_rfl
set_option maxRecDepth 100000 in
theorem r12_11 : run (.row [2, 1]) (.row [2]) = true := by kernel_rfl
set_option maxRecDepth 100000 in
theorem r12_12 : run (.row [2, 1]) (.row [2, 1]) = true := by kernel_rfl
set_option maxRecDepth 100000 in
theorem r12_13 : run (.row [2, 1]) (.row [2, 1, 1]) = true := by kernel_rfl
set_option maxRecDepth 100000 in
theorem r12_14 : run (.row [2, 1]) (.row [2, 1, 1, 1]) = true := by kernel_rfl
set_option maxRecDepth 100000 in
theorem r12_15 : run (.row [2, 1]) (.row [2, 1, 1, 1, 1]) = true := by kernel_rfl
set_option maxRecDepth 100000 in
theorem r12_16 : run (.row [2, 1]) (.row [2, 2]) = true := by kernel_rfl
set_option maxRecDepth 100000 in
theorem r12_17 : run (.row [2, 1]) (.row [2, 2, 1]) = true := by kernel_rfl
set_option maxRecDepth 100000 in
theorem r12_18 : run (.row [2, 1]) (.row [2, 2, 1, 1]) = true := by kernel_rfl
set_option maxRecDepth 100000 in
theorem r12_19 : run (.row [2, 1]) (.row [2, 2, 2]) = true := by kernel_rfl
set_option maxRecDepth 100000 in
theorem r12_20 : run (.row [2, 1]) (.row [3]) = true := by kernel_rfl
set_option maxRecDepth 100000 in
theorem r12_21 : run (.row [2, 1]) (.row [3, 1]) = true := by kernel_rfl
set_option maxRecDepth 100000 in
theorem r12_22 : run (.row [2, 1]) (.row [3, 1, 1]) = true := by kernel_rfl
set_option maxRecDepth 100000 in
theorem r12_23 : run (.row [2, 1]) (.row [3, 1, 1, 1]) = true := by kernel_rfl
set_option maxRecDepth 100000 in
theorem r12_24 : run (.row [2, 1]) (.row [3, 2]) = true := by kernel_rfl
set_option maxRecDepth 100000 in
theorem r12_25 : run (.row [2, 1]) (.row [3, 2, 1]) = true := by kernel_rfl
set_option maxRecDepth 100000 in
theorem r12_26 : run (.row [2, 1]) (.row [3, 3]) = true := by kernel_rfl
set_option maxRecDepth 100000 in
theorem r12_27 : run (.row [2, 1]) (.row [4]) = true := by kernel_rfl
set_option maxRecDepth 100000 in
theorem r12_28 : run (.row [2, 1]) (.row [4, 1]) = true := by kernel_rfl
set_option maxRecDepth 100000 in
theorem r12_29 : run (.row [2, 1]) (.row [4, 1, 1]) = true := by kernel_rfl
set_option maxRecDepth 100000 in
theorem r12_30 : run (.row [2, 1]) (.row [4, 2]) = true := by kernel_rfl
set_option maxRecDepth 100000 in
theorem r12_31 : run (.row [2, 1]) (.row [5]) = true := by kernel_rfl
set_option maxRecDepth 100000 in
theorem r12_32 : run (.row [2, 1]) (.row [5, 1]) = true := by kernel_rfl
set_option maxRecDepth 100000 in
theorem r12_33 : run (.row [2, 1]) (.row [6]) = true := by kernel_rfl
theorem r12 : AllL (fun c => run (.row [2, 1]) c = true) classes := by
  unfold classes
  rw [shares_eq]
  exact ⟨r12_0, r12_1, r12_2, r12_3, r12_4, r12_5, r12_6, r12_7, r12_8, r12_9, r12_10, r12_11, r12_12, r12_13, r12_14, r12_15, r12_16, r12_17, r12_18, r12_19, r12_20, r12_21, r12_22, r12_23, r12_24, r12_25, r12_26, r12_27, r12_28, r12_29, r12_30, r12_31, r12_32, r12_33, trivial⟩
set_option maxRecDepth 100000 in
theorem r18_0 : run (.row [2, 2, 1, 1]) .nil = true := by kernel_rfl
set_option maxRecDepth 100000 in
theorem r18_1 : run (.row [2, 2, 1, 1]) .zero = true := by kernel_rfl
set_option maxRecDepth 100000 in
theorem r18_2 : run (.row [2, 2, 1, 1]) .no = true := by kernel_rfl
set_option maxRecDepth 100000 in
theorem r18_3 : run (.row [2, 2, 1, 1]) .long = true := by kernel_rfl
set_option maxRecDepth 100000 in
theorem r18_4 : run (.row [2, 2, 1, 1]) (.row []) = true := by kernel_rfl
set_option maxRecDepth 100000 in
theorem r18_5 : run (.row [2, 2, 1, 1]) (.row [1]) = true := by kernel_rfl
set_option maxRecDepth 100000 in
theorem r18_6 : run (.row [2, 2, 1, 1]) (.row [1, 1]) = true := by kernel_rfl
set_option maxRecDepth 100000 in
theorem r18_7 : run (.row [2, 2, 1, 1]) (.row [1, 1, 1]) = true := by kernel_rfl
set_option maxRecDepth 100000 in
theorem r18_8 : run (.row [2, 2, 1, 1]) (.row [1, 1, 1, 1]) = true := by kernel_rfl
set_option maxRecDepth 100000 in
theorem r18_9 : run (.row [2, 2, 1, 1]) (.row [1, 1, 1, 1, 1]) = true := by kernel_rfl
set_option maxRecDepth 100000 in
theorem r18_10 : run (.row [2, 2, 1, 1]) (.row [1, 1, 1, 1, 1, 1]) = true := by kernel_rfl
set_option maxRecDepth 100000 in
theorem r18_11 : run (.row [2, 2, 1, 1]) (.row [2]) = true := by kernel_rfl
set_option maxRecDepth 100000 in
theorem r18_12 : run (.row [2, 2, 1, 1]) (.row [2, 1]) = true := by kernel_rfl
set_option maxRecDepth 100000 in
theorem r18_13 : run (.row [2, 2, 1, 1]) (.row [2, 1, 1]) = true := by kernel_rfl
set_option maxRecDepth 100000 in
theorem r18_14 : run (.row [2, 2, 1, 1]) (.row [2, 1, 1, 1]) = true := by kernel_rfl
set_option maxRecDepth 100000 in
theorem r18_15 : run (.row [2, 2, 1, 1]) (.row [2, 1, 1, 1, 1]) = true := by kernel_rfl
set_option maxRecDepth 100000 in
theorem r18_16 : run (.row [2, 2, 1, 1]) (.row [2, 2]) = true := by kernel_rfl
set_option maxRecDepth 100000 in
theorem r18_17 : run (.row [2, 2, 1, 1]) (.row [2, 2, 1]) = true := by kernel_rfl
set_option maxRecDepth 100000 in
theorem r18_18 : run (.row [2, 2, 1, 1]) (.row [2, 2, 1, 1]) = true := by kernel_rfl
set_option maxRecDepth 100000 in
theorem r18_19 : run (.row [2, 2, 1, 1]) (.row [2, 2, 2]) = true := by kernel_rfl
set_option maxRecDepth 100000 in
theorem r18_20 : run (.row [2, 2, 1, 1]) (.row [3]) = true := by kernel_rfl
set_option maxRecDepth 100000 in
theorem r18_21 : run (.row [2, 2, 1, 1]) (.row [3, 1]) = true := by kernel_rfl
set_option maxRecDepth 100000 in
theorem r18_22 : run (.row [2, 2, 1, 1]) (.row [3, 1, 1]) = true := by kernel_rfl
set_option maxRecDepth 100000 in
theorem r18_23 : run (.row [2, 2, 1, 1]) (.row [3, 1, 1, 1]) = true := by kernel_rfl
set_option maxRecDepth 100000 in
theorem r18_24 : run (.row [2, 2, 1, 1]) (.row [3, 2]) = true := by kernel_rfl
set_option maxRecDepth 100000 in
theorem r18_25 : run (.row [2, 2, 1, 1]) (.row [3, 2, 1]) = true := by kernel_rfl
set_option maxRecDepth 100000 in
theorem r18_26 : run (.row [2, 2, 1, 1]) (.row [3, 3]) = true := by kernel_rfl
set_option maxRecDepth 100000 in
theorem r18_27 : run (.row [2, 2, 1, 1]) (.row [4]) = true := by kernel_rfl
set_option maxRecDepth 100000 in
theorem r18_28 : run (.row [2, 2, 1, 1]) (.row [4, 1]) = true := by kernel_rfl
set_option maxRecDepth 100000 in
theorem r18_29 : run (.row [2, 2, 1, 1]) (.row [4, 1, 1]) = true := by kernel_rfl
set_option maxRecDepth 100000 in
theorem r18_30 : run (.row [2, 2, 1, 1]) (.row [4, 2]) = true := by kernel_rfl
set_option maxRecDepth 100000 in
theorem r18_31 : run (.row [2, 2, 1, 1]) (.row [5]) = true := by kernel_rfl
set_option maxRecDepth 100000 in
theorem r18_32 : run (.row [2, 2, 1, 1]) (.row [5, 1]) = true := by kernel_rfl
set_option maxRecDepth 100000 in
theorem r18_33 : run (.row [2, 2, 1, 1]) (.row [6]) = true := by kernel_rfl
theorem r18 : AllL (fun c => run (.row [2, 2, 1, 1]) c = true) classes := by
  unfold classes
  rw [shares_eq]
  exact ⟨r18_0, r18_1, r18_2, r18_3, r18_4, r18_5, r18_6, r18_7, r18_8, r18_9, r18_10, r18_11, r18_12, r18_13, r18_14, r18_15, r18_16, r18_17, r18_18, r18_19, r18_20, r18_21, r18_22, r18_23, r18_24, r18_25, r18_26, r18_27, r18_28, r18_29, r18_30, r18_31, r18_32, r18_33, trivial⟩
set_option maxRecDepth 100000 in
theorem r24_0 : run (.row [3, 2]) .nil = true := by kernel_rfl
set_option maxRecDepth 100000 in
theorem r24_1 : run (.row [3, 2]) .zero = true := by kernel_rfl
set_option maxRecDepth 100000 in
theorem r24_2 : run (.row [3, 2]) .no = true := by kernel_rfl
set_option maxRecDepth 100000 in
theorem r24_3 : run (.row [3, 2]) .long = true := by kernel_rfl
set_option maxRecDepth 100000 in
theorem r24_4 : run (.row [3, 2]) (.row []) = true := by kernel_rfl
set_option maxRecDepth 100000 in
theorem r24_5 : run (.row [3, 2]) (.row [1]) = true := by kernel_rfl
set_option maxRecDepth 100000 in
theorem r24_6 : run (.row [3, 2]) (.row [1, 1]) = true := by kernel_rfl
set_option maxRecDepth 100000 in
theorem r24_7 : run (.row [3, 2]) (.row [1, 1, 1]) = true := by kernel_rfl
set_option maxRecDepth 100000 in
theorem r24_8 : run (.row [3, 2]) (.row [1, 1, 1, 1]) = true := by kernel_rfl
set_option maxRecDepth 100000 in
theorem r24_9 : run (.row [3, 2]) (.row [1, 1, 1, 1, 1]) = true := by kernel_rfl
set_option maxRecDepth 100000 in
theorem r24_10 : run (.row [3, 2]) (.row [1, 1, 1, 1, 1, 1]) = true := by kernel_rfl
set_option maxRecDepth 100000 in
theorem r24_11 : run (.row [3, 2]) (.row [2]) = true := by kernel_rfl
set_option maxRecDepth 100000 in
theorem r24_12 : run (.row [3, 2]) (.row [2, 1]) = true := by kernel_rfl
set_option maxRecDepth 100000 in
theorem r24_13 : run (.row [3, 2]) (.row [2, 1, 1]) = true := by kernel_rfl
set_option maxRecDepth 100000 in
theorem r24_14 : run (.row [3, 2]) (.row [2, 1, 1, 1]) = true := by kernel_rfl
set_option maxRecDepth 100000 in
theorem r24_15 : run (.row [3, 2]) (.row [2, 1, 1, 1, 1]) = true := by kernel_rfl
set_option maxRecDepth 100000 in
theorem r24_16 : run (.row [3, 2]) (.row [2, 2]) = true := by kernel_rfl
set_option maxRecDepth 100000 in
theorem r24_17 : run (.row [3, 2]) (.row [2, 2, 1]) = true := by kernel_rfl
set_option maxRecDepth 100000 in
theorem r24_18 : run (.row [3, 2]) (.row [2, 2, 1, 1]) = true := by kernel_rfl
set_option maxRecDepth 100000 in
theorem r24_19 : run (.row [3, 2]) (.row [2, 2, 2]) = true := by kernel_rfl
set_option maxRecDepth 100000 in
theorem r24_20 : run (.row [3, 2]) (.row [3]) = true := by kernel_rfl
set_option maxRecDepth 100000 in
theorem r24_21 : run (.row [3, 2]) (.row [3, 1]) = true := by kernel_rfl
set_option maxRecDepth 100000 in
theorem r24_22 : run (.row [3, 2]) (.row [3, 1, 1]) = true := by kernel_rfl
set_option maxRecDepth 100000 in
theorem r24_23 : run (.row [3, 2]) (.row [3, 1, 1, 1]) = true := by kernel_rfl
set_option maxRecDepth 100000 in
theorem r24_24 : run (.row [3, 2]) (.row [3, 2]) = true := by kernel_rfl
set_option maxRecDepth 100000 in
theorem r24_25 : run (.row [3, 2]) (.row [3, 2, 1]) = true := by kernel_rfl
set_option maxRecDepth 100000 in
theorem r24_26 : run (.row [3, 2]) (.row [3, 3]) = true := by kernel_rfl
set_option maxRecDepth 100000 in
theorem r24_27 : run (.row [3, 2]) (.row [4]) = true := by kernel_rfl
set_option maxRecDepth 100000 in
theorem r24_28 : run (.row [3, 2]) (.row [4, 1]) = true := by kernel_rfl
set_option maxRecDepth 100000 in
theorem r24_29 : run (.row [3, 2]) (.row [4, 1, 1]) = true := by kernel_rfl
set_option maxRecDepth 100000 in
theorem r24_30 : run (.row [3, 2]) (.row [4, 2]) = true := by kernel_rfl
set_option maxRecDepth 100000 in
theorem r24_31 : run (.row [3, 2]) (.row [5]) = true := by kernel_rfl
set_option maxRecDepth 100000 in
theorem r24_32 : run (.row [3, 2]) (.row [5, 1]) = true := by kernel_rfl
set_option maxRecDepth 100000 in
theorem r24_33 : run (.row [3, 2]) (.row [6]) = true := by kernel_rfl
theorem r24 : AllL (fun c => run (.row [3, 2]) c = true) classes := by
  unfold classes
  rw [shares_eq]
  exact ⟨r24_0, r24_1, r24_2, r24_3, r24_4, r24_5, r24_6, r24_7, r24_8, r24_9, r24_10, r24_11, r24_12, r24_13, r24_14, r24_15, r24_16, r24_17, r24_18, r24_19, r24_20, r24_21, r24_22, r24_23, r24_24, r24_25, r24_26, r24_27, r24_28, r24_29, r24_30, r24_31, r24_32, r24_33, trivial⟩
set_option maxRecDepth 100000 in
theorem r30_0 : run (.row [4, 2]) .nil = true := by kernel_rfl
set_option maxRecDepth 100000 in
theorem r30_1 : run (.row [4, 2]) .zero = true := by kernel_rfl
set_option maxRecDepth 100000 in
theorem r30_2 : run (.row [4, 2]) .no = true := by kernel_rfl
set_option maxRecDepth 100000 in
theorem r30_3 : run (.row [4, 2]) .long = true := by kernel_rfl
set_option maxRecDepth 100000 in
theorem r30_4 : run (.row [4, 2]) (.row []) = true := by kernel_rfl
set_option maxRecDepth 100000 in
theorem r30_5 : run (.row [4, 2]) (.row [1]) = true := by kernel_rfl
set_option maxRecDepth 100000 in
theorem r30_6 : run (.row [4, 2]) (.row [1, 1]) = true := by kernel_rfl
set_option maxRecDepth 100000 in
theorem r30_7 : run (.row [4, 2]) (.row [1, 1, 1]) = true := by kernel_rfl
set_option maxRecDepth 100000 in
theorem r30_8 : run (.row [4, 2]) (.row [1, 1, 1, 1]) = true := by kernel_rfl
set_option maxRecDepth 100000 in
theorem r30_9 : run (.row [4, 2]) (.row [1, 1, 1, 1, 1]) = true := by kernel_rfl
set_option maxRecDepth 100000 in
theorem r30_10 : run (.row [4, 2]) (.row [1, 1, 1, 1, 1, 1]) = true := by kernel_rfl
set_option maxRecDepth 100000 in
theorem r30_11 : run (.row [4, 2]) (.row [2]) = true := by kernel_rfl
set_option maxRecDepth 100000 in
theorem r30_12 : run (.row [4, 2]) (.row [2, 1]) = true := by kernel_rfl
set_option maxRecDepth 100000 in
theorem r30_13 : run (.row [4, 2]) (.row [2, 1, 1]) = true := by kernel_rfl
set_option maxRecDepth 100000 in
theorem r30_14 : run (.row [4, 2]) (.row [2, 1, 1, 1]) = true := by kernel_rfl
set_option maxRecDepth 100000 in
theorem r30_15 : run (.row [4, 2]) (.row [2, 1, 1, 1, 1]) = true := by kernel_rfl
set_option maxRecDepth 100000 in
theorem r30_16 : run (.row [4, 2]) (.row [2, 2]) = true := by kernel_rfl
set_option maxRecDepth 100000 in
theorem r30_17 : run (.row [4, 2]) (.row [2, 2, 1]) = true := by kernel_rfl
set_option maxRecDepth 100000 in
theorem r30_18 : run (.row [4, 2]) (.row [2, 2, 1, 1]) = true := by kernel_rfl
set_option maxRecDepth 100000 in
theorem r30_19 : run (.row [4, 2]) (.row [2, 2, 2]) = true := by kernel_rfl
set_option maxRecDepth 100000 in
theorem r30_20 : run (.row [4, 2]) (.row [3]) = true := by kernel_rfl
set_option maxRecDepth 100000 in
theorem r30_21 : run (.row [4, 2]) (.row [3, 1]) = true := by kernel_rfl
set_option maxRecDepth 100000 in
theorem r30_22 : run (.row [4, 2]) (.row [3, 1, 1]) = true := by kernel_rfl
set_option maxRecDepth 100000 in
theorem r30_23 : run (.row [4, 2]) (.row [3, 1, 1, 1]) = true := by kernel_rfl
set_option maxRecDepth 100000 in
theorem r30_24 : run (.row [4, 2]) (.row [3, 2]) = true := by kernel_rfl
set_option maxRecDepth 100000 in
theorem r30_25 : run (.row [4, 2]) (.row [3, 2, 1]) = true := by kernel_rfl
set_option maxRecDepth 100000 in
theorem r30_26 : run (.row [4, 2]) (.row [3, 3]) = true := by kernel_rfl
set_option maxRecDepth 100000 in
theorem r30_27 : run (.row [4, 2]) (.row [4]) = true := by kernel_rfl
set_option maxRecDepth 100000 in
theorem r30_28 : run (.row [4, 2]) (.row [4, 1]) = true := by kernel_rfl
set_option maxRecDepth 100000 in
theorem r30_29 : run (.row [4, 2]) (.row [4, 1, 1]) = true := by kernel_rfl
set_option maxRecDepth 100000 in
theorem r30_30 : run (.row [4, 2]) (.row [4, 2]) = true := by kernel_rfl
set_option maxRecDepth 100000 in
theorem r30_31 : run (.row [4, 2]) (.row [5]) = true := by kernel_rfl
set_option maxRecDepth 100000 in
theorem r30_32 : run (.row [4, 2]) (.row [5, 1]) = true := by kernel_rfl
set_option maxRecDepth 100000 in
theorem r30_33 : run (.row [4, 2]) (.row [6]) = true := by kernel_rfl
theorem r30 : AllL (fun c => run (.row [4, 2]) c = true) classes := by
  unfold classes
  rw [shares_eq]
  exact ⟨r30_0, r30_1, r30_2, r30_3, r30_4, r30_5, r30_6, r30_7, r30_8, r30_9, r30_10, r30_11, r30_12, r30_13, r30_14, r30_15, r30_16, r30_17, r30_18, r30_19, r30_20, r30_21, r30_22, r30_23, r30_24, r30_25, r30_26, r30_27, r30_28, r30_29, r30_30, r30_31, r30_32, r30_33, trivial⟩
end Go.Proofs.Ythggbkoccgigaaa.fnExactTableChosenRuns
