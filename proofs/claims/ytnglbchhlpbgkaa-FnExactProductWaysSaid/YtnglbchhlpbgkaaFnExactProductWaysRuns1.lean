/- The runs of FnExactProductWays, part 1. -/
import Derived.Test.YtnglbchhlpbgkaaEngZb
import Derived.Test.YtnglbchhlpbgkaaProg
namespace Go.Proofs.Ytnglbchhlpbgkaa.fnExactProductWaysRuns
set_option linter.unusedVariables false
set_option linter.unusedSectionVars false
set_option linter.unusedSimpArgs false
set_option maxRecDepth 100000 in
theorem r1_0 : Go.Eng.isTrue (Go.Eng.twoRun Try.prog Go.Eng.noSums (⟨14, 16, 31, 37, 40⟩ : Go.Eng.Fns) 1000 60 12 .zero .nil) = true := by kernel_rfl
set_option maxRecDepth 100000 in
theorem r1_1 : Go.Eng.isTrue (Go.Eng.twoRun Try.prog Go.Eng.noSums (⟨14, 16, 31, 37, 40⟩ : Go.Eng.Fns) 1000 60 12 .zero .zero) = true := by kernel_rfl
set_option maxRecDepth 100000 in
theorem r1_2 : Go.Eng.isTrue (Go.Eng.twoRun Try.prog Go.Eng.noSums (⟨14, 16, 31, 37, 40⟩ : Go.Eng.Fns) 1000 60 12 .zero .no) = true := by kernel_rfl
set_option maxRecDepth 100000 in
theorem r1_3 : Go.Eng.isTrue (Go.Eng.twoRun Try.prog Go.Eng.noSums (⟨14, 16, 31, 37, 40⟩ : Go.Eng.Fns) 1000 60 12 .zero .long) = true := by kernel_rfl
set_option maxRecDepth 100000 in
theorem r1_4 : Go.Eng.isTrue (Go.Eng.twoRun Try.prog Go.Eng.noSums (⟨14, 16, 31, 37, 40⟩ : Go.Eng.Fns) 1000 60 12 .zero (.row [])) = true := by kernel_rfl
set_option maxRecDepth 100000 in
theorem r1_5 : Go.Eng.isTrue (Go.Eng.twoRun Try.prog Go.Eng.noSums (⟨14, 16, 31, 37, 40⟩ : Go.Eng.Fns) 1000 60 12 .zero (.row [1])) = true := by kernel_rfl
set_option maxRecDepth 100000 in
theorem r1_6 : Go.Eng.isTrue (Go.Eng.twoRun Try.prog Go.Eng.noSums (⟨14, 16, 31, 37, 40⟩ : Go.Eng.Fns) 1000 60 12 .zero (.row [1, 1])) = true := by kernel_rfl
set_option maxRecDepth 100000 in
theorem r1_7 : Go.Eng.isTrue (Go.Eng.twoRun Try.prog Go.Eng.noSums (⟨14, 16, 31, 37, 40⟩ : Go.Eng.Fns) 1000 60 12 .zero (.row [1, 1, 1])) = true := by kernel_rfl
set_option maxRecDepth 100000 in
theorem r1_8 : Go.Eng.isTrue (Go.Eng.twoRun Try.prog Go.Eng.noSums (⟨14, 16, 31, 37, 40⟩ : Go.Eng.Fns) 1000 60 12 .zero (.row [1, 1, 1, 1])) = true := by kernel_rfl
set_option maxRecDepth 100000 in
theorem r1_9 : Go.Eng.isTrue (Go.Eng.twoRun Try.prog Go.Eng.noSums (⟨14, 16, 31, 37, 40⟩ : Go.Eng.Fns) 1000 60 12 .zero (.row [1, 1, 1, 1, 1])) = true := by kernel_rfl
set_option maxRecDepth 100000 in
theorem r1_10 : Go.Eng.isTrue (Go.Eng.twoRun Try.prog Go.Eng.noSums (⟨14, 16, 31, 37, 40⟩ : Go.Eng.Fns) 1000 60 12 .zero (.row [1, 1, 1, 1, 1, 1])) = true := by kernel_rfl
set_option maxRecDepth 100000 in
theorem r1_11 : Go.Eng.isTrue (Go.Eng.twoRun Try.prog Go.Eng.noSums (⟨14, 16, 31, 37, 40⟩ : Go.Eng.Fns) 1000 60 12 .zero (.row [2])) = true := by kernel_rfl
set_option maxRecDepth 100000 in
theorem r1_12 : Go.Eng.isTrue (Go.Eng.twoRun Try.prog Go.Eng.noSums (⟨14, 16, 31, 37, 40⟩ : Go.Eng.Fns) 1000 60 12 .zero (.row [2, 1])) = true := by kernel_rfl
set_option maxRecDepth 100000 in
theorem r1_13 : Go.Eng.isTrue (Go.Eng.twoRun Try.prog Go.Eng.noSums (⟨14, 16, 31, 37, 40⟩ : Go.Eng.Fns) 1000 60 12 .zero (.row [2, 1, 1])) = true := by kernel_rfl
set_option maxRecDepth 100000 in
theorem r1_14 : Go.Eng.isTrue (Go.Eng.twoRun Try.prog Go.Eng.noSums (⟨14, 16, 31, 37, 40⟩ : Go.Eng.Fns) 1000 60 12 .zero (.row [2, 1, 1, 1])) = true := by kernel_rfl
set_option maxRecDepth 100000 in
theorem r1_15 : Go.Eng.isTrue (Go.Eng.twoRun Try.prog Go.Eng.noSums (⟨14, 16, 31, 37, 40⟩ : Go.Eng.Fns) 1000 60 12 .zero (.row [2, 1, 1, 1, 1])) = true := by kernel_rfl
set_option maxRecDepth 100000 in
theorem r1_16 : Go.Eng.isTrue (Go.Eng.twoRun Try.prog Go.Eng.noSums (⟨14, 16, 31, 37, 40⟩ : Go.Eng.Fns) 1000 60 12 .zero (.row [2, 2])) = true := by kernel_rfl
set_option maxRecDepth 100000 in
theorem r1_17 : Go.Eng.isTrue (Go.Eng.twoRun Try.prog Go.Eng.noSums (⟨14, 16, 31, 37, 40⟩ : Go.Eng.Fns) 1000 60 12 .zero (.row [2, 2, 1])) = true := by kernel_rfl
set_option maxRecDepth 100000 in
theorem r1_18 : Go.Eng.isTrue (Go.Eng.twoRun Try.prog Go.Eng.noSums (⟨14, 16, 31, 37, 40⟩ : Go.Eng.Fns) 1000 60 12 .zero (.row [2, 2, 1, 1])) = true := by kernel_rfl
set_option maxRecDepth 100000 in
theorem r1_19 : Go.Eng.isTrue (Go.Eng.twoRun Try.prog Go.Eng.noSums (⟨14, 16, 31, 37, 40⟩ : Go.Eng.Fns) 1000 60 12 .zero (.row [2, 2, 2])) = true := by kernel_rfl
set_option maxRecDepth 100000 in
theorem r1_20 : Go.Eng.isTrue (Go.Eng.twoRun Try.prog Go.Eng.noSums (⟨14, 16, 31, 37, 40⟩ : Go.Eng.Fns) 1000 60 12 .zero (.row [3])) = true := by kernel_rfl
set_option maxRecDepth 100000 in
theorem r1_21 : Go.Eng.isTrue (Go.Eng.twoRun Try.prog Go.Eng.noSums (⟨14, 16, 31, 37, 40⟩ : Go.Eng.Fns) 1000 60 12 .zero (.row [3, 1])) = true := by kernel_rfl
set_option maxRecDepth 100000 in
theorem r1_22 : Go.Eng.isTrue (Go.Eng.twoRun Try.prog Go.Eng.noSums (⟨14, 16, 31, 37, 40⟩ : Go.Eng.Fns) 1000 60 12 .zero (.row [3, 1, 1])) = true := by kernel_rfl
set_option maxRecDepth 100000 in
theorem r1_23 : Go.Eng.isTrue (Go.Eng.twoRun Try.prog Go.Eng.noSums (⟨14, 16, 31, 37, 40⟩ : Go.Eng.Fns) 1000 60 12 .zero (.row [3, 1, 1, 1])) = true := by kernel_rfl
set_option maxRecDepth 100000 in
theorem r1_24 : Go.Eng.isTrue (Go.Eng.twoRun Try.prog Go.Eng.noSums (⟨14, 16, 31, 37, 40⟩ : Go.Eng.Fns) 1000 60 12 .zero (.row [3, 2])) = true := by kernel_rfl
set_option maxRecDepth 100000 in
theorem r1_25 : Go.Eng.isTrue (Go.Eng.twoRun Try.prog Go.Eng.noSums (⟨14, 16, 31, 37, 40⟩ : Go.Eng.Fns) 1000 60 12 .zero (.row [3, 2, 1])) = true := by kernel_rfl
set_option maxRecDepth 100000 in
theorem r1_26 : Go.Eng.isTrue (Go.Eng.twoRun Try.prog Go.Eng.noSums (⟨14, 16, 31, 37, 40⟩ : Go.Eng.Fns) 1000 60 12 .zero (.row [3, 3])) = true := by kernel_rfl
set_option maxRecDepth 100000 in
theorem r1_27 : Go.Eng.isTrue (Go.Eng.twoRun Try.prog Go.Eng.noSums (⟨14, 16, 31, 37, 40⟩ : Go.Eng.Fns) 1000 60 12 .zero (.row [4])) = true := by kernel_rfl
set_option maxRecDepth 100000 in
theorem r1_28 : Go.Eng.isTrue (Go.Eng.twoRun Try.prog Go.Eng.noSums (⟨14, 16, 31, 37, 40⟩ : Go.Eng.Fns) 1000 60 12 .zero (.row [4, 1])) = true := by kernel_rfl
set_option maxRecDepth 100000 in
theorem r1_29 : Go.Eng.isTrue (Go.Eng.twoRun Try.prog Go.Eng.noSums (⟨14, 16, 31, 37, 40⟩ : Go.Eng.Fns) 1000 60 12 .zero (.row [4, 1, 1])) = true := by kernel_rfl
set_option maxRecDepth 100000 in
theorem r1_30 : Go.Eng.isTrue (Go.Eng.twoRun Try.prog Go.Eng.noSums (⟨14, 16, 31, 37, 40⟩ : Go.Eng.Fns) 1000 60 12 .zero (.row [4, 2])) = true := by kernel_rfl
set_option maxRecDepth 100000 in
theorem r1_31 : Go.Eng.isTrue (Go.Eng.twoRun Try.prog Go.Eng.noSums (⟨14, 16, 31, 37, 40⟩ : Go.Eng.Fns) 1000 60 12 .zero (.row [5])) = true := by kernel_rfl
set_option maxRecDepth 100000 in
theorem r1_32 : Go.Eng.isTrue (Go.Eng.twoRun Try.prog Go.Eng.noSums (⟨14, 16, 31, 37, 40⟩ : Go.Eng.Fns) 1000 60 12 .zero (.row [5, 1])) = true := by kernel_rfl
set_option maxRecDepth 100000 in
theorem r1_33 : Go.Eng.isTrue (Go.Eng.twoRun Try.prog Go.Eng.noSums (⟨14, 16, 31, 37, 40⟩ : Go.Eng.Fns) 1000 60 12 .zero (.row [6])) = true := by kernel_rfl
theorem r1 : Go.Eng.AllL (fun c => Go.Eng.isTrue (Go.Eng.twoRun Try.prog Go.Eng.noSums (⟨14, 16, 31, 37, 40⟩ : Go.Eng.Fns) 1000 60 12 .zero c) = true) Go.Eng.classes := by
  unfold Go.Eng.classes
  rw [Go.Eng.shares_eq]
  exact ⟨r1_0, r1_1, r1_2, r1_3, r1_4, r1_5, r1_6, r1_7, r1_8, r1_9, r1_10, r1_11, r1_12, r1_13, r1_14, r1_15, r1_16, r1_17, r1_18, r1_19, r1_20, r1_21, r1_22, r1_23, r1_24, r1_25, r1_26, r1_27, r1_28, r1_29, r1_30, r1_31, r1_32, r1_33, trivial⟩
set_option maxRecDepth 100000 in
theorem r4_0 : Go.Eng.isTrue (Go.Eng.twoRun Try.prog Go.Eng.noSums (⟨14, 16, 31, 37, 40⟩ : Go.Eng.Fns) 1000 60 12 (.row []) .nil) = true := by kernel_rfl
set_option maxRecDepth 100000 in
theorem r4_1 : Go.Eng.isTrue (Go.Eng.twoRun Try.prog Go.Eng.noSums (⟨14, 16, 31, 37, 40⟩ : Go.Eng.Fns) 1000 60 12 (.row []) .zero) = true := by kernel_rfl
set_option maxRecDepth 100000 in
theorem r4_2 : Go.Eng.isTrue (Go.Eng.twoRun Try.prog Go.Eng.noSums (⟨14, 16, 31, 37, 40⟩ : Go.Eng.Fns) 1000 60 12 (.row []) .no) = true := by kernel_rfl
set_option maxRecDepth 100000 in
theorem r4_3 : Go.Eng.isTrue (Go.Eng.twoRun Try.prog Go.Eng.noSums (⟨14, 16, 31, 37, 40⟩ : Go.Eng.Fns) 1000 60 12 (.row []) .long) = true := by kernel_rfl
set_option maxRecDepth 100000 in
theorem r4_4 : Go.Eng.isTrue (Go.Eng.twoRun Try.prog Go.Eng.noSums (⟨14, 16, 31, 37, 40⟩ : Go.Eng.Fns) 1000 60 12 (.row []) (.row [])) = true := by kernel_rfl
set_option maxRecDepth 100000 in
theorem r4_5 : Go.Eng.isTrue (Go.Eng.twoRun Try.prog Go.Eng.noSums (⟨14, 16, 31, 37, 40⟩ : Go.Eng.Fns) 1000 60 12 (.row []) (.row [1])) = true := by kernel_rfl
set_option maxRecDepth 100000 in
theorem r4_6 : Go.Eng.isTrue (Go.Eng.twoRun Try.prog Go.Eng.noSums (⟨14, 16, 31, 37, 40⟩ : Go.Eng.Fns) 1000 60 12 (.row []) (.row [1, 1])) = true := by kernel_rfl
set_option maxRecDepth 100000 in
theorem r4_7 : Go.Eng.isTrue (Go.Eng.twoRun Try.prog Go.Eng.noSums (⟨14, 16, 31, 37, 40⟩ : Go.Eng.Fns) 1000 60 12 (.row []) (.row [1, 1, 1])) = true := by kernel_rfl
set_option maxRecDepth 100000 in
theorem r4_8 : Go.Eng.isTrue (Go.Eng.twoRun Try.prog Go.Eng.noSums (⟨14, 16, 31, 37, 40⟩ : Go.Eng.Fns) 1000 60 12 (.row []) (.row [1, 1, 1, 1])) = true := by kernel_rfl
set_option maxRecDepth 100000 in
theorem r4_9 : Go.Eng.isTrue (Go.Eng.twoRun Try.prog Go.Eng.noSums (⟨14, 16, 31, 37, 40⟩ : Go.Eng.Fns) 1000 60 12 (.row []) (.row [1, 1, 1, 1, 1])) = true := by kernel_rfl
set_option maxRecDepth 100000 in
theorem r4_10 : Go.Eng.isTrue (Go.Eng.twoRun Try.prog Go.Eng.noSums (⟨14, 16, 31, 37, 40⟩ : Go.Eng.Fns) 1000 60 12 (.row []) (.row [1, 1, 1, 1, 1, 1])) = true := by kernel_rfl
set_option maxRecDepth 100000 in
theorem r4_11 : Go.Eng.isTrue (Go.Eng.twoRun Try.prog Go.Eng.noSums (⟨14, 16, 31, 37, 40⟩ : Go.Eng.Fns) 1000 60 12 (.row []) (.row [2])) = true := by kernel_rfl
set_option maxRecDepth 100000 in
theorem r4_12 : Go.Eng.isTrue (Go.Eng.twoRun Try.prog Go.Eng.noSums (⟨14, 16, 31, 37, 40⟩ : Go.Eng.Fns) 1000 60 12 (.row []) (.row [2, 1])) = true := by kernel_rfl
set_option maxRecDepth 100000 in
theorem r4_13 : Go.Eng.isTrue (Go.Eng.twoRun Try.prog Go.Eng.noSums (⟨14, 16, 31, 37, 40⟩ : Go.Eng.Fns) 1000 60 12 (.row []) (.row [2, 1, 1])) = true := by kernel_rfl
set_option maxRecDepth 100000 in
theorem r4_14 : Go.Eng.isTrue (Go.Eng.twoRun Try.prog Go.Eng.noSums (⟨14, 16, 31, 37, 40⟩ : Go.Eng.Fns) 1000 60 12 (.row []) (.row [2, 1, 1, 1])) = true := by kernel_rfl
set_option maxRecDepth 100000 in
theorem r4_15 : Go.Eng.isTrue (Go.Eng.twoRun Try.prog Go.Eng.noSums (⟨14, 16, 31, 37, 40⟩ : Go.Eng.Fns) 1000 60 12 (.row []) (.row [2, 1, 1, 1, 1])) = true := by kernel_rfl
set_option maxRecDepth 100000 in
theorem r4_16 : Go.Eng.isTrue (Go.Eng.twoRun Try.prog Go.Eng.noSums (⟨14, 16, 31, 37, 40⟩ : Go.Eng.Fns) 1000 60 12 (.row []) (.row [2, 2])) = true := by kernel_rfl
set_option maxRecDepth 100000 in
theorem r4_17 : Go.Eng.isTrue (Go.Eng.twoRun Try.prog Go.Eng.noSums (⟨14, 16, 31, 37, 40⟩ : Go.Eng.Fns) 1000 60 12 (.row []) (.row [2, 2, 1])) = true := by kernel_rfl
set_option maxRecDepth 100000 in
theorem r4_18 : Go.Eng.isTrue (Go.Eng.twoRun Try.prog Go.Eng.noSums (⟨14, 16, 31, 37, 40⟩ : Go.Eng.Fns) 1000 60 12 (.row []) (.row [2, 2, 1, 1])) = true := by kernel_rfl
set_option maxRecDepth 100000 in
theorem r4_19 : Go.Eng.isTrue (Go.Eng.twoRun Try.prog Go.Eng.noSums (⟨14, 16, 31, 37, 40⟩ : Go.Eng.Fns) 1000 60 12 (.row []) (.row [2, 2, 2])) = true := by kernel_rfl
set_option maxRecDepth 100000 in
theorem r4_20 : Go.Eng.isTrue (Go.Eng.twoRun Try.prog Go.Eng.noSums (⟨14, 16, 31, 37, 40⟩ : Go.Eng.Fns) 1000 60 12 (.row []) (.row [3])) = true := by kernel_rfl
set_option maxRecDepth 100000 in
theorem r4_21 : Go.Eng.isTrue (Go.Eng.twoRun Try.prog Go.Eng.noSums (⟨14, 16, 31, 37, 40⟩ : Go.Eng.Fns) 1000 60 12 (.row []) (.row [3, 1])) = true := by kernel_rfl
set_option maxRecDepth 100000 in
theorem r4_22 : Go.Eng.isTrue (Go.Eng.twoRun Try.prog Go.Eng.noSums (⟨14, 16, 31, 37, 40⟩ : Go.Eng.Fns) 1000 60 12 (.row []) (.row [3, 1, 1])) = true := by kernel_rfl
set_option maxRecDepth 100000 in
theorem r4_23 : Go.Eng.isTrue (Go.Eng.twoRun Try.prog Go.Eng.noSums (⟨14, 16, 31, 37, 40⟩ : Go.Eng.Fns) 1000 60 12 (.row []) (.row [3, 1, 1, 1])) = true := by kernel_rfl
set_option maxRecDepth 100000 in
theorem r4_24 : Go.Eng.isTrue (Go.Eng.twoRun Try.prog Go.Eng.noSums (⟨14, 16, 31, 37, 40⟩ : Go.Eng.Fns) 1000 60 12 (.row []) (.row [3, 2])) = true := by kernel_rfl
set_option maxRecDepth 100000 in
theorem r4_25 : Go.Eng.isTrue (Go.Eng.twoRun Try.prog Go.Eng.noSums (⟨14, 16, 31, 37, 40⟩ : Go.Eng.Fns) 1000 60 12 (.row []) (.row [3, 2, 1])) = true := by kernel_rfl
set_option maxRecDepth 100000 in
theorem r4_26 : Go.Eng.isTrue (Go.Eng.twoRun Try.prog Go.Eng.noSums (⟨14, 16, 31, 37, 40⟩ : Go.Eng.Fns) 1000 60 12 (.row []) (.row [3, 3])) = true := by kernel_rfl
set_option maxRecDepth 100000 in
theorem r4_27 : Go.Eng.isTrue (Go.Eng.twoRun Try.prog Go.Eng.noSums (⟨14, 16, 31, 37, 40⟩ : Go.Eng.Fns) 1000 60 12 (.row []) (.row [4])) = true := by kernel_rfl
set_option maxRecDepth 100000 in
theorem r4_28 : Go.Eng.isTrue (Go.Eng.twoRun Try.prog Go.Eng.noSums (⟨14, 16, 31, 37, 40⟩ : Go.Eng.Fns) 1000 60 12 (.row []) (.row [4, 1])) = true := by kernel_rfl
set_option maxRecDepth 100000 in
theorem r4_29 : Go.Eng.isTrue (Go.Eng.twoRun Try.prog Go.Eng.noSums (⟨14, 16, 31, 37, 40⟩ : Go.Eng.Fns) 1000 60 12 (.row []) (.row [4, 1, 1])) = true := by kernel_rfl
set_option maxRecDepth 100000 in
theorem r4_30 : Go.Eng.isTrue (Go.Eng.twoRun Try.prog Go.Eng.noSums (⟨14, 16, 31, 37, 40⟩ : Go.Eng.Fns) 1000 60 12 (.row []) (.row [4, 2])) = true := by kernel_rfl
set_option maxRecDepth 100000 in
theorem r4_31 : Go.Eng.isTrue (Go.Eng.twoRun Try.prog Go.Eng.noSums (⟨14, 16, 31, 37, 40⟩ : Go.Eng.Fns) 1000 60 12 (.row []) (.row [5])) = true := by kernel_rfl
set_option maxRecDepth 100000 in
theorem r4_32 : Go.Eng.isTrue (Go.Eng.twoRun Try.prog Go.Eng.noSums (⟨14, 16, 31, 37, 40⟩ : Go.Eng.Fns) 1000 60 12 (.row []) (.row [5, 1])) = true := by kernel_rfl
set_option maxRecDepth 100000 in
theorem r4_33 : Go.Eng.isTrue (Go.Eng.twoRun Try.prog Go.Eng.noSums (⟨14, 16, 31, 37, 40⟩ : Go.Eng.Fns) 1000 60 12 (.row []) (.row [6])) = true := by kernel_rfl
theorem r4 : Go.Eng.AllL (fun c => Go.Eng.isTrue (Go.Eng.twoRun Try.prog Go.Eng.noSums (⟨14, 16, 31, 37, 40⟩ : Go.Eng.Fns) 1000 60 12 (.row []) c) = true) Go.Eng.classes := by
  unfold Go.Eng.classes
  rw [Go.Eng.shares_eq]
  exact ⟨r4_0, r4_1, r4_2, r4_3, r4_4, r4_5, r4_6, r4_7, r4_8, r4_9, r4_10, r4_11, r4_12, r4_13, r4_14, r4_15, r4_16, r4_17, r4_18, r4_19, r4_20, r4_21, r4_22, r4_23, r4_24, r4_25, r4_26, r4_27, r4_28, r4_29, r4_30, r4_31, r4_32, r4_33, trivial⟩
set_option maxRecDepth 100000 in
theorem r7_0 : Go.Eng.isTrue (Go.Eng.twoRun Try.prog Go.Eng.noSums (⟨14, 16, 31, 37, 40⟩ : Go.Eng.Fns) 1000 60 12 (.row [1, 1, 1]) .nil) = true := by kernel_rfl
set_option maxRecDepth 100000 in
theorem r7_1 : Go.Eng.isTrue (Go.Eng.twoRun Try.prog Go.Eng.noSums (⟨14, 16, 31, 37, 40⟩ : Go.Eng.Fns) 1000 60 12 (.row [1, 1, 1]) .zero) = true := by kernel_rfl
set_option maxRecDepth 100000 in
theorem r7_2 : Go.Eng.isTrue (Go.Eng.twoRun Try.prog Go.Eng.noSums (⟨14, 16, 31, 37, 40⟩ : Go.Eng.Fns) 1000 60 12 (.row [1, 1, 1]) .no) = true := by kernel_rfl
set_option maxRecDepth 100000 in
theorem r7_3 : Go.Eng.isTrue (Go.Eng.twoRun Try.prog Go.Eng.noSums (⟨14, 16, 31, 37, 40⟩ : Go.Eng.Fns) 1000 60 12 (.row [1, 1, 1]) .long) = true := by kernel_rfl
set_option maxRecDepth 100000 in
theorem r7_4 : Go.Eng.isTrue (Go.Eng.twoRun Try.prog Go.Eng.noSums (⟨14, 16, 31, 37, 40⟩ : Go.Eng.Fns) 1000 60 12 (.row [1, 1, 1]) (.row [])) = true := by kernel_rfl
set_option maxRecDepth 100000 in
theorem r7_5 : Go.Eng.isTrue (Go.Eng.twoRun Try.prog Go.Eng.noSums (⟨14, 16, 31, 37, 40⟩ : Go.Eng.Fns) 1000 60 12 (.row [1, 1, 1]) (.row [1])) = true := by kernel_rfl
set_option maxRecDepth 100000 in
theorem r7_6 : Go.Eng.isTrue (Go.Eng.twoRun Try.prog Go.Eng.noSums (⟨14, 16, 31, 37, 40⟩ : Go.Eng.Fns) 1000 60 12 (.row [1, 1, 1]) (.row [1, 1])) = true := by kernel_rfl
set_option maxRecDepth 100000 in
theorem r7_7 : Go.Eng.isTrue (Go.Eng.twoRun Try.prog Go.Eng.noSums (⟨14, 16, 31, 37, 40⟩ : Go.Eng.Fns) 1000 60 12 (.row [1, 1, 1]) (.row [1, 1, 1])) = true := by kernel_rfl
set_option maxRecDepth 100000 in
theorem r7_8 : Go.Eng.isTrue (Go.Eng.twoRun Try.prog Go.Eng.noSums (⟨14, 16, 31, 37, 40⟩ : Go.Eng.Fns) 1000 60 12 (.row [1, 1, 1]) (.row [1, 1, 1, 1])) = true := by kernel_rfl
set_option maxRecDepth 100000 in
theorem r7_9 : Go.Eng.isTrue (Go.Eng.twoRun Try.prog Go.Eng.noSums (⟨14, 16, 31, 37, 40⟩ : Go.Eng.Fns) 1000 60 12 (.row [1, 1, 1]) (.row [1, 1, 1, 1, 1])) = true := by kernel_rfl
set_option maxRecDepth 100000 in
theorem r7_10 : Go.Eng.isTrue (Go.Eng.twoRun Try.prog Go.Eng.noSums (⟨14, 16, 31, 37, 40⟩ : Go.Eng.Fns) 1000 60 12 (.row [1, 1, 1]) (.row [1, 1, 1, 1, 1, 1])) = true := by kernel_rfl
set_option maxRecDepth 100000 in
theorem r7_11 : Go.Eng.isTrue (Go.Eng.twoRun Try.prog Go.Eng.noSums (⟨14, 16, 31, 37, 40⟩ : Go.Eng.Fns) 1000 60 12 (.row [1, 1, 1]) (.row [2])) = true := by kernel_rfl
set_option maxRecDepth 100000 in
theorem r7_12 : Go.Eng.isTrue (Go.Eng.twoRun Try.prog Go.Eng.noSums (⟨14, 16, 31, 37, 40⟩ : Go.Eng.Fns) 1000 60 12 (.row [1, 1, 1]) (.row [2, 1])) = true := by kernel_rfl
set_option maxRecDepth 100000 in
theorem r7_13 : Go.Eng.isTrue (Go.Eng.twoRun Try.prog Go.Eng.noSums (⟨14, 16, 31, 37, 40⟩ : Go.Eng.Fns) 1000 60 12 (.row [1, 1, 1]) (.row [2, 1, 1])) = true := by kernel_rfl
set_option maxRecDepth 100000 in
theorem r7_14 : Go.Eng.isTrue (Go.Eng.twoRun Try.prog Go.Eng.noSums (⟨14, 16, 31, 37, 40⟩ : Go.Eng.Fns) 1000 60 12 (.row [1, 1, 1]) (.row [2, 1, 1, 1])) = true := by kernel_rfl
set_option maxRecDepth 100000 in
theorem r7_15 : Go.Eng.isTrue (Go.Eng.twoRun Try.prog Go.Eng.noSums (⟨14, 16, 31, 37, 40⟩ : Go.Eng.Fns) 1000 60 12 (.row [1, 1, 1]) (.row [2, 1, 1, 1, 1])) = true := by kernel_rfl
set_option maxRecDepth 100000 in
theorem r7_16 : Go.Eng.isTrue (Go.Eng.twoRun Try.prog Go.Eng.noSums (⟨14, 16, 31, 37, 40⟩ : Go.Eng.Fns) 1000 60 12 (.row [1, 1, 1]) (.row [2, 2])) = true := by kernel_rfl
set_option maxRecDepth 100000 in
theorem r7_17 : Go.Eng.isTrue (Go.Eng.twoRun Try.prog Go.Eng.noSums (⟨14, 16, 31, 37, 40⟩ : Go.Eng.Fns) 1000 60 12 (.row [1, 1, 1]) (.row [2, 2, 1])) = true := by kernel_rfl
set_option maxRecDepth 100000 in
theorem r7_18 : Go.Eng.isTrue (Go.Eng.twoRun Try.prog Go.Eng.noSums (⟨14, 16, 31, 37, 40⟩ : Go.Eng.Fns) 1000 60 12 (.row [1, 1, 1]) (.row [2, 2, 1, 1])) = true := by kernel_rfl
set_option maxRecDepth 100000 in
theorem r7_19 : Go.Eng.isTrue (Go.Eng.twoRun Try.prog Go.Eng.noSums (⟨14, 16, 31, 37, 40⟩ : Go.Eng.Fns) 1000 60 12 (.row [1, 1, 1]) (.row [2, 2, 2])) = true := by kernel_rfl
set_option maxRecDepth 100000 in
theorem r7_20 : Go.Eng.isTrue (Go.Eng.twoRun Try.prog Go.Eng.noSums (⟨14, 16, 31, 37, 40⟩ : Go.Eng.Fns) 1000 60 12 (.row [1, 1, 1]) (.row [3])) = true := by kernel_rfl
set_option maxRecDepth 100000 in
theorem r7_21 : Go.Eng.isTrue (Go.Eng.twoRun Try.prog Go.Eng.noSums (⟨14, 16, 31, 37, 40⟩ : Go.Eng.Fns) 1000 60 12 (.row [1, 1, 1]) (.row [3, 1])) = true := by kernel_rfl
set_option maxRecDepth 100000 in
theorem r7_22 : Go.Eng.isTrue (Go.Eng.twoRun Try.prog Go.Eng.noSums (⟨14, 16, 31, 37, 40⟩ : Go.Eng.Fns) 1000 60 12 (.row [1, 1, 1]) (.row [3, 1, 1])) = true := by kernel_rfl
set_option maxRecDepth 100000 in
theorem r7_23 : Go.Eng.isTrue (Go.Eng.twoRun Try.prog Go.Eng.noSums (⟨14, 16, 31, 37, 40⟩ : Go.Eng.Fns) 1000 60 12 (.row [1, 1, 1]) (.row [3, 1, 1, 1])) = true := by kernel_rfl
set_option maxRecDepth 100000 in
theorem r7_24 : Go.Eng.isTrue (Go.Eng.twoRun Try.prog Go.Eng.noSums (⟨14, 16, 31, 37, 40⟩ : Go.Eng.Fns) 1000 60 12 (.row [1, 1, 1]) (.row [3, 2])) = true := by kernel_rfl
set_option maxRecDepth 100000 in
theorem r7_25 : Go.Eng.isTrue (Go.Eng.twoRun Try.prog Go.Eng.noSums (⟨14, 16, 31, 37, 40⟩ : Go.Eng.Fns) 1000 60 12 (.row [1, 1, 1]) (.row [3, 2, 1])) = true := by kernel_rfl
set_option maxRecDepth 100000 in
theorem r7_26 : Go.Eng.isTrue (Go.Eng.twoRun Try.prog Go.Eng.noSums (⟨14, 16, 31, 37, 40⟩ : Go.Eng.Fns) 1000 60 12 (.row [1, 1, 1]) (.row [3, 3])) = true := by kernel_rfl
set_option maxRecDepth 100000 in
theorem r7_27 : Go.Eng.isTrue (Go.Eng.twoRun Try.prog Go.Eng.noSums (⟨14, 16, 31, 37, 40⟩ : Go.Eng.Fns) 1000 60 12 (.row [1, 1, 1]) (.row [4])) = true := by kernel_rfl
set_option maxRecDepth 100000 in
theorem r7_28 : Go.Eng.isTrue (Go.Eng.twoRun Try.prog Go.Eng.noSums (⟨14, 16, 31, 37, 40⟩ : Go.Eng.Fns) 1000 60 12 (.row [1, 1, 1]) (.row [4, 1])) = true := by kernel_rfl
set_option maxRecDepth 100000 in
theorem r7_29 : Go.Eng.isTrue (Go.Eng.twoRun Try.prog Go.Eng.noSums (⟨14, 16, 31, 37, 40⟩ : Go.Eng.Fns) 1000 60 12 (.row [1, 1, 1]) (.row [4, 1, 1])) = true := by kernel_rfl
set_option maxRecDepth 100000 in
theorem r7_30 : Go.Eng.isTrue (Go.Eng.twoRun Try.prog Go.Eng.noSums (⟨14, 16, 31, 37, 40⟩ : Go.Eng.Fns) 1000 60 12 (.row [1, 1, 1]) (.row [4, 2])) = true := by kernel_rfl
set_option maxRecDepth 100000 in
theorem r7_31 : Go.Eng.isTrue (Go.Eng.twoRun Try.prog Go.Eng.noSums (⟨14, 16, 31, 37, 40⟩ : Go.Eng.Fns) 1000 60 12 (.row [1, 1, 1]) (.row [5])) = true := by kernel_rfl
set_option maxRecDepth 100000 in
theorem r7_32 : Go.Eng.isTrue (Go.Eng.twoRun Try.prog Go.Eng.noSums (⟨14, 16, 31, 37, 40⟩ : Go.Eng.Fns) 1000 60 12 (.row [1, 1, 1]) (.row [5, 1])) = true := by kernel_rfl
set_option maxRecDepth 100000 in
theorem r7_33 : Go.Eng.isTrue (Go.Eng.twoRun Try.prog Go.Eng.noSums (⟨14, 16, 31, 37, 40⟩ : Go.Eng.Fns) 1000 60 12 (.row [1, 1, 1]) (.row [6])) = true := by kernel_rfl
theorem r7 : Go.Eng.AllL (fun c => Go.Eng.isTrue (Go.Eng.twoRun Try.prog Go.Eng.noSums (⟨14, 16, 31, 37, 40⟩ : Go.Eng.Fns) 1000 60 12 (.row [1, 1, 1]) c) = true) Go.Eng.classes := by
  unfold Go.Eng.classes
  rw [Go.Eng.shares_eq]
  exact ⟨r7_0, r7_1, r7_2, r7_3, r7_4, r7_5, r7_6, r7_7, r7_8, r7_9, r7_10, r7_11, r7_12, r7_13, r7_14, r7_15, r7_16, r7_17, r7_18, r7_19, r7_20, r7_21, r7_22, r7_23, r7_24, r7_25, r7_26, r7_27, r7_28, r7_29, r7_30, r7_31, r7_32, r7_33, trivial⟩
set_option maxRecDepth 100000 in
theorem r10_0 : Go.Eng.isTrue (Go.Eng.twoRun Try.prog Go.Eng.noSums (⟨14, 16, 31, 37, 40⟩ : Go.Eng.Fns) 1000 60 12 (.row [1, 1, 1, 1, 1, 1]) .nil) = true := by kernel_rfl
set_option maxRecDepth 100000 in
theorem r10_1 : Go.Eng.isTrue (Go.Eng.twoRun Try.prog Go.Eng.noSums (⟨14, 16, 31, 37, 40⟩ : Go.Eng.Fns) 1000 60 12 (.row [1, 1, 1, 1, 1, 1]) .zero) = true := by kernel_rfl
set_option maxRecDepth 100000 in
theorem r10_2 : Go.Eng.isTrue (Go.Eng.twoRun Try.prog Go.Eng.noSums (⟨14, 16, 31, 37, 40⟩ : Go.Eng.Fns) 1000 60 12 (.row [1, 1, 1, 1, 1, 1]) .no) = true := by kernel_rfl
set_option maxRecDepth 100000 in
theorem r10_3 : Go.Eng.isTrue (Go.Eng.twoRun Try.prog Go.Eng.noSums (⟨14, 16, 31, 37, 40⟩ : Go.Eng.Fns) 1000 60 12 (.row [1, 1, 1, 1, 1, 1]) .long) = true := by kernel_rfl
set_option maxRecDepth 100000 in
theorem r10_4 : Go.Eng.isTrue (Go.Eng.twoRun Try.prog Go.Eng.noSums (⟨14, 16, 31, 37, 40⟩ : Go.Eng.Fns) 1000 60 12 (.row [1, 1, 1, 1, 1, 1]) (.row [])) = true := by kernel_rfl
set_option maxRecDepth 100000 in
theorem r10_5 : Go.Eng.isTrue (Go.Eng.twoRun Try.prog Go.Eng.noSums (⟨14, 16, 31, 37, 40⟩ : Go.Eng.Fns) 1000 60 12 (.row [1, 1, 1, 1, 1, 1]) (.row [1])) = true := by kernel_rfl
set_option maxRecDepth 100000 in
theorem r10_6 : Go.Eng.isTrue (Go.Eng.twoRun Try.prog Go.Eng.noSums (⟨14, 16, 31, 37, 40⟩ : Go.Eng.Fns) 1000 60 12 (.row [1, 1, 1, 1, 1, 1]) (.row [1, 1])) = true := by kernel_rfl
set_option maxRecDepth 100000 in
theorem r10_7 : Go.Eng.isTrue (Go.Eng.twoRun Try.prog Go.Eng.noSums (⟨14, 16, 31, 37, 40⟩ : Go.Eng.Fns) 1000 60 12 (.row [1, 1, 1, 1, 1, 1]) (.row [1, 1, 1])) = true := by kernel_rfl
set_option maxRecDepth 100000 in
theorem r10_8 : Go.Eng.isTrue (Go.Eng.twoRun Try.prog Go.Eng.noSums (⟨14, 16, 31, 37, 40⟩ : Go.Eng.Fns) 1000 60 12 (.row [1, 1, 1, 1, 1, 1]) (.row [1, 1, 1, 1])) = true := by kernel_rfl
set_option maxRecDepth 100000 in
theorem r10_9 : Go.Eng.isTrue (Go.Eng.twoRun Try.prog Go.Eng.noSums (⟨14, 16, 31, 37, 40⟩ : Go.Eng.Fns) 1000 60 12 (.row [1, 1, 1, 1, 1, 1]) (.row [1, 1, 1, 1, 1])) = true := by kernel_rfl
set_option maxRecDepth 100000 in
theorem r10_10 : Go.Eng.isTrue (Go.Eng.twoRun Try.prog Go.Eng.noSums (⟨14, 16, 31, 37, 40⟩ : Go.Eng.Fns) 1000 60 12 (.row [1, 1, 1, 1, 1, 1]) (.row [1, 1, 1, 1, 1, 1])) = true := by kernel_rfl
set_option maxRecDepth 100000 in
theorem r10_11 : Go.Eng.isTrue (Go.Eng.twoRun Try.prog Go.Eng.noSums (⟨14, 16, 31, 37, 40⟩ : Go.Eng.Fns) 1000 60 12 (.row [1, 1, 1, 1, 1, 1]) (.row [2])) = true := by kernel_rfl
set_option maxRecDepth 100000 in
theorem r10_12 : Go.Eng.isTrue (Go.Eng.twoRun Try.prog Go.Eng.noSums (⟨14, 16, 31, 37, 40⟩ : Go.Eng.Fns) 1000 60 12 (.row [1, 1, 1, 1, 1, 1]) (.row [2, 1])) = true := by kernel_rfl
set_option maxRecDepth 100000 in
theorem r10_13 : Go.Eng.isTrue (Go.Eng.twoRun Try.prog Go.Eng.noSums (⟨14, 16, 31, 37, 40⟩ : Go.Eng.Fns) 1000 60 12 (.row [1, 1, 1, 1, 1, 1]) (.row [2, 1, 1])) = true := by kernel_rfl
set_option maxRecDepth 100000 in
theorem r10_14 : Go.Eng.isTrue (Go.Eng.twoRun Try.prog Go.Eng.noSums (⟨14, 16, 31, 37, 40⟩ : Go.Eng.Fns) 1000 60 12 (.row [1, 1, 1, 1, 1, 1]) (.row [2, 1, 1, 1])) = true := by kernel_rfl
set_option maxRecDepth 100000 in
theorem r10_15 : Go.Eng.isTrue (Go.Eng.twoRun Try.prog Go.Eng.noSums (⟨14, 16, 31, 37, 40⟩ : Go.Eng.Fns) 1000 60 12 (.row [1, 1, 1, 1, 1, 1]) (.row [2, 1, 1, 1, 1])) = true := by kernel_rfl
set_option maxRecDepth 100000 in
theorem r10_16 : Go.Eng.isTrue (Go.Eng.twoRun Try.prog Go.Eng.noSums (⟨14, 16, 31, 37, 40⟩ : Go.Eng.Fns) 1000 60 12 (.row [1, 1, 1, 1, 1, 1]) (.row [2, 2])) = true := by kernel_rfl
set_option maxRecDepth 100000 in
theorem r10_17 : Go.Eng.isTrue (Go.Eng.twoRun Try.prog Go.Eng.noSums (⟨14, 16, 31, 37, 40⟩ : Go.Eng.Fns) 1000 60 12 (.row [1, 1, 1, 1, 1, 1]) (.row [2, 2, 1])) = true := by kernel_rfl
set_option maxRecDepth 100000 in
theorem r10_18 : Go.Eng.isTrue (Go.Eng.twoRun Try.prog Go.Eng.noSums (⟨14, 16, 31, 37, 40⟩ : Go.Eng.Fns) 1000 60 12 (.row [1, 1, 1, 1, 1, 1]) (.row [2, 2, 1, 1])) = true := by kernel_rfl
set_option maxRecDepth 100000 in
theorem r10_19 : Go.Eng.isTrue (Go.Eng.twoRun Try.prog Go.Eng.noSums (⟨14, 16, 31, 37, 40⟩ : Go.Eng.Fns) 1000 60 12 (.row [1, 1, 1, 1, 1, 1]) (.row [2, 2, 2])) = true := by kernel_rfl
set_option maxRecDepth 100000 in
theorem r10_20 : Go.Eng.isTrue (Go.Eng.twoRun Try.prog Go.Eng.noSums (⟨14, 16, 31, 37, 40⟩ : Go.Eng.Fns) 1000 60 12 (.row [1, 1, 1, 1, 1, 1]) (.row [3])) = true := by kernel_rfl
set_option maxRecDepth 100000 in
theorem r10_21 : Go.Eng.isTrue (Go.Eng.twoRun Try.prog Go.Eng.noSums (⟨14, 16, 31, 37, 40⟩ : Go.Eng.Fns) 1000 60 12 (.row [1, 1, 1, 1, 1, 1]) (.row [3, 1])) = true := by kernel_rfl
set_option maxRecDepth 100000 in
theorem r10_22 : Go.Eng.isTrue (Go.Eng.twoRun Try.prog Go.Eng.noSums (⟨14, 16, 31, 37, 40⟩ : Go.Eng.Fns) 1000 60 12 (.row [1, 1, 1, 1, 1, 1]) (.row [3, 1, 1])) = true := by kernel_rfl
set_option maxRecDepth 100000 in
theorem r10_23 : Go.Eng.isTrue (Go.Eng.twoRun Try.prog Go.Eng.noSums (⟨14, 16, 31, 37, 40⟩ : Go.Eng.Fns) 1000 60 12 (.row [1, 1, 1, 1, 1, 1]) (.row [3, 1, 1, 1])) = true := by kernel_rfl
set_option maxRecDepth 100000 in
theorem r10_24 : Go.Eng.isTrue (Go.Eng.twoRun Try.prog Go.Eng.noSums (⟨14, 16, 31, 37, 40⟩ : Go.Eng.Fns) 1000 60 12 (.row [1, 1, 1, 1, 1, 1]) (.row [3, 2])) = true := by kernel_rfl
set_option maxRecDepth 100000 in
theorem r10_25 : Go.Eng.isTrue (Go.Eng.twoRun Try.prog Go.Eng.noSums (⟨14, 16, 31, 37, 40⟩ : Go.Eng.Fns) 1000 60 12 (.row [1, 1, 1, 1, 1, 1]) (.row [3, 2, 1])) = true := by kernel_rfl
set_option maxRecDepth 100000 in
theorem r10_26 : Go.Eng.isTrue (Go.Eng.twoRun Try.prog Go.Eng.noSums (⟨14, 16, 31, 37, 40⟩ : Go.Eng.Fns) 1000 60 12 (.row [1, 1, 1, 1, 1, 1]) (.row [3, 3])) = true := by kernel_rfl
set_option maxRecDepth 100000 in
theorem r10_27 : Go.Eng.isTrue (Go.Eng.twoRun Try.prog Go.Eng.noSums (⟨14, 16, 31, 37, 40⟩ : Go.Eng.Fns) 1000 60 12 (.row [1, 1, 1, 1, 1, 1]) (.row [4])) = true := by kernel_rfl
set_option maxRecDepth 100000 in
theorem r10_28 : Go.Eng.isTrue (Go.Eng.twoRun Try.prog Go.Eng.noSums (⟨14, 16, 31, 37, 40⟩ : Go.Eng.Fns) 1000 60 12 (.row [1, 1, 1, 1, 1, 1]) (.row [4, 1])) = true := by kernel_rfl
set_option maxRecDepth 100000 in
theorem r10_29 : Go.Eng.isTrue (Go.Eng.twoRun Try.prog Go.Eng.noSums (⟨14, 16, 31, 37, 40⟩ : Go.Eng.Fns) 1000 60 12 (.row [1, 1, 1, 1, 1, 1]) (.row [4, 1, 1])) = true := by kernel_rfl
set_option maxRecDepth 100000 in
theorem r10_30 : Go.Eng.isTrue (Go.Eng.twoRun Try.prog Go.Eng.noSums (⟨14, 16, 31, 37, 40⟩ : Go.Eng.Fns) 1000 60 12 (.row [1, 1, 1, 1, 1, 1]) (.row [4, 2])) = true := by kernel_rfl
set_option maxRecDepth 100000 in
theorem r10_31 : Go.Eng.isTrue (Go.Eng.twoRun Try.prog Go.Eng.noSums (⟨14, 16, 31, 37, 40⟩ : Go.Eng.Fns) 1000 60 12 (.row [1, 1, 1, 1, 1, 1]) (.row [5])) = true := by kernel_rfl
set_option maxRecDepth 100000 in
theorem r10_32 : Go.Eng.isTrue (Go.Eng.twoRun Try.prog Go.Eng.noSums (⟨14, 16, 31, 37, 40⟩ : Go.Eng.Fns) 1000 60 12 (.row [1, 1, 1, 1, 1, 1]) (.row [5, 1])) = true := by kernel_rfl
set_option maxRecDepth 100000 in
theorem r10_33 : Go.Eng.isTrue (Go.Eng.twoRun Try.prog Go.Eng.noSums (⟨14, 16, 31, 37, 40⟩ : Go.Eng.Fns) 1000 60 12 (.row [1, 1, 1, 1, 1, 1]) (.row [6])) = true := by kernel_rfl
theorem r10 : Go.Eng.AllL (fun c => Go.Eng.isTrue (Go.Eng.twoRun Try.prog Go.Eng.noSums (⟨14, 16, 31, 37, 40⟩ : Go.Eng.Fns) 1000 60 12 (.row [1, 1, 1, 1, 1, 1]) c) = true) Go.Eng.classes := by
  unfold Go.Eng.classes
  rw [Go.Eng.shares_eq]
  exact ⟨r10_0, r10_1, r10_2, r10_3, r10_4, r10_5, r10_6, r10_7, r10_8, r10_9, r10_10, r10_11, r10_12, r10_13, r10_14, r10_15, r10_16, r10_17, r10_18, r10_19, r10_20, r10_21, r10_22, r10_23, r10_24, r10_25, r10_26, r10_27, r10_28, r10_29, r10_30, r10_31, r10_32, r10_33, trivial⟩
set_option maxRecDepth 100000 in
theorem r13_0 : Go.Eng.isTrue (Go.Eng.twoRun Try.prog Go.Eng.noSums (⟨14, 16, 31, 37, 40⟩ : Go.Eng.Fns) 1000 60 12 (.row [2, 1, 1]) .nil) = true := by kernel_rfl
set_option maxRecDepth 100000 in
theorem r13_1 : Go.Eng.isTrue (Go.Eng.twoRun Try.prog Go.Eng.noSums (⟨14, 16, 31, 37, 40⟩ : Go.Eng.Fns) 1000 60 12 (.row [2, 1, 1]) .zero) = true := by kernel_rfl
set_option maxRecDepth 100000 in
theorem r13_2 : Go.Eng.isTrue (Go.Eng.twoRun Try.prog Go.Eng.noSums (⟨14, 16, 31, 37, 40⟩ : Go.Eng.Fns) 1000 60 12 (.row [2, 1, 1]) .no) = true := by kernel_rfl
set_option maxRecDepth 100000 in
theorem r13_3 : Go.Eng.isTrue (Go.Eng.twoRun Try.prog Go.Eng.noSums (⟨14, 16, 31, 37, 40⟩ : Go.Eng.Fns) 1000 60 12 (.row [2, 1, 1]) .long) = true := by kernel_rfl
set_option maxRecDepth 100000 in
theorem r13_4 : Go.Eng.isTrue (Go.Eng.twoRun Try.prog Go.Eng.noSums (⟨14, 16, 31, 37, 40⟩ : Go.Eng.Fns) 1000 60 12 (.row [2, 1, 1]) (.row [])) = true := by kernel_rfl
set_option maxRecDepth 100000 in
theorem r13_5 : Go.Eng.isTrue (Go.Eng.twoRun Try.prog Go.Eng.noSums (⟨14, 16, 31, 37, 40⟩ : Go.Eng.Fns) 1000 60 12 (.row [2, 1, 1]) (.row [1])) = true := by kernel_rfl
set_option maxRecDepth 100000 in
theorem r13_6 : Go.Eng.isTrue (Go.Eng.twoRun Try.prog Go.Eng.noSums (⟨14, 16, 31, 37, 40⟩ : Go.Eng.Fns) 1000 60 12 (.row [2, 1, 1]) (.row [1, 1])) = true := by kernel_rfl
set_option maxRecDepth 100000 in
theorem r13_7 : Go.Eng.isTrue (Go.Eng.twoRun Try.prog Go.Eng.noSums (⟨14, 16, 31, 37, 40⟩ : Go.Eng.Fns) 1000 60 12 (.row [2, 1, 1]) (.row [1, 1, 1])) = true := by kernel_rfl
set_option maxRecDepth 100000 in
theorem r13_8 : Go.Eng.isTrue (Go.Eng.twoRun Try.prog Go.Eng.noSums (⟨14, 16, 31, 37, 40⟩ : Go.Eng.Fns) 1000 60 12 (.row [2, 1, 1]) (.row [1, 1, 1, 1])) = true := by kernel_rfl
set_option maxRecDepth 100000 in
theorem r13_9 : Go.Eng.isTrue (Go.Eng.twoRun Try.prog Go.Eng.noSums (⟨14, 16, 31, 37, 40⟩ : Go.Eng.Fns) 1000 60 12 (.row [2, 1, 1]) (.row [1, 1, 1, 1, 1])) = true := by kernel_rfl
set_option maxRecDepth 100000 in
theorem r13_10 : Go.Eng.isTrue (Go.Eng.twoRun Try.prog Go.Eng.noSums (⟨14, 16, 31, 37, 40⟩ : Go.Eng.Fns) 1000 60 12 (.row [2, 1, 1]) (.row [1, 1, 1, 1, 1, 1])) = true := by kernel_rfl
set_option maxRecDepth 100000 in
theorem r13_11 : Go.Eng.isTrue (Go.Eng.twoRun Try.prog Go.Eng.noSums (⟨14, 16, 31, 37, 40⟩ : Go.Eng.Fns) 1000 60 12 (.row [2, 1, 1]) (.row [2])) = true := by kernel_rfl
set_option maxRecDepth 100000 in
theorem r13_12 : Go.Eng.isTrue (Go.Eng.twoRun Try.prog Go.Eng.noSums (⟨14, 16, 31, 37, 40⟩ : Go.Eng.Fns) 1000 60 12 (.row [2, 1, 1]) (.row [2, 1])) = true := by kernel_rfl
set_option maxRecDepth 100000 in
theorem r13_13 : Go.Eng.isTrue (Go.Eng.twoRun Try.prog Go.Eng.noSums (⟨14, 16, 31, 37, 40⟩ : Go.Eng.Fns) 1000 60 12 (.row [2, 1, 1]) (.row [2, 1, 1])) = true := by kernel_rfl
set_option maxRecDepth 100000 in
theorem r13_14 : Go.Eng.isTrue (Go.Eng.twoRun Try.prog Go.Eng.noSums (⟨14, 16, 31, 37, 40⟩ : Go.Eng.Fns) 1000 60 12 (.row [2, 1, 1]) (.row [2, 1, 1, 1])) = true := by kernel_rfl
set_option maxRecDepth 100000 in
theorem r13_15 : Go.Eng.isTrue (Go.Eng.twoRun Try.prog Go.Eng.noSums (⟨14, 16, 31, 37, 40⟩ : Go.Eng.Fns) 1000 60 12 (.row [2, 1, 1]) (.row [2, 1, 1, 1, 1])) = true := by kernel_rfl
set_option maxRecDepth 100000 in
theorem r13_16 : Go.Eng.isTrue (Go.Eng.twoRun Try.prog Go.Eng.noSums (⟨14, 16, 31, 37, 40⟩ : Go.Eng.Fns) 1000 60 12 (.row [2, 1, 1]) (.row [2, 2])) = true := by kernel_rfl
set_option maxRecDepth 100000 in
theorem r13_17 : Go.Eng.isTrue (Go.Eng.twoRun Try.prog Go.Eng.noSums (⟨14, 16, 31, 37, 40⟩ : Go.Eng.Fns) 1000 60 12 (.row [2, 1, 1]) (.row [2, 2, 1])) = true := by kernel_rfl
set_option maxRecDepth 100000 in
theorem r13_18 : Go.Eng.isTrue (Go.Eng.twoRun Try.prog Go.Eng.noSums (⟨14, 16, 31, 37, 40⟩ : Go.Eng.Fns) 1000 60 12 (.row [2, 1, 1]) (.row [2, 2, 1, 1])) = true := by kernel_rfl
set_option maxRecDepth 100000 in
theorem r13_19 : Go.Eng.isTrue (Go.Eng.twoRun Try.prog Go.Eng.noSums (⟨14, 16, 31, 37, 40⟩ : Go.Eng.Fns) 1000 60 12 (.row [2, 1, 1]) (.row [2, 2, 2])) = true := by kernel_rfl
set_option maxRecDepth 100000 in
theorem r13_20 : Go.Eng.isTrue (Go.Eng.twoRun Try.prog Go.Eng.noSums (⟨14, 16, 31, 37, 40⟩ : Go.Eng.Fns) 1000 60 12 (.row [2, 1, 1]) (.row [3])) = true := by kernel_rfl
set_option maxRecDepth 100000 in
theorem r13_21 : Go.Eng.isTrue (Go.Eng.twoRun Try.prog Go.Eng.noSums (⟨14, 16, 31, 37, 40⟩ : Go.Eng.Fns) 1000 60 12 (.row [2, 1, 1]) (.row [3, 1])) = true := by kernel_rfl
set_option maxRecDepth 100000 in
theorem r13_22 : Go.Eng.isTrue (Go.Eng.twoRun Try.prog Go.Eng.noSums (⟨14, 16, 31, 37, 40⟩ : Go.Eng.Fns) 1000 60 12 (.row [2, 1, 1]) (.row [3, 1, 1])) = true := by kernel_rfl
set_option maxRecDepth 100000 in
theorem r13_23 : Go.Eng.isTrue (Go.Eng.twoRun Try.prog Go.Eng.noSums (⟨14, 16, 31, 37, 40⟩ : Go.Eng.Fns) 1000 60 12 (.row [2, 1, 1]) (.row [3, 1, 1, 1])) = true := by kernel_rfl
set_option maxRecDepth 100000 in
theorem r13_24 : Go.Eng.isTrue (Go.Eng.twoRun Try.prog Go.Eng.noSums (⟨14, 16, 31, 37, 40⟩ : Go.Eng.Fns) 1000 60 12 (.row [2, 1, 1]) (.row [3, 2])) = true := by kernel_rfl
set_option maxRecDepth 100000 in
theorem r13_25 : Go.Eng.isTrue (Go.Eng.twoRun Try.prog Go.Eng.noSums (⟨14, 16, 31, 37, 40⟩ : Go.Eng.Fns) 1000 60 12 (.row [2, 1, 1]) (.row [3, 2, 1])) = true := by kernel_rfl
set_option maxRecDepth 100000 in
theorem r13_26 : Go.Eng.isTrue (Go.Eng.twoRun Try.prog Go.Eng.noSums (⟨14, 16, 31, 37, 40⟩ : Go.Eng.Fns) 1000 60 12 (.row [2, 1, 1]) (.row [3, 3])) = true := by kernel_rfl
set_option maxRecDepth 100000 in
theorem r13_27 : Go.Eng.isTrue (Go.Eng.twoRun Try.prog Go.Eng.noSums (⟨14, 16, 31, 37, 40⟩ : Go.Eng.Fns) 1000 60 12 (.row [2, 1, 1]) (.row [4])) = true := by kernel_rfl
set_option maxRecDepth 100000 in
theorem r13_28 : Go.Eng.isTrue (Go.Eng.twoRun Try.prog Go.Eng.noSums (⟨14, 16, 31, 37, 40⟩ : Go.Eng.Fns) 1000 60 12 (.row [2, 1, 1]) (.row [4, 1])) = true := by kernel_rfl
set_option maxRecDepth 100000 in
theorem r13_29 : Go.Eng.isTrue (Go.Eng.twoRun Try.prog Go.Eng.noSums (⟨14, 16, 31, 37, 40⟩ : Go.Eng.Fns) 1000 60 12 (.row [2, 1, 1]) (.row [4, 1, 1])) = true := by kernel_rfl
set_option maxRecDepth 100000 in
theorem r13_30 : Go.Eng.isTrue (Go.Eng.twoRun Try.prog Go.Eng.noSums (⟨14, 16, 31, 37, 40⟩ : Go.Eng.Fns) 1000 60 12 (.row [2, 1, 1]) (.row [4, 2])) = true := by kernel_rfl
set_option maxRecDepth 100000 in
theorem r13_31 : Go.Eng.isTrue (Go.Eng.twoRun Try.prog Go.Eng.noSums (⟨14, 16, 31, 37, 40⟩ : Go.Eng.Fns) 1000 60 12 (.row [2, 1, 1]) (.row [5])) = true := by kernel_rfl
set_option maxRecDepth 100000 in
theorem r13_32 : Go.Eng.isTrue (Go.Eng.twoRun Try.prog Go.Eng.noSums (⟨14, 16, 31, 37, 40⟩ : Go.Eng.Fns) 1000 60 12 (.row [2, 1, 1]) (.row [5, 1])) = true := by kernel_rfl
set_option maxRecDepth 100000 in
theorem r13_33 : Go.Eng.isTrue (Go.Eng.twoRun Try.prog Go.Eng.noSums (⟨14, 16, 31, 37, 40⟩ : Go.Eng.Fns) 1000 60 12 (.row [2, 1, 1]) (.row [6])) = true := by kernel_rfl
theorem r13 : Go.Eng.AllL (fun c => Go.Eng.isTrue (Go.Eng.twoRun Try.prog Go.Eng.noSums (⟨14, 16, 31, 37, 40⟩ : Go.Eng.Fns) 1000 60 12 (.row [2, 1, 1]) c) = true) Go.Eng.classes := by
  unfold Go.Eng.classes
  rw [Go.Eng.shares_eq]
  exact ⟨r13_0, r13_1, r13_2, r13_3, r13_4, r13_5, r13_6, r13_7, r13_8, r13_9, r13_10, r13_11, r13_12, r13_13, r13_14, r13_15, r13_16, r13_17, r13_18, r13_19, r13_20, r13_21, r13_22, r13_23, r13_24, r13_25, r13_26, r13_27, r13_28, r13_29, r13_30, r13_31, r13_32, r13_33, trivial⟩
set_option maxRecDepth 100000 in
theorem r16_0 : Go.Eng.isTrue (Go.Eng.twoRun Try.prog Go.Eng.noSums (⟨14, 16, 31, 37, 40⟩ : Go.Eng.Fns) 1000 60 12 (.row [2, 2]) .nil) = true := by kernel_rfl
set_option maxRecDepth 100000 in
theorem r16_1 : Go.Eng.isTrue (Go.Eng.twoRun Try.prog Go.Eng.noSums (⟨14, 16, 31, 37, 40⟩ : Go.Eng.Fns) 1000 60 12 (.row [2, 2]) .zero) = true := by kernel_rfl
set_option maxRecDepth 100000 in
theorem r16_2 : Go.Eng.isTrue (Go.Eng.twoRun Try.prog Go.Eng.noSums (⟨14, 16, 31, 37, 40⟩ : Go.Eng.Fns) 1000 60 12 (.row [2, 2]) .no) = true := by kernel_rfl
set_option maxRecDepth 100000 in
theorem r16_3 : Go.Eng.isTrue (Go.Eng.twoRun Try.prog Go.Eng.noSums (⟨14, 16, 31, 37, 40⟩ : Go.Eng.Fns) 1000 60 12 (.row [2, 2]) .long) = true := by kernel_rfl
set_option maxRecDepth 100000 in
theorem r16_4 : Go.Eng.isTrue (Go.Eng.twoRun Try.prog Go.Eng.noSums (⟨14, 16, 31, 37, 40⟩ : Go.Eng.Fns) 1000 60 12 (.row [2, 2]) (.row [])) = true := by kernel_rfl
set_option maxRecDepth 100000 in
theorem r16_5 : Go.Eng.isTrue (Go.Eng.twoRun Try.prog Go.Eng.noSums (⟨14, 16, 31, 37, 40⟩ : Go.Eng.Fns) 1000 60 12 (.row [2, 2]) (.row [1])) = true := by kernel_rfl
set_option maxRecDepth 100000 in
theorem r16_6 : Go.Eng.isTrue (Go.Eng.twoRun Try.prog Go.Eng.noSums (⟨14, 16, 31, 37, 40⟩ : Go.Eng.Fns) 1000 60 12 (.row [2, 2]) (.row [1, 1])) = true := by kernel_rfl
set_option maxRecDepth 100000 in
theorem r16_7 : Go.Eng.isTrue (Go.Eng.twoRun Try.prog Go.Eng.noSums (⟨14, 16, 31, 37, 40⟩ : Go.Eng.Fns) 1000 60 12 (.row [2, 2]) (.row [1, 1, 1])) = true := by kernel_rfl
set_option maxRecDepth 100000 in
theorem r16_8 : Go.Eng.isTrue (Go.Eng.twoRun Try.prog Go.Eng.noSums (⟨14, 16, 31, 37, 40⟩ : Go.Eng.Fns) 1000 60 12 (.row [2, 2]) (.row [1, 1, 1, 1])) = true := by kernel_rfl
set_option maxRecDepth 100000 in
theorem r16_9 : Go.Eng.isTrue (Go.Eng.twoRun Try.prog Go.Eng.noSums (⟨14, 16, 31, 37, 40⟩ : Go.Eng.Fns) 1000 60 12 (.row [2, 2]) (.row [1, 1, 1, 1, 1])) = true := by kernel_rfl
set_option maxRecDepth 100000 in
theorem r16_10 : Go.Eng.isTrue (Go.Eng.twoRun Try.prog Go.Eng.noSums (⟨14, 16, 31, 37, 40⟩ : Go.Eng.Fns) 1000 60 12 (.row [2, 2]) (.row [1, 1, 1, 1, 1, 1])) = true := by kernel_rfl
set_option maxRecDepth 100000 in
theorem r16_11 : Go.Eng.isTrue (Go.Eng.twoRun Try.prog Go.Eng.noSums (⟨14, 16, 31, 37, 40⟩ : Go.Eng.Fns) 1000 60 12 (.row [2, 2]) (.row [2])) = true := by kernel_rfl
set_option maxRecDepth 100000 in
theorem r16_12 : Go.Eng.isTrue (Go.Eng.twoRun Try.prog Go.Eng.noSums (⟨14, 16, 31, 37, 40⟩ : Go.Eng.Fns) 1000 60 12 (.row [2, 2]) (.row [2, 1])) = true := by kernel_rfl
set_option maxRecDepth 100000 in
theorem r16_13 : Go.Eng.isTrue (Go.Eng.twoRun Try.prog Go.Eng.noSums (⟨14, 16, 31, 37, 40⟩ : Go.Eng.Fns) 1000 60 12 (.row [2, 2]) (.row [2, 1, 1])) = true := by kernel_rfl
set_option maxRecDepth 100000 in
theorem r16_14 : Go.Eng.isTrue (Go.Eng.twoRun Try.prog Go.Eng.noSums (⟨14, 16, 31, 37, 40⟩ : Go.Eng.Fns) 1000 60 12 (.row [2, 2]) (.row [2, 1, 1, 1])) = true := by kernel_rfl
set_option maxRecDepth 100000 in
theorem r16_15 : Go.Eng.isTrue (Go.Eng.twoRun Try.prog Go.Eng.noSums (⟨14, 16, 31, 37, 40⟩ : Go.Eng.Fns) 1000 60 12 (.row [2, 2]) (.row [2, 1, 1, 1, 1])) = true := by kernel_rfl
set_option maxRecDepth 100000 in
theorem r16_16 : Go.Eng.isTrue (Go.Eng.twoRun Try.prog Go.Eng.noSums (⟨14, 16, 31, 37, 40⟩ : Go.Eng.Fns) 1000 60 12 (.row [2, 2]) (.row [2, 2])) = true := by kernel_rfl
set_option maxRecDepth 100000 in
theorem r16_17 : Go.Eng.isTrue (Go.Eng.twoRun Try.prog Go.Eng.noSums (⟨14, 16, 31, 37, 40⟩ : Go.Eng.Fns) 1000 60 12 (.row [2, 2]) (.row [2, 2, 1])) = true := by kernel_rfl
set_option maxRecDepth 100000 in
theorem r16_18 : Go.Eng.isTrue (Go.Eng.twoRun Try.prog Go.Eng.noSums (⟨14, 16, 31, 37, 40⟩ : Go.Eng.Fns) 1000 60 12 (.row [2, 2]) (.row [2, 2, 1, 1])) = true := by kernel_rfl
set_option maxRecDepth 100000 in
theorem r16_19 : Go.Eng.isTrue (Go.Eng.twoRun Try.prog Go.Eng.noSums (⟨14, 16, 31, 37, 40⟩ : Go.Eng.Fns) 1000 60 12 (.row [2, 2]) (.row [2, 2, 2])) = true := by kernel_rfl
set_option maxRecDepth 100000 in
theorem r16_20 : Go.Eng.isTrue (Go.Eng.twoRun Try.prog Go.Eng.noSums (⟨14, 16, 31, 37, 40⟩ : Go.Eng.Fns) 1000 60 12 (.row [2, 2]) (.row [3])) = true := by kernel_rfl
set_option maxRecDepth 100000 in
theorem r16_21 : Go.Eng.isTrue (Go.Eng.twoRun Try.prog Go.Eng.noSums (⟨14, 16, 31, 37, 40⟩ : Go.Eng.Fns) 1000 60 12 (.row [2, 2]) (.row [3, 1])) = true := by kernel_rfl
set_option maxRecDepth 100000 in
theorem r16_22 : Go.Eng.isTrue (Go.Eng.twoRun Try.prog Go.Eng.noSums (⟨14, 16, 31, 37, 40⟩ : Go.Eng.Fns) 1000 60 12 (.row [2, 2]) (.row [3, 1, 1])) = true := by kernel_rfl
set_option maxRecDepth 100000 in
theorem r16_23 : Go.Eng.isTrue (Go.Eng.twoRun Try.prog Go.Eng.noSums (⟨14, 16, 31, 37, 40⟩ : Go.Eng.Fns) 1000 60 12 (.row [2, 2]) (.row [3, 1, 1, 1])) = true := by kernel_rfl
set_option maxRecDepth 100000 in
theorem r16_24 : Go.Eng.isTrue (Go.Eng.twoRun Try.prog Go.Eng.noSums (⟨14, 16, 31, 37, 40⟩ : Go.Eng.Fns) 1000 60 12 (.row [2, 2]) (.row [3, 2])) = true := by kernel_rfl
set_option maxRecDepth 100000 in
theorem r16_25 : Go.Eng.isTrue (Go.Eng.twoRun Try.prog Go.Eng.noSums (⟨14, 16, 31, 37, 40⟩ : Go.Eng.Fns) 1000 60 12 (.row [2, 2]) (.row [3, 2, 1])) = true := by kernel_rfl
set_option maxRecDepth 100000 in
theorem r16_26 : Go.Eng.isTrue (Go.Eng.twoRun Try.prog Go.Eng.noSums (⟨14, 16, 31, 37, 40⟩ : Go.Eng.Fns) 1000 60 12 (.row [2, 2]) (.row [3, 3])) = true := by kernel_rfl
set_option maxRecDepth 100000 in
theorem r16_27 : Go.Eng.isTrue (Go.Eng.twoRun Try.prog Go.Eng.noSums (⟨14, 16, 31, 37, 40⟩ : Go.Eng.Fns) 1000 60 12 (.row [2, 2]) (.row [4])) = true := by kernel_rfl
set_option maxRecDepth 100000 in
theorem r16_28 : Go.Eng.isTrue (Go.Eng.twoRun Try.prog Go.Eng.noSums (⟨14, 16, 31, 37, 40⟩ : Go.Eng.Fns) 1000 60 12 (.row [2, 2]) (.row [4, 1])) = true := by kernel_rfl
set_option maxRecDepth 100000 in
theorem r16_29 : Go.Eng.isTrue (Go.Eng.twoRun Try.prog Go.Eng.noSums (⟨14, 16, 31, 37, 40⟩ : Go.Eng.Fns) 1000 60 12 (.row [2, 2]) (.row [4, 1, 1])) = true := by kernel_rfl
set_option maxRecDepth 100000 in
theorem r16_30 : Go.Eng.isTrue (Go.Eng.twoRun Try.prog Go.Eng.noSums (⟨14, 16, 31, 37, 40⟩ : Go.Eng.Fns) 1000 60 12 (.row [2, 2]) (.row [4, 2])) = true := by kernel_rfl
set_option maxRecDepth 100000 in
theorem r16_31 : Go.Eng.isTrue (Go.Eng.twoRun Try.prog Go.Eng.noSums (⟨14, 16, 31, 37, 40⟩ : Go.Eng.Fns) 1000 60 12 (.row [2, 2]) (.row [5])) = true := by kernel_rfl
set_option maxRecDepth 100000 in
theorem r16_32 : Go.Eng.isTrue (Go.Eng.twoRun Try.prog Go.Eng.noSums (⟨14, 16, 31, 37, 40⟩ : Go.Eng.Fns) 1000 60 12 (.row [2, 2]) (.row [5, 1])) = true := by kernel_rfl
set_option maxRecDepth 100000 in
theorem r16_33 : Go.Eng.isTrue (Go.Eng.twoRun Try.prog Go.Eng.noSums (⟨14, 16, 31, 37, 40⟩ : Go.Eng.Fns) 1000 60 12 (.row [2, 2]) (.row [6])) = true := by kernel_rfl
theorem r16 : Go.Eng.AllL (fun c => Go.Eng.isTrue (Go.Eng.twoRun Try.prog Go.Eng.noSums (⟨14, 16, 31, 37, 40⟩ : Go.Eng.Fns) 1000 60 12 (.row [2, 2]) c) = true) Go.Eng.classes := by
  unfold Go.Eng.classes
  rw [Go.Eng.shares_eq]
  exact ⟨r16_0, r16_1, r16_2, r16_3, r16_4, r16_5, r16_6, r16_7, r16_8, r16_9, r16_10, r16_11, r16_12, r16_13, r16_14, r16_15, r16_16, r16_17, r16_18, r16_19, r16_20, r16_21, r16_22, r16_23, r16_24, r16_25, r16_26, r16_27, r16_28, r16_29, r16_30, r16_31, r16_32, r16_33, trivial⟩
set_option maxRecDepth 100000 in
theorem r19_0 : Go.Eng.isTrue (Go.Eng.twoRun Try.prog Go.Eng.noSums (⟨14, 16, 31, 37, 40⟩ : Go.Eng.Fns) 1000 60 12 (.row [2, 2, 2]) .nil) = true := by kernel_rfl
set_option maxRecDepth 100000 in
theorem r19_1 : Go.Eng.isTrue (Go.Eng.twoRun Try.prog Go.Eng.noSums (⟨14, 16, 31, 37, 40⟩ : Go.Eng.Fns) 1000 60 12 (.row [2, 2, 2]) .zero) = true := by kernel_rfl
set_option maxRecDepth 100000 in
theorem r19_2 : Go.Eng.isTrue (Go.Eng.twoRun Try.prog Go.Eng.noSums (⟨14, 16, 31, 37, 40⟩ : Go.Eng.Fns) 1000 60 12 (.row [2, 2, 2]) .no) = true := by kernel_rfl
set_option maxRecDepth 100000 in
theorem r19_3 : Go.Eng.isTrue (Go.Eng.twoRun Try.prog Go.Eng.noSums (⟨14, 16, 31, 37, 40⟩ : Go.Eng.Fns) 1000 60 12 (.row [2, 2, 2]) .long) = true := by kernel_rfl
set_option maxRecDepth 100000 in
theorem r19_4 : Go.Eng.isTrue (Go.Eng.twoRun Try.prog Go.Eng.noSums (⟨14, 16, 31, 37, 40⟩ : Go.Eng.Fns) 1000 60 12 (.row [2, 2, 2]) (.row [])) = true := by kernel_rfl
set_option maxRecDepth 100000 in
theorem r19_5 : Go.Eng.isTrue (Go.Eng.twoRun Try.prog Go.Eng.noSums (⟨14, 16, 31, 37, 40⟩ : Go.Eng.Fns) 1000 60 12 (.row [2, 2, 2]) (.row [1])) = true := by kernel_rfl
set_option maxRecDepth 100000 in
theorem r19_6 : Go.Eng.isTrue (Go.Eng.twoRun Try.prog Go.Eng.noSums (⟨14, 16, 31, 37, 40⟩ : Go.Eng.Fns) 1000 60 12 (.row [2, 2, 2]) (.row [1, 1])) = true := by kernel_rfl
set_option maxRecDepth 100000 in
theorem r19_7 : Go.Eng.isTrue (Go.Eng.twoRun Try.prog Go.Eng.noSums (⟨14, 16, 31, 37, 40⟩ : Go.Eng.Fns) 1000 60 12 (.row [2, 2, 2]) (.row [1, 1, 1])) = true := by kernel_rfl
set_option maxRecDepth 100000 in
theorem r19_8 : Go.Eng.isTrue (Go.Eng.twoRun Try.prog Go.Eng.noSums (⟨14, 16, 31, 37, 40⟩ : Go.Eng.Fns) 1000 60 12 (.row [2, 2, 2]) (.row [1, 1, 1, 1])) = true := by kernel_rfl
set_option maxRecDepth 100000 in
theorem r19_9 : Go.Eng.isTrue (Go.Eng.twoRun Try.prog Go.Eng.noSums (⟨14, 16, 31, 37, 40⟩ : Go.Eng.Fns) 1000 60 12 (.row [2, 2, 2]) (.row [1, 1, 1, 1, 1])) = true := by kernel_rfl
set_option maxRecDepth 100000 in
theorem r19_10 : Go.Eng.isTrue (Go.Eng.twoRun Try.prog Go.Eng.noSums (⟨14, 16, 31, 37, 40⟩ : Go.Eng.Fns) 1000 60 12 (.row [2, 2, 2]) (.row [1, 1, 1, 1, 1, 1])) = true := by kernel_rfl
set_option maxRecDepth 100000 in
theorem r19_11 : Go.Eng.isTrue (Go.Eng.twoRun Try.prog Go.Eng.noSums (⟨14, 16, 31, 37, 40⟩ : Go.Eng.Fns) 1000 60 12 (.row [2, 2, 2]) (.row [2])) = true := by kernel_rfl
set_option maxRecDepth 100000 in
theorem r19_12 : Go.Eng.isTrue (Go.Eng.twoRun Try.prog Go.Eng.noSums (⟨14, 16, 31, 37, 40⟩ : Go.Eng.Fns) 1000 60 12 (.row [2, 2, 2]) (.row [2, 1])) = true := by kernel_rfl
set_option maxRecDepth 100000 in
theorem r19_13 : Go.Eng.isTrue (Go.Eng.twoRun Try.prog Go.Eng.noSums (⟨14, 16, 31, 37, 40⟩ : Go.Eng.Fns) 1000 60 12 (.row [2, 2, 2]) (.row [2, 1, 1])) = true := by kernel_rfl
set_option maxRecDepth 100000 in
theorem r19_14 : Go.Eng.isTrue (Go.Eng.twoRun Try.prog Go.Eng.noSums (⟨14, 16, 31, 37, 40⟩ : Go.Eng.Fns) 1000 60 12 (.row [2, 2, 2]) (.row [2, 1, 1, 1])) = true := by kernel_rfl
set_option maxRecDepth 100000 in
theorem r19_15 : Go.Eng.isTrue (Go.Eng.twoRun Try.prog Go.Eng.noSums (⟨14, 16, 31, 37, 40⟩ : Go.Eng.Fns) 1000 60 12 (.row [2, 2, 2]) (.row [2, 1, 1, 1, 1])) = true := by kernel_rfl
set_option maxRecDepth 100000 in
theorem r19_16 : Go.Eng.isTrue (Go.Eng.twoRun Try.prog Go.Eng.noSums (⟨14, 16, 31, 37, 40⟩ : Go.Eng.Fns) 1000 60 12 (.row [2, 2, 2]) (.row [2, 2])) = true := by kernel_rfl
set_option maxRecDepth 100000 in
theorem r19_17 : Go.Eng.isTrue (Go.Eng.twoRun Try.prog Go.Eng.noSums (⟨14, 16, 31, 37, 40⟩ : Go.Eng.Fns) 1000 60 12 (.row [2, 2, 2]) (.row [2, 2, 1])) = true := by kernel_rfl
set_option maxRecDepth 100000 in
theorem r19_18 : Go.Eng.isTrue (Go.Eng.twoRun Try.prog Go.Eng.noSums (⟨14, 16, 31, 37, 40⟩ : Go.Eng.Fns) 1000 60 12 (.row [2, 2, 2]) (.row [2, 2, 1, 1])) = true := by kernel_rfl
set_option maxRecDepth 100000 in
theorem r19_19 : Go.Eng.isTrue (Go.Eng.twoRun Try.prog Go.Eng.noSums (⟨14, 16, 31, 37, 40⟩ : Go.Eng.Fns) 1000 60 12 (.row [2, 2, 2]) (.row [2, 2, 2])) = true := by kernel_rfl
set_option maxRecDepth 100000 in
theorem r19_20 : Go.Eng.isTrue (Go.Eng.twoRun Try.prog Go.Eng.noSums (⟨14, 16, 31, 37, 40⟩ : Go.Eng.Fns) 1000 60 12 (.row [2, 2, 2]) (.row [3])) = true := by kernel_rfl
set_option maxRecDepth 100000 in
theorem r19_21 : Go.Eng.isTrue (Go.Eng.twoRun Try.prog Go.Eng.noSums (⟨14, 16, 31, 37, 40⟩ : Go.Eng.Fns) 1000 60 12 (.row [2, 2, 2]) (.row [3, 1])) = true := by kernel_rfl
set_option maxRecDepth 100000 in
theorem r19_22 : Go.Eng.isTrue (Go.Eng.twoRun Try.prog Go.Eng.noSums (⟨14, 16, 31, 37, 40⟩ : Go.Eng.Fns) 1000 60 12 (.row [2, 2, 2]) (.row [3, 1, 1])) = true := by kernel_rfl
set_option maxRecDepth 100000 in
theorem r19_23 : Go.Eng.isTrue (Go.Eng.twoRun Try.prog Go.Eng.noSums (⟨14, 16, 31, 37, 40⟩ : Go.Eng.Fns) 1000 60 12 (.row [2, 2, 2]) (.row [3, 1, 1, 1])) = true := by kernel_rfl
set_option maxRecDepth 100000 in
theorem r19_24 : Go.Eng.isTrue (Go.Eng.twoRun Try.prog Go.Eng.noSums (⟨14, 16, 31, 37, 40⟩ : Go.Eng.Fns) 1000 60 12 (.row [2, 2, 2]) (.row [3, 2])) = true := by kernel_rfl
set_option maxRecDepth 100000 in
theorem r19_25 : Go.Eng.isTrue (Go.Eng.twoRun Try.prog Go.Eng.noSums (⟨14, 16, 31, 37, 40⟩ : Go.Eng.Fns) 1000 60 12 (.row [2, 2, 2]) (.row [3, 2, 1])) = true := by kernel_rfl
set_option maxRecDepth 100000 in
theorem r19_26 : Go.Eng.isTrue (Go.Eng.twoRun Try.prog Go.Eng.noSums (⟨14, 16, 31, 37, 40⟩ : Go.Eng.Fns) 1000 60 12 (.row [2, 2, 2]) (.row [3, 3])) = true := by kernel_rfl
set_option maxRecDepth 100000 in
theorem r19_27 : Go.Eng.isTrue (Go.Eng.twoRun Try.prog Go.Eng.noSums (⟨14, 16, 31, 37, 40⟩ : Go.Eng.Fns) 1000 60 12 (.row [2, 2, 2]) (.row [4])) = true := by kernel_rfl
set_option maxRecDepth 100000 in
theorem r19_28 : Go.Eng.isTrue (Go.Eng.twoRun Try.prog Go.Eng.noSums (⟨14, 16, 31, 37, 40⟩ : Go.Eng.Fns) 1000 60 12 (.row [2, 2, 2]) (.row [4, 1])) = true := by kernel_rfl
set_option maxRecDepth 100000 in
theorem r19_29 : Go.Eng.isTrue (Go.Eng.twoRun Try.prog Go.Eng.noSums (⟨14, 16, 31, 37, 40⟩ : Go.Eng.Fns) 1000 60 12 (.row [2, 2, 2]) (.row [4, 1, 1])) = true := by kernel_rfl
set_option maxRecDepth 100000 in
theorem r19_30 : Go.Eng.isTrue (Go.Eng.twoRun Try.prog Go.Eng.noSums (⟨14, 16, 31, 37, 40⟩ : Go.Eng.Fns) 1000 60 12 (.row [2, 2, 2]) (.row [4, 2])) = true := by kernel_rfl
set_option maxRecDepth 100000 in
theorem r19_31 : Go.Eng.isTrue (Go.Eng.twoRun Try.prog Go.Eng.noSums (⟨14, 16, 31, 37, 40⟩ : Go.Eng.Fns) 1000 60 12 (.row [2, 2, 2]) (.row [5])) = true := by kernel_rfl
set_option maxRecDepth 100000 in
theorem r19_32 : Go.Eng.isTrue (Go.Eng.twoRun Try.prog Go.Eng.noSums (⟨14, 16, 31, 37, 40⟩ : Go.Eng.Fns) 1000 60 12 (.row [2, 2, 2]) (.row [5, 1])) = true := by kernel_rfl
set_option maxRecDepth 100000 in
theorem r19_33 : Go.Eng.isTrue (Go.Eng.twoRun Try.prog Go.Eng.noSums (⟨14, 16, 31, 37, 40⟩ : Go.Eng.Fns) 1000 60 12 (.row [2, 2, 2]) (.row [6])) = true := by kernel_rfl
theorem r19 : Go.Eng.AllL (fun c => Go.Eng.isTrue (Go.Eng.twoRun Try.prog Go.Eng.noSums (⟨14, 16, 31, 37, 40⟩ : Go.Eng.Fns) 1000 60 12 (.row [2, 2, 2]) c) = true) Go.Eng.classes := by
  unfold Go.Eng.classes
  rw [Go.Eng.shares_eq]
  exact ⟨r19_0, r19_1, r19_2, r19_3, r19_4, r19_5, r19_6, r19_7, r19_8, r19_9, r19_10, r19_11, r19_12, r19_13, r19_14, r19_15, r19_16, r19_17, r19_18, r19_19, r19_20, r19_21, r19_22, r19_23, r19_24, r19_25, r19_26, r19_27, r19_28, r19_29, r19_30, r19_31, r19_32, r19_33, trivial⟩
set_option maxRecDepth 100000 in
theorem r22_0 : Go.Eng.isTrue (Go.Eng.twoRun Try.prog Go.Eng.noSums (⟨14, 16, 31, 37, 40⟩ : Go.Eng.Fns) 1000 60 12 (.row [3, 1, 1]) .nil) = true := by kernel_rfl
set_option maxRecDepth 100000 in
theorem r22_1 : Go.Eng.isTrue (Go.Eng.twoRun Try.prog Go.Eng.noSums (⟨14, 16, 31, 37, 40⟩ : Go.Eng.Fns) 1000 60 12 (.row [3, 1, 1]) .zero) = true := by kernel_rfl
set_option maxRecDepth 100000 in
theorem r22_2 : Go.Eng.isTrue (Go.Eng.twoRun Try.prog Go.Eng.noSums (⟨14, 16, 31, 37, 40⟩ : Go.Eng.Fns) 1000 60 12 (.row [3, 1, 1]) .no) = true := by kernel_rfl
set_option maxRecDepth 100000 in
theorem r22_3 : Go.Eng.isTrue (Go.Eng.twoRun Try.prog Go.Eng.noSums (⟨14, 16, 31, 37, 40⟩ : Go.Eng.Fns) 1000 60 12 (.row [3, 1, 1]) .long) = true := by kernel_rfl
set_option maxRecDepth 100000 in
theorem r22_4 : Go.Eng.isTrue (Go.Eng.twoRun Try.prog Go.Eng.noSums (⟨14, 16, 31, 37, 40⟩ : Go.Eng.Fns) 1000 60 12 (.row [3, 1, 1]) (.row [])) = true := by kernel_rfl
set_option maxRecDepth 100000 in
theorem r22_5 : Go.Eng.isTrue (Go.Eng.twoRun Try.prog Go.Eng.noSums (⟨14, 16, 31, 37, 40⟩ : Go.Eng.Fns) 1000 60 12 (.row [3, 1, 1]) (.row [1])) = true := by kernel_rfl
set_option maxRecDepth 100000 in
theorem r22_6 : Go.Eng.isTrue (Go.Eng.twoRun Try.prog Go.Eng.noSums (⟨14, 16, 31, 37, 40⟩ : Go.Eng.Fns) 1000 60 12 (.row [3, 1, 1]) (.row [1, 1])) = true := by kernel_rfl
set_option maxRecDepth 100000 in
theorem r22_7 : Go.Eng.isTrue (Go.Eng.twoRun Try.prog Go.Eng.noSums (⟨14, 16, 31, 37, 40⟩ : Go.Eng.Fns) 1000 60 12 (.row [3, 1, 1]) (.row [1, 1, 1])) = true := by kernel_rfl
set_option maxRecDepth 100000 in
theorem r22_8 : Go.Eng.isTrue (Go.Eng.twoRun Try.prog Go.Eng.noSums (⟨14, 16, 31, 37, 40⟩ : Go.Eng.Fns) 1000 60 12 (.row [3, 1, 1]) (.row [1, 1, 1, 1])) = true := by kernel_rfl
set_option maxRecDepth 100000 in
theorem r22_9 : Go.Eng.isTrue (Go.Eng.twoRun Try.prog Go.Eng.noSums (⟨14, 16, 31, 37, 40⟩ : Go.Eng.Fns) 1000 60 12 (.row [3, 1, 1]) (.row [1, 1, 1, 1, 1])) = true := by kernel_rfl
set_option maxRecDepth 100000 in
theorem r22_10 : Go.Eng.isTrue (Go.Eng.twoRun Try.prog Go.Eng.noSums (⟨14, 16, 31, 37, 40⟩ : Go.Eng.Fns) 1000 60 12 (.row [3, 1, 1]) (.row [1, 1, 1, 1, 1, 1])) = true := by kernel_rfl
set_option maxRecDepth 100000 in
theorem r22_11 : Go.Eng.isTrue (Go.Eng.twoRun Try.prog Go.Eng.noSums (⟨14, 16, 31, 37, 40⟩ : Go.Eng.Fns) 1000 60 12 (.row [3, 1, 1]) (.row [2])) = true := by kernel_rfl
set_option maxRecDepth 100000 in
theorem r22_12 : Go.Eng.isTrue (Go.Eng.twoRun Try.prog Go.Eng.noSums (⟨14, 16, 31, 37, 40⟩ : Go.Eng.Fns) 1000 60 12 (.row [3, 1, 1]) (.row [2, 1])) = true := by kernel_rfl
set_option maxRecDepth 100000 in
theorem r22_13 : Go.Eng.isTrue (Go.Eng.twoRun Try.prog Go.Eng.noSums (⟨14, 16, 31, 37, 40⟩ : Go.Eng.Fns) 1000 60 12 (.row [3, 1, 1]) (.row [2, 1, 1])) = true := by kernel_rfl
set_option maxRecDepth 100000 in
theorem r22_14 : Go.Eng.isTrue (Go.Eng.twoRun Try.prog Go.Eng.noSums (⟨14, 16, 31, 37, 40⟩ : Go.Eng.Fns) 1000 60 12 (.row [3, 1, 1]) (.row [2, 1, 1, 1])) = true := by kernel_rfl
set_option maxRecDepth 100000 in
theorem r22_15 : Go.Eng.isTrue (Go.Eng.twoRun Try.prog Go.Eng.noSums (⟨14, 16, 31, 37, 40⟩ : Go.Eng.Fns) 1000 60 12 (.row [3, 1, 1]) (.row [2, 1, 1, 1, 1])) = true := by kernel_rfl
set_option maxRecDepth 100000 in
theorem r22_16 : Go.Eng.isTrue (Go.Eng.twoRun Try.prog Go.Eng.noSums (⟨14, 16, 31, 37, 40⟩ : Go.Eng.Fns) 1000 60 12 (.row [3, 1, 1]) (.row [2, 2])) = true := by kernel_rfl
set_option maxRecDepth 100000 in
theorem r22_17 : Go.Eng.isTrue (Go.Eng.twoRun Try.prog Go.Eng.noSums (⟨14, 16, 31, 37, 40⟩ : Go.Eng.Fns) 1000 60 12 (.row [3, 1, 1]) (.row [2, 2, 1])) = true := by kernel_rfl
set_option maxRecDepth 100000 in
theorem r22_18 : Go.Eng.isTrue (Go.Eng.twoRun Try.prog Go.Eng.noSums (⟨14, 16, 31, 37, 40⟩ : Go.Eng.Fns) 1000 60 12 (.row [3, 1, 1]) (.row [2, 2, 1, 1])) = true := by kernel_rfl
set_option maxRecDepth 100000 in
theorem r22_19 : Go.Eng.isTrue (Go.Eng.twoRun Try.prog Go.Eng.noSums (⟨14, 16, 31, 37, 40⟩ : Go.Eng.Fns) 1000 60 12 (.row [3, 1, 1]) (.row [2, 2, 2])) = true := by kernel_rfl
set_option maxRecDepth 100000 in
theorem r22_20 : Go.Eng.isTrue (Go.Eng.twoRun Try.prog Go.Eng.noSums (⟨14, 16, 31, 37, 40⟩ : Go.Eng.Fns) 1000 60 12 (.row [3, 1, 1]) (.row [3])) = true := by kernel_rfl
set_option maxRecDepth 100000 in
theorem r22_21 : Go.Eng.isTrue (Go.Eng.twoRun Try.prog Go.Eng.noSums (⟨14, 16, 31, 37, 40⟩ : Go.Eng.Fns) 1000 60 12 (.row [3, 1, 1]) (.row [3, 1])) = true := by kernel_rfl
set_option maxRecDepth 100000 in
theorem r22_22 : Go.Eng.isTrue (Go.Eng.twoRun Try.prog Go.Eng.noSums (⟨14, 16, 31, 37, 40⟩ : Go.Eng.Fns) 1000 60 12 (.row [3, 1, 1]) (.row [3, 1, 1])) = true := by kernel_rfl
set_option maxRecDepth 100000 in
theorem r22_23 : Go.Eng.isTrue (Go.Eng.twoRun Try.prog Go.Eng.noSums (⟨14, 16, 31, 37, 40⟩ : Go.Eng.Fns) 1000 60 12 (.row [3, 1, 1]) (.row [3, 1, 1, 1])) = true := by kernel_rfl
set_option maxRecDepth 100000 in
theorem r22_24 : Go.Eng.isTrue (Go.Eng.twoRun Try.prog Go.Eng.noSums (⟨14, 16, 31, 37, 40⟩ : Go.Eng.Fns) 1000 60 12 (.row [3, 1, 1]) (.row [3, 2])) = true := by kernel_rfl
set_option maxRecDepth 100000 in
theorem r22_25 : Go.Eng.isTrue (Go.Eng.twoRun Try.prog Go.Eng.noSums (⟨14, 16, 31, 37, 40⟩ : Go.Eng.Fns) 1000 60 12 (.row [3, 1, 1]) (.row [3, 2, 1])) = true := by kernel_rfl
set_option maxRecDepth 100000 in
theorem r22_26 : Go.Eng.isTrue (Go.Eng.twoRun Try.prog Go.Eng.noSums (⟨14, 16, 31, 37, 40⟩ : Go.Eng.Fns) 1000 60 12 (.row [3, 1, 1]) (.row [3, 3])) = true := by kernel_rfl
set_option maxRecDepth 100000 in
theorem r22_27 : Go.Eng.isTrue (Go.Eng.twoRun Try.prog Go.Eng.noSums (⟨14, 16, 31, 37, 40⟩ : Go.Eng.Fns) 1000 60 12 (.row [3, 1, 1]) (.row [4])) = true := by kernel_rfl
set_option maxRecDepth 100000 in
theorem r22_28 : Go.Eng.isTrue (Go.Eng.twoRun Try.prog Go.Eng.noSums (⟨14, 16, 31, 37, 40⟩ : Go.Eng.Fns) 1000 60 12 (.row [3, 1, 1]) (.row [4, 1])) = true := by kernel_rfl
set_option maxRecDepth 100000 in
theorem r22_29 : Go.Eng.isTrue (Go.Eng.twoRun Try.prog Go.Eng.noSums (⟨14, 16, 31, 37, 40⟩ : Go.Eng.Fns) 1000 60 12 (.row [3, 1, 1]) (.row [4, 1, 1])) = true := by kernel_rfl
set_option maxRecDepth 100000 in
theorem r22_30 : Go.Eng.isTrue (Go.Eng.twoRun Try.prog Go.Eng.noSums (⟨14, 16, 31, 37, 40⟩ : Go.Eng.Fns) 1000 60 12 (.row [3, 1, 1]) (.row [4, 2])) = true := by kernel_rfl
set_option maxRecDepth 100000 in
theorem r22_31 : Go.Eng.isTrue (Go.Eng.twoRun Try.prog Go.Eng.noSums (⟨14, 16, 31, 37, 40⟩ : Go.Eng.Fns) 1000 60 12 (.row [3, 1, 1]) (.row [5])) = true := by kernel_rfl
set_option maxRecDepth 100000 in
theorem r22_32 : Go.Eng.isTrue (Go.Eng.twoRun Try.prog Go.Eng.noSums (⟨14, 16, 31, 37, 40⟩ : Go.Eng.Fns) 1000 60 12 (.row [3, 1, 1]) (.row [5, 1])) = true := by kernel_rfl
set_option maxRecDepth 100000 in
theorem r22_33 : Go.Eng.isTrue (Go.Eng.twoRun Try.prog Go.Eng.noSums (⟨14, 16, 31, 37, 40⟩ : Go.Eng.Fns) 1000 60 12 (.row [3, 1, 1]) (.row [6])) = true := by kernel_rfl
theorem r22 : Go.Eng.AllL (fun c => Go.Eng.isTrue (Go.Eng.twoRun Try.prog Go.Eng.noSums (⟨14, 16, 31, 37, 40⟩ : Go.Eng.Fns) 1000 60 12 (.row [3, 1, 1]) c) = true) Go.Eng.classes := by
  unfold Go.Eng.classes
  rw [Go.Eng.shares_eq]
  exact ⟨r22_0, r22_1, r22_2, r22_3, r22_4, r22_5, r22_6, r22_7, r22_8, r22_9, r22_10, r22_11, r22_12, r22_13, r22_14, r22_15, r22_16, r22_17, r22_18, r22_19, r22_20, r22_21, r22_22, r22_23, r22_24, r22_25, r22_26, r22_27, r22_28, r22_29, r22_30, r22_31, r22_32, r22_33, trivial⟩
set_option maxRecDepth 100000 in
theorem r25_0 : Go.Eng.isTrue (Go.Eng.twoRun Try.prog Go.Eng.noSums (⟨14, 16, 31, 37, 40⟩ : Go.Eng.Fns) 1000 60 12 (.row [3, 2, 1]) .nil) = true := by kernel_rfl
set_option maxRecDepth 100000 in
theorem r25_1 : Go.Eng.isTrue (Go.Eng.twoRun Try.prog Go.Eng.noSums (⟨14, 16, 31, 37, 40⟩ : Go.Eng.Fns) 1000 60 12 (.row [3, 2, 1]) .zero) = true := by kernel_rfl
set_option maxRecDepth 100000 in
theorem r25_2 : Go.Eng.isTrue (Go.Eng.twoRun Try.prog Go.Eng.noSums (⟨14, 16, 31, 37, 40⟩ : Go.Eng.Fns) 1000 60 12 (.row [3, 2, 1]) .no) = true := by kernel_rfl
set_option maxRecDepth 100000 in
theorem r25_3 : Go.Eng.isTrue (Go.Eng.twoRun Try.prog Go.Eng.noSums (⟨14, 16, 31, 37, 40⟩ : Go.Eng.Fns) 1000 60 12 (.row [3, 2, 1]) .long) = true := by kernel_rfl
set_option maxRecDepth 100000 in
theorem r25_4 : Go.Eng.isTrue (Go.Eng.twoRun Try.prog Go.Eng.noSums (⟨14, 16, 31, 37, 40⟩ : Go.Eng.Fns) 1000 60 12 (.row [3, 2, 1]) (.row [])) = true := by kernel_rfl
set_option maxRecDepth 100000 in
theorem r25_5 : Go.Eng.isTrue (Go.Eng.twoRun Try.prog Go.Eng.noSums (⟨14, 16, 31, 37, 40⟩ : Go.Eng.Fns) 1000 60 12 (.row [3, 2, 1]) (.row [1])) = true := by kernel_rfl
set_option maxRecDepth 100000 in
theorem r25_6 : Go.Eng.isTrue (Go.Eng.twoRun Try.prog Go.Eng.noSums (⟨14, 16, 31, 37, 40⟩ : Go.Eng.Fns) 1000 60 12 (.row [3, 2, 1]) (.row [1, 1])) = true := by kernel_rfl
set_option maxRecDepth 100000 in
theorem r25_7 : Go.Eng.isTrue (Go.Eng.twoRun Try.prog Go.Eng.noSums (⟨14, 16, 31, 37, 40⟩ : Go.Eng.Fns) 1000 60 12 (.row [3, 2, 1]) (.row [1, 1, 1])) = true := by kernel_rfl
set_option maxRecDepth 100000 in
theorem r25_8 : Go.Eng.isTrue (Go.Eng.twoRun Try.prog Go.Eng.noSums (⟨14, 16, 31, 37, 40⟩ : Go.Eng.Fns) 1000 60 12 (.row [3, 2, 1]) (.row [1, 1, 1, 1])) = true := by kernel_rfl
set_option maxRecDepth 100000 in
theorem r25_9 : Go.Eng.isTrue (Go.Eng.twoRun Try.prog Go.Eng.noSums (⟨14, 16, 31, 37, 40⟩ : Go.Eng.Fns) 1000 60 12 (.row [3, 2, 1]) (.row [1, 1, 1, 1, 1])) = true := by kernel_rfl
set_option maxRecDepth 100000 in
theorem r25_10 : Go.Eng.isTrue (Go.Eng.twoRun Try.prog Go.Eng.noSums (⟨14, 16, 31, 37, 40⟩ : Go.Eng.Fns) 1000 60 12 (.row [3, 2, 1]) (.row [1, 1, 1, 1, 1, 1])) = true := by kernel_rfl
set_option maxRecDepth 100000 in
theorem r25_11 : Go.Eng.isTrue (Go.Eng.twoRun Try.prog Go.Eng.noSums (⟨14, 16, 31, 37, 40⟩ : Go.Eng.Fns) 1000 60 12 (.row [3, 2, 1]) (.row [2])) = true := by kernel_rfl
set_option maxRecDepth 100000 in
theorem r25_12 : Go.Eng.isTrue (Go.Eng.twoRun Try.prog Go.Eng.noSums (⟨14, 16, 31, 37, 40⟩ : Go.Eng.Fns) 1000 60 12 (.row [3, 2, 1]) (.row [2, 1])) = true := by kernel_rfl
set_option maxRecDepth 100000 in
theorem r25_13 : Go.Eng.isTrue (Go.Eng.twoRun Try.prog Go.Eng.noSums (⟨14, 16, 31, 37, 40⟩ : Go.Eng.Fns) 1000 60 12 (.row [3, 2, 1]) (.row [2, 1, 1])) = true := by kernel_rfl
set_option maxRecDepth 100000 in
theorem r25_14 : Go.Eng.isTrue (Go.Eng.twoRun Try.prog Go.Eng.noSums (⟨14, 16, 31, 37, 40⟩ : Go.Eng.Fns) 1000 60 12 (.row [3, 2, 1]) (.row [2, 1, 1, 1])) = true := by kernel_rfl
set_option maxRecDepth 100000 in
theorem r25_15 : Go.Eng.isTrue (Go.Eng.twoRun Try.prog Go.Eng.noSums (⟨14, 16, 31, 37, 40⟩ : Go.Eng.Fns) 1000 60 12 (.row [3, 2, 1]) (.row [2, 1, 1, 1, 1])) = true := by kernel_rfl
set_option maxRecDepth 100000 in
theorem r25_16 : Go.Eng.isTrue (Go.Eng.twoRun Try.prog Go.Eng.noSums (⟨14, 16, 31, 37, 40⟩ : Go.Eng.Fns) 1000 60 12 (.row [3, 2, 1]) (.row [2, 2])) = true := by kernel_rfl
set_option maxRecDepth 100000 in
theorem r25_17 : Go.Eng.isTrue (Go.Eng.twoRun Try.prog Go.Eng.noSums (⟨14, 16, 31, 37, 40⟩ : Go.Eng.Fns) 1000 60 12 (.row [3, 2, 1]) (.row [2, 2, 1])) = true := by kernel_rfl
set_option maxRecDepth 100000 in
theorem r25_18 : Go.Eng.isTrue (Go.Eng.twoRun Try.prog Go.Eng.noSums (⟨14, 16, 31, 37, 40⟩ : Go.Eng.Fns) 1000 60 12 (.row [3, 2, 1]) (.row [2, 2, 1, 1])) = true := by kernel_rfl
set_option maxRecDepth 100000 in
theorem r25_19 : Go.Eng.isTrue (Go.Eng.twoRun Try.prog Go.Eng.noSums (⟨14, 16, 31, 37, 40⟩ : Go.Eng.Fns) 1000 60 12 (.row [3, 2, 1]) (.row [2, 2, 2])) = true := by kernel_rfl
set_option maxRecDepth 100000 in
theorem r25_20 : Go.Eng.isTrue (Go.Eng.twoRun Try.prog Go.Eng.noSums (⟨14, 16, 31, 37, 40⟩ : Go.Eng.Fns) 1000 60 12 (.row [3, 2, 1]) (.row [3])) = true := by kernel_rfl
set_option maxRecDepth 100000 in
theorem r25_21 : Go.Eng.isTrue (Go.Eng.twoRun Try.prog Go.Eng.noSums (⟨14, 16, 31, 37, 40⟩ : Go.Eng.Fns) 1000 60 12 (.row [3, 2, 1]) (.row [3, 1])) = true := by kernel_rfl
set_option maxRecDepth 100000 in
theorem r25_22 : Go.Eng.isTrue (Go.Eng.twoRun Try.prog Go.Eng.noSums (⟨14, 16, 31, 37, 40⟩ : Go.Eng.Fns) 1000 60 12 (.row [3, 2, 1]) (.row [3, 1, 1])) = true := by kernel_rfl
set_option maxRecDepth 100000 in
theorem r25_23 : Go.Eng.isTrue (Go.Eng.twoRun Try.prog Go.Eng.noSums (⟨14, 16, 31, 37, 40⟩ : Go.Eng.Fns) 1000 60 12 (.row [3, 2, 1]) (.row [3, 1, 1, 1])) = true := by kernel_rfl
set_option maxRecDepth 100000 in
theorem r25_24 : Go.Eng.isTrue (Go.Eng.twoRun Try.prog Go.Eng.noSums (⟨14, 16, 31, 37, 40⟩ : Go.Eng.Fns) 1000 60 12 (.row [3, 2, 1]) (.row [3, 2])) = true := by kernel_rfl
set_option maxRecDepth 100000 in
theorem r25_25 : Go.Eng.isTrue (Go.Eng.twoRun Try.prog Go.Eng.noSums (⟨14, 16, 31, 37, 40⟩ : Go.Eng.Fns) 1000 60 12 (.row [3, 2, 1]) (.row [3, 2, 1])) = true := by kernel_rfl
set_option maxRecDepth 100000 in
theorem r25_26 : Go.Eng.isTrue (Go.Eng.twoRun Try.prog Go.Eng.noSums (⟨14, 16, 31, 37, 40⟩ : Go.Eng.Fns) 1000 60 12 (.row [3, 2, 1]) (.row [3, 3])) = true := by kernel_rfl
set_option maxRecDepth 100000 in
theorem r25_27 : Go.Eng.isTrue (Go.Eng.twoRun Try.prog Go.Eng.noSums (⟨14, 16, 31, 37, 40⟩ : Go.Eng.Fns) 1000 60 12 (.row [3, 2, 1]) (.row [4])) = true := by kernel_rfl
set_option maxRecDepth 100000 in
theorem r25_28 : Go.Eng.isTrue (Go.Eng.twoRun Try.prog Go.Eng.noSums (⟨14, 16, 31, 37, 40⟩ : Go.Eng.Fns) 1000 60 12 (.row [3, 2, 1]) (.row [4, 1])) = true := by kernel_rfl
set_option maxRecDepth 100000 in
theorem r25_29 : Go.Eng.isTrue (Go.Eng.twoRun Try.prog Go.Eng.noSums (⟨14, 16, 31, 37, 40⟩ : Go.Eng.Fns) 1000 60 12 (.row [3, 2, 1]) (.row [4, 1, 1])) = true := by kernel_rfl
set_option maxRecDepth 100000 in
theorem r25_30 : Go.Eng.isTrue (Go.Eng.twoRun Try.prog Go.Eng.noSums (⟨14, 16, 31, 37, 40⟩ : Go.Eng.Fns) 1000 60 12 (.row [3, 2, 1]) (.row [4, 2])) = true := by kernel_rfl
set_option maxRecDepth 100000 in
theorem r25_31 : Go.Eng.isTrue (Go.Eng.twoRun Try.prog Go.Eng.noSums (⟨14, 16, 31, 37, 40⟩ : Go.Eng.Fns) 1000 60 12 (.row [3, 2, 1]) (.row [5])) = true := by kernel_rfl
set_option maxRecDepth 100000 in
theorem r25_32 : Go.Eng.isTrue (Go.Eng.twoRun Try.prog Go.Eng.noSums (⟨14, 16, 31, 37, 40⟩ : Go.Eng.Fns) 1000 60 12 (.row [3, 2, 1]) (.row [5, 1])) = true := by kernel_rfl
set_option maxRecDepth 100000 in
theorem r25_33 : Go.Eng.isTrue (Go.Eng.twoRun Try.prog Go.Eng.noSums (⟨14, 16, 31, 37, 40⟩ : Go.Eng.Fns) 1000 60 12 (.row [3, 2, 1]) (.row [6])) = true := by kernel_rfl
theorem r25 : Go.Eng.AllL (fun c => Go.Eng.isTrue (Go.Eng.twoRun Try.prog Go.Eng.noSums (⟨14, 16, 31, 37, 40⟩ : Go.Eng.Fns) 1000 60 12 (.row [3, 2, 1]) c) = true) Go.Eng.classes := by
  unfold Go.Eng.classes
  rw [Go.Eng.shares_eq]
  exact ⟨r25_0, r25_1, r25_2, r25_3, r25_4, r25_5, r25_6, r25_7, r25_8, r25_9, r25_10, r25_11, r25_12, r25_13, r25_14, r25_15, r25_16, r25_17, r25_18, r25_19, r25_20, r25_21, r25_22, r25_23, r25_24, r25_25, r25_26, r25_27, r25_28, r25_29, r25_30, r25_31, r25_32, r25_33, trivial⟩
set_option maxRecDepth 100000 in
theorem r28_0 : Go.Eng.isTrue (Go.Eng.twoRun Try.prog Go.Eng.noSums (⟨14, 16, 31, 37, 40⟩ : Go.Eng.Fns) 1000 60 12 (.row [4, 1]) .nil) = true := by kernel_rfl
set_option maxRecDepth 100000 in
theorem r28_1 : Go.Eng.isTrue (Go.Eng.twoRun Try.prog Go.Eng.noSums (⟨14, 16, 31, 37, 40⟩ : Go.Eng.Fns) 1000 60 12 (.row [4, 1]) .zero) = true := by kernel_rfl
set_option maxRecDepth 100000 in
theorem r28_2 : Go.Eng.isTrue (Go.Eng.twoRun Try.prog Go.Eng.noSums (⟨14, 16, 31, 37, 40⟩ : Go.Eng.Fns) 1000 60 12 (.row [4, 1]) .no) = true := by kernel_rfl
set_option maxRecDepth 100000 in
theorem r28_3 : Go.Eng.isTrue (Go.Eng.twoRun Try.prog Go.Eng.noSums (⟨14, 16, 31, 37, 40⟩ : Go.Eng.Fns) 1000 60 12 (.row [4, 1]) .long) = true := by kernel_rfl
set_option maxRecDepth 100000 in
theorem r28_4 : Go.Eng.isTrue (Go.Eng.twoRun Try.prog Go.Eng.noSums (⟨14, 16, 31, 37, 40⟩ : Go.Eng.Fns) 1000 60 12 (.row [4, 1]) (.row [])) = true := by kernel_rfl
set_option maxRecDepth 100000 in
theorem r28_5 : Go.Eng.isTrue (Go.Eng.twoRun Try.prog Go.Eng.noSums (⟨14, 16, 31, 37, 40⟩ : Go.Eng.Fns) 1000 60 12 (.row [4, 1]) (.row [1])) = true := by kernel_rfl
set_option maxRecDepth 100000 in
theorem r28_6 : Go.Eng.isTrue (Go.Eng.twoRun Try.prog Go.Eng.noSums (⟨14, 16, 31, 37, 40⟩ : Go.Eng.Fns) 1000 60 12 (.row [4, 1]) (.row [1, 1])) = true := by kernel_rfl
set_option maxRecDepth 100000 in
theorem r28_7 : Go.Eng.isTrue (Go.Eng.twoRun Try.prog Go.Eng.noSums (⟨14, 16, 31, 37, 40⟩ : Go.Eng.Fns) 1000 60 12 (.row [4, 1]) (.row [1, 1, 1])) = true := by kernel_rfl
set_option maxRecDepth 100000 in
theorem r28_8 : Go.Eng.isTrue (Go.Eng.twoRun Try.prog Go.Eng.noSums (⟨14, 16, 31, 37, 40⟩ : Go.Eng.Fns) 1000 60 12 (.row [4, 1]) (.row [1, 1, 1, 1])) = true := by kernel_rfl
set_option maxRecDepth 100000 in
theorem r28_9 : Go.Eng.isTrue (Go.Eng.twoRun Try.prog Go.Eng.noSums (⟨14, 16, 31, 37, 40⟩ : Go.Eng.Fns) 1000 60 12 (.row [4, 1]) (.row [1, 1, 1, 1, 1])) = true := by kernel_rfl
set_option maxRecDepth 100000 in
theorem r28_10 : Go.Eng.isTrue (Go.Eng.twoRun Try.prog Go.Eng.noSums (⟨14, 16, 31, 37, 40⟩ : Go.Eng.Fns) 1000 60 12 (.row [4, 1]) (.row [1, 1, 1, 1, 1, 1])) = true := by kernel_rfl
set_option maxRecDepth 100000 in
theorem r28_11 : Go.Eng.isTrue (Go.Eng.twoRun Try.prog Go.Eng.noSums (⟨14, 16, 31, 37, 40⟩ : Go.Eng.Fns) 1000 60 12 (.row [4, 1]) (.row [2])) = true := by kernel_rfl
set_option maxRecDepth 100000 in
theorem r28_12 : Go.Eng.isTrue (Go.Eng.twoRun Try.prog Go.Eng.noSums (⟨14, 16, 31, 37, 40⟩ : Go.Eng.Fns) 1000 60 12 (.row [4, 1]) (.row [2, 1])) = true := by kernel_rfl
set_option maxRecDepth 100000 in
theorem r28_13 : Go.Eng.isTrue (Go.Eng.twoRun Try.prog Go.Eng.noSums (⟨14, 16, 31, 37, 40⟩ : Go.Eng.Fns) 1000 60 12 (.row [4, 1]) (.row [2, 1, 1])) = true := by kernel_rfl
set_option maxRecDepth 100000 in
theorem r28_14 : Go.Eng.isTrue (Go.Eng.twoRun Try.prog Go.Eng.noSums (⟨14, 16, 31, 37, 40⟩ : Go.Eng.Fns) 1000 60 12 (.row [4, 1]) (.row [2, 1, 1, 1])) = true := by kernel_rfl
set_option maxRecDepth 100000 in
theorem r28_15 : Go.Eng.isTrue (Go.Eng.twoRun Try.prog Go.Eng.noSums (⟨14, 16, 31, 37, 40⟩ : Go.Eng.Fns) 1000 60 12 (.row [4, 1]) (.row [2, 1, 1, 1, 1])) = true := by kernel_rfl
set_option maxRecDepth 100000 in
theorem r28_16 : Go.Eng.isTrue (Go.Eng.twoRun Try.prog Go.Eng.noSums (⟨14, 16, 31, 37, 40⟩ : Go.Eng.Fns) 1000 60 12 (.row [4, 1]) (.row [2, 2])) = true := by kernel_rfl
set_option maxRecDepth 100000 in
theorem r28_17 : Go.Eng.isTrue (Go.Eng.twoRun Try.prog Go.Eng.noSums (⟨14, 16, 31, 37, 40⟩ : Go.Eng.Fns) 1000 60 12 (.row [4, 1]) (.row [2, 2, 1])) = true := by kernel_rfl
set_option maxRecDepth 100000 in
theorem r28_18 : Go.Eng.isTrue (Go.Eng.twoRun Try.prog Go.Eng.noSums (⟨14, 16, 31, 37, 40⟩ : Go.Eng.Fns) 1000 60 12 (.row [4, 1]) (.row [2, 2, 1, 1])) = true := by kernel_rfl
set_option maxRecDepth 100000 in
theorem r28_19 : Go.Eng.isTrue (Go.Eng.twoRun Try.prog Go.Eng.noSums (⟨14, 16, 31, 37, 40⟩ : Go.Eng.Fns) 1000 60 12 (.row [4, 1]) (.row [2, 2, 2])) = true := by kernel_rfl
set_option maxRecDepth 100000 in
theorem r28_20 : Go.Eng.isTrue (Go.Eng.twoRun Try.prog Go.Eng.noSums (⟨14, 16, 31, 37, 40⟩ : Go.Eng.Fns) 1000 60 12 (.row [4, 1]) (.row [3])) = true := by kernel_rfl
set_option maxRecDepth 100000 in
theorem r28_21 : Go.Eng.isTrue (Go.Eng.twoRun Try.prog Go.Eng.noSums (⟨14, 16, 31, 37, 40⟩ : Go.Eng.Fns) 1000 60 12 (.row [4, 1]) (.row [3, 1])) = true := by kernel_rfl
set_option maxRecDepth 100000 in
theorem r28_22 : Go.Eng.isTrue (Go.Eng.twoRun Try.prog Go.Eng.noSums (⟨14, 16, 31, 37, 40⟩ : Go.Eng.Fns) 1000 60 12 (.row [4, 1]) (.row [3, 1, 1])) = true := by kernel_rfl
set_option maxRecDepth 100000 in
theorem r28_23 : Go.Eng.isTrue (Go.Eng.twoRun Try.prog Go.Eng.noSums (⟨14, 16, 31, 37, 40⟩ : Go.Eng.Fns) 1000 60 12 (.row [4, 1]) (.row [3, 1, 1, 1])) = true := by kernel_rfl
set_option maxRecDepth 100000 in
theorem r28_24 : Go.Eng.isTrue (Go.Eng.twoRun Try.prog Go.Eng.noSums (⟨14, 16, 31, 37, 40⟩ : Go.Eng.Fns) 1000 60 12 (.row [4, 1]) (.row [3, 2])) = true := by kernel_rfl
set_option maxRecDepth 100000 in
theorem r28_25 : Go.Eng.isTrue (Go.Eng.twoRun Try.prog Go.Eng.noSums (⟨14, 16, 31, 37, 40⟩ : Go.Eng.Fns) 1000 60 12 (.row [4, 1]) (.row [3, 2, 1])) = true := by kernel_rfl
set_option maxRecDepth 100000 in
theorem r28_26 : Go.Eng.isTrue (Go.Eng.twoRun Try.prog Go.Eng.noSums (⟨14, 16, 31, 37, 40⟩ : Go.Eng.Fns) 1000 60 12 (.row [4, 1]) (.row [3, 3])) = true := by kernel_rfl
set_option maxRecDepth 100000 in
theorem r28_27 : Go.Eng.isTrue (Go.Eng.twoRun Try.prog Go.Eng.noSums (⟨14, 16, 31, 37, 40⟩ : Go.Eng.Fns) 1000 60 12 (.row [4, 1]) (.row [4])) = true := by kernel_rfl
set_option maxRecDepth 100000 in
theorem r28_28 : Go.Eng.isTrue (Go.Eng.twoRun Try.prog Go.Eng.noSums (⟨14, 16, 31, 37, 40⟩ : Go.Eng.Fns) 1000 60 12 (.row [4, 1]) (.row [4, 1])) = true := by kernel_rfl
set_option maxRecDepth 100000 in
theorem r28_29 : Go.Eng.isTrue (Go.Eng.twoRun Try.prog Go.Eng.noSums (⟨14, 16, 31, 37, 40⟩ : Go.Eng.Fns) 1000 60 12 (.row [4, 1]) (.row [4, 1, 1])) = true := by kernel_rfl
set_option maxRecDepth 100000 in
theorem r28_30 : Go.Eng.isTrue (Go.Eng.twoRun Try.prog Go.Eng.noSums (⟨14, 16, 31, 37, 40⟩ : Go.Eng.Fns) 1000 60 12 (.row [4, 1]) (.row [4, 2])) = true := by kernel_rfl
set_option maxRecDepth 100000 in
theorem r28_31 : Go.Eng.isTrue (Go.Eng.twoRun Try.prog Go.Eng.noSums (⟨14, 16, 31, 37, 40⟩ : Go.Eng.Fns) 1000 60 12 (.row [4, 1]) (.row [5])) = true := by kernel_rfl
set_option maxRecDepth 100000 in
theorem r28_32 : Go.Eng.isTrue (Go.Eng.twoRun Try.prog Go.Eng.noSums (⟨14, 16, 31, 37, 40⟩ : Go.Eng.Fns) 1000 60 12 (.row [4, 1]) (.row [5, 1])) = true := by kernel_rfl
set_option maxRecDepth 100000 in
theorem r28_33 : Go.Eng.isTrue (Go.Eng.twoRun Try.prog Go.Eng.noSums (⟨14, 16, 31, 37, 40⟩ : Go.Eng.Fns) 1000 60 12 (.row [4, 1]) (.row [6])) = true := by kernel_rfl
theorem r28 : Go.Eng.AllL (fun c => Go.Eng.isTrue (Go.Eng.twoRun Try.prog Go.Eng.noSums (⟨14, 16, 31, 37, 40⟩ : Go.Eng.Fns) 1000 60 12 (.row [4, 1]) c) = true) Go.Eng.classes := by
  unfold Go.Eng.classes
  rw [Go.Eng.shares_eq]
  exact ⟨r28_0, r28_1, r28_2, r28_3, r28_4, r28_5, r28_6, r28_7, r28_8, r28_9, r28_10, r28_11, r28_12, r28_13, r28_14, r28_15, r28_16, r28_17, r28_18, r28_19, r28_20, r28_21, r28_22, r28_23, r28_24, r28_25, r28_26, r28_27, r28_28, r28_29, r28_30, r28_31, r28_32, r28_33, trivial⟩
set_option maxRecDepth 100000 in
theorem r31_0 : Go.Eng.isTrue (Go.Eng.twoRun Try.prog Go.Eng.noSums (⟨14, 16, 31, 37, 40⟩ : Go.Eng.Fns) 1000 60 12 (.row [5]) .nil) = true := by kernel_rfl
set_option maxRecDepth 100000 in
theorem r31_1 : Go.Eng.isTrue (Go.Eng.twoRun Try.prog Go.Eng.noSums (⟨14, 16, 31, 37, 40⟩ : Go.Eng.Fns) 1000 60 12 (.row [5]) .zero) = true := by kernel_rfl
set_option maxRecDepth 100000 in
theorem r31_2 : Go.Eng.isTrue (Go.Eng.twoRun Try.prog Go.Eng.noSums (⟨14, 16, 31, 37, 40⟩ : Go.Eng.Fns) 1000 60 12 (.row [5]) .no) = true := by kernel_rfl
set_option maxRecDepth 100000 in
theorem r31_3 : Go.Eng.isTrue (Go.Eng.twoRun Try.prog Go.Eng.noSums (⟨14, 16, 31, 37, 40⟩ : Go.Eng.Fns) 1000 60 12 (.row [5]) .long) = true := by kernel_rfl
set_option maxRecDepth 100000 in
theorem r31_4 : Go.Eng.isTrue (Go.Eng.twoRun Try.prog Go.Eng.noSums (⟨14, 16, 31, 37, 40⟩ : Go.Eng.Fns) 1000 60 12 (.row [5]) (.row [])) = true := by kernel_rfl
set_option maxRecDepth 100000 in
theorem r31_5 : Go.Eng.isTrue (Go.Eng.twoRun Try.prog Go.Eng.noSums (⟨14, 16, 31, 37, 40⟩ : Go.Eng.Fns) 1000 60 12 (.row [5]) (.row [1])) = true := by kernel_rfl
set_option maxRecDepth 100000 in
theorem r31_6 : Go.Eng.isTrue (Go.Eng.twoRun Try.prog Go.Eng.noSums (⟨14, 16, 31, 37, 40⟩ : Go.Eng.Fns) 1000 60 12 (.row [5]) (.row [1, 1])) = true := by kernel_rfl
set_option maxRecDepth 100000 in
theorem r31_7 : Go.Eng.isTrue (Go.Eng.twoRun Try.prog Go.Eng.noSums (⟨14, 16, 31, 37, 40⟩ : Go.Eng.Fns) 1000 60 12 (.row [5]) (.row [1, 1, 1])) = true := by kernel_rfl
set_option maxRecDepth 100000 in
theorem r31_8 : Go.Eng.isTrue (Go.Eng.twoRun Try.prog Go.Eng.noSums (⟨14, 16, 31, 37, 40⟩ : Go.Eng.Fns) 1000 60 12 (.row [5]) (.row [1, 1, 1, 1])) = true := by kernel_rfl
set_option maxRecDepth 100000 in
theorem r31_9 : Go.Eng.isTrue (Go.Eng.twoRun Try.prog Go.Eng.noSums (⟨14, 16, 31, 37, 40⟩ : Go.Eng.Fns) 1000 60 12 (.row [5]) (.row [1, 1, 1, 1, 1])) = true := by kernel_rfl
set_option maxRecDepth 100000 in
theorem r31_10 : Go.Eng.isTrue (Go.Eng.twoRun Try.prog Go.Eng.noSums (⟨14, 16, 31, 37, 40⟩ : Go.Eng.Fns) 1000 60 12 (.row [5]) (.row [1, 1, 1, 1, 1, 1])) = true := by kernel_rfl
set_option maxRecDepth 100000 in
theorem r31_11 : Go.Eng.isTrue (Go.Eng.twoRun Try.prog Go.Eng.noSums (⟨14, 16, 31, 37, 40⟩ : Go.Eng.Fns) 1000 60 12 (.row [5]) (.row [2])) = true := by kernel_rfl
set_option maxRecDepth 100000 in
theorem r31_12 : Go.Eng.isTrue (Go.Eng.twoRun Try.prog Go.Eng.noSums (⟨14, 16, 31, 37, 40⟩ : Go.Eng.Fns) 1000 60 12 (.row [5]) (.row [2, 1])) = true := by kernel_rfl
set_option maxRecDepth 100000 in
theorem r31_13 : Go.Eng.isTrue (Go.Eng.twoRun Try.prog Go.Eng.noSums (⟨14, 16, 31, 37, 40⟩ : Go.Eng.Fns) 1000 60 12 (.row [5]) (.row [2, 1, 1])) = true := by kernel_rfl
set_option maxRecDepth 100000 in
theorem r31_14 : Go.Eng.isTrue (Go.Eng.twoRun Try.prog Go.Eng.noSums (⟨14, 16, 31, 37, 40⟩ : Go.Eng.Fns) 1000 60 12 (.row [5]) (.row [2, 1, 1, 1])) = true := by kernel_rfl
set_option maxRecDepth 100000 in
theorem r31_15 : Go.Eng.isTrue (Go.Eng.twoRun Try.prog Go.Eng.noSums (⟨14, 16, 31, 37, 40⟩ : Go.Eng.Fns) 1000 60 12 (.row [5]) (.row [2, 1, 1, 1, 1])) = true := by kernel_rfl
set_option maxRecDepth 100000 in
theorem r31_16 : Go.Eng.isTrue (Go.Eng.twoRun Try.prog Go.Eng.noSums (⟨14, 16, 31, 37, 40⟩ : Go.Eng.Fns) 1000 60 12 (.row [5]) (.row [2, 2])) = true := by kernel_rfl
set_option maxRecDepth 100000 in
theorem r31_17 : Go.Eng.isTrue (Go.Eng.twoRun Try.prog Go.Eng.noSums (⟨14, 16, 31, 37, 40⟩ : Go.Eng.Fns) 1000 60 12 (.row [5]) (.row [2, 2, 1])) = true := by kernel_rfl
set_option maxRecDepth 100000 in
theorem r31_18 : Go.Eng.isTrue (Go.Eng.twoRun Try.prog Go.Eng.noSums (⟨14, 16, 31, 37, 40⟩ : Go.Eng.Fns) 1000 60 12 (.row [5]) (.row [2, 2, 1, 1])) = true := by kernel_rfl
set_option maxRecDepth 100000 in
theorem r31_19 : Go.Eng.isTrue (Go.Eng.twoRun Try.prog Go.Eng.noSums (⟨14, 16, 31, 37, 40⟩ : Go.Eng.Fns) 1000 60 12 (.row [5]) (.row [2, 2, 2])) = true := by kernel_rfl
set_option maxRecDepth 100000 in
theorem r31_20 : Go.Eng.isTrue (Go.Eng.twoRun Try.prog Go.Eng.noSums (⟨14, 16, 31, 37, 40⟩ : Go.Eng.Fns) 1000 60 12 (.row [5]) (.row [3])) = true := by kernel_rfl
set_option maxRecDepth 100000 in
theorem r31_21 : Go.Eng.isTrue (Go.Eng.twoRun Try.prog Go.Eng.noSums (⟨14, 16, 31, 37, 40⟩ : Go.Eng.Fns) 1000 60 12 (.row [5]) (.row [3, 1])) = true := by kernel_rfl
set_option maxRecDepth 100000 in
theorem r31_22 : Go.Eng.isTrue (Go.Eng.twoRun Try.prog Go.Eng.noSums (⟨14, 16, 31, 37, 40⟩ : Go.Eng.Fns) 1000 60 12 (.row [5]) (.row [3, 1, 1])) = true := by kernel_rfl
set_option maxRecDepth 100000 in
theorem r31_23 : Go.Eng.isTrue (Go.Eng.twoRun Try.prog Go.Eng.noSums (⟨14, 16, 31, 37, 40⟩ : Go.Eng.Fns) 1000 60 12 (.row [5]) (.row [3, 1, 1, 1])) = true := by kernel_rfl
set_option maxRecDepth 100000 in
theorem r31_24 : Go.Eng.isTrue (Go.Eng.twoRun Try.prog Go.Eng.noSums (⟨14, 16, 31, 37, 40⟩ : Go.Eng.Fns) 1000 60 12 (.row [5]) (.row [3, 2])) = true := by kernel_rfl
set_option maxRecDepth 100000 in
theorem r31_25 : Go.Eng.isTrue (Go.Eng.twoRun Try.prog Go.Eng.noSums (⟨14, 16, 31, 37, 40⟩ : Go.Eng.Fns) 1000 60 12 (.row [5]) (.row [3, 2, 1])) = true := by kernel_rfl
set_option maxRecDepth 100000 in
theorem r31_26 : Go.Eng.isTrue (Go.Eng.twoRun Try.prog Go.Eng.noSums (⟨14, 16, 31, 37, 40⟩ : Go.Eng.Fns) 1000 60 12 (.row [5]) (.row [3, 3])) = true := by kernel_rfl
set_option maxRecDepth 100000 in
theorem r31_27 : Go.Eng.isTrue (Go.Eng.twoRun Try.prog Go.Eng.noSums (⟨14, 16, 31, 37, 40⟩ : Go.Eng.Fns) 1000 60 12 (.row [5]) (.row [4])) = true := by kernel_rfl
set_option maxRecDepth 100000 in
theorem r31_28 : Go.Eng.isTrue (Go.Eng.twoRun Try.prog Go.Eng.noSums (⟨14, 16, 31, 37, 40⟩ : Go.Eng.Fns) 1000 60 12 (.row [5]) (.row [4, 1])) = true := by kernel_rfl
set_option maxRecDepth 100000 in
theorem r31_29 : Go.Eng.isTrue (Go.Eng.twoRun Try.prog Go.Eng.noSums (⟨14, 16, 31, 37, 40⟩ : Go.Eng.Fns) 1000 60 12 (.row [5]) (.row [4, 1, 1])) = true := by kernel_rfl
set_option maxRecDepth 100000 in
theorem r31_30 : Go.Eng.isTrue (Go.Eng.twoRun Try.prog Go.Eng.noSums (⟨14, 16, 31, 37, 40⟩ : Go.Eng.Fns) 1000 60 12 (.row [5]) (.row [4, 2])) = true := by kernel_rfl
set_option maxRecDepth 100000 in
theorem r31_31 : Go.Eng.isTrue (Go.Eng.twoRun Try.prog Go.Eng.noSums (⟨14, 16, 31, 37, 40⟩ : Go.Eng.Fns) 1000 60 12 (.row [5]) (.row [5])) = true := by kernel_rfl
set_option maxRecDepth 100000 in
theorem r31_32 : Go.Eng.isTrue (Go.Eng.twoRun Try.prog Go.Eng.noSums (⟨14, 16, 31, 37, 40⟩ : Go.Eng.Fns) 1000 60 12 (.row [5]) (.row [5, 1])) = true := by kernel_rfl
set_option maxRecDepth 100000 in
theorem r31_33 : Go.Eng.isTrue (Go.Eng.twoRun Try.prog Go.Eng.noSums (⟨14, 16, 31, 37, 40⟩ : Go.Eng.Fns) 1000 60 12 (.row [5]) (.row [6])) = true := by kernel_rfl
theorem r31 : Go.Eng.AllL (fun c => Go.Eng.isTrue (Go.Eng.twoRun Try.prog Go.Eng.noSums (⟨14, 16, 31, 37, 40⟩ : Go.Eng.Fns) 1000 60 12 (.row [5]) c) = true) Go.Eng.classes := by
  unfold Go.Eng.classes
  rw [Go.Eng.shares_eq]
  exact ⟨r31_0, r31_1, r31_2, r31_3, r31_4, r31_5, r31_6, r31_7, r31_8, r31_9, r31_10, r31_11, r31_12, r31_13, r31_14, r31_15, r31_16, r31_17, r31_18, r31_19, r31_20, r31_21, r31_22, r31_23, r31_24, r31_25, r31_26, r31_27, r31_28, r31_29, r31_30, r31_31, r31_32, r31_33, trivial⟩
end Go.Proofs.Ytnglbchhlpbgkaa.fnExactProductWaysRuns
