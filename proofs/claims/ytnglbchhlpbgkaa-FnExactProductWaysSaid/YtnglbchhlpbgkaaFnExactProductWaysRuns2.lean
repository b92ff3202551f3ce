/- The runs of FnExactProductWays, part 2. -/
import Derived.Test.YtnglbchhlpbgkaaEngZb
import Derived.Test.YtnglbchhlpbgkaaProg
namespace Go.Proofs.Ytnglbchhlpbgkaa.fnExactProductWaysRuns
set_option linter.unusedVariables false
set_option linter.unusedSectionVars false
set_option linter.unusedSimpArgs false
set_option maxRecDepth 100000 in
theorem r2_0 : Go.Eng.isTrue (Go.Eng.twoRun Try.prog Go.Eng.noSums (⟨14, 16, 31, 37, 40⟩ : Go.Eng.Fns) 1000 60 12 .no .nil) = true := by kernel_rfl
set_option maxRecDepth 100000 in
theorem r2_1 : Go.Eng.isTrue (Go.Eng.twoRun Try.prog Go.Eng.noSums (⟨14, 16, 31, 37, 40⟩ : Go.Eng.Fns) 1000 60 12 .no .zero) = true := by kernel_rfl
set_option maxRecDepth 100000 in
theorem r2_2 : Go.Eng.isTrue (Go.Eng.twoRun Try.prog Go.Eng.noSums (⟨14, 16, 31, 37, 40⟩ : Go.Eng.Fns) 1000 60 12 .no .no) = true := by kernel_rfl
set_option maxRecDepth 100000 in
theorem r2_3 : Go.Eng.isTrue (Go.Eng.twoRun Try.prog Go.Eng.noSums (⟨14, 16, 31, 37, 40⟩ : Go.Eng.Fns) 1000 60 12 .no .long) = true := by kernel_rfl
set_option maxRecDepth 100000 in
theorem r2_4 : Go.Eng.isTrue (Go.Eng.twoRun Try.prog Go.Eng.noSums (⟨14, 16, 31, 37, 40⟩ : Go.Eng.Fns) 1000 60 12 .no (.row [])) = true := by kernel_rfl
set_option maxRecDepth 100000 in
theorem r2_5 : Go.Eng.isTrue (Go.Eng.twoRun Try.prog Go.Eng.noSums (⟨14, 16, 31, 37, 40⟩ : Go.Eng.Fns) 1000 60 12 .no (.row [1])) = true := by kernel_rfl
set_option maxRecDepth 100000 in
theorem r2_6 : Go.Eng.isTrue (Go.Eng.twoRun Try.prog Go.Eng.noSums (⟨14, 16, 31, 37, 40⟩ : Go.Eng.Fns) 1000 60 12 .no (.row [1, 1])) = true := by kernel_rfl
set_option maxRecDepth 100000 in
theorem r2_7 : Go.Eng.isTrue (Go.Eng.twoRun Try.prog Go.Eng.noSums (⟨14, 16, 31, 37, 40⟩ : Go.Eng.Fns) 1000 60 12 .no (.row [1, 1, 1])) = true := by kernel_rfl
set_option maxRecDepth 100000 in
theorem r2_8 : Go.Eng.isTrue (Go.Eng.twoRun Try.prog Go.Eng.noSums (⟨14, 16, 31, 37, 40⟩ : Go.Eng.Fns) 1000 60 12 .no (.row [1, 1, 1, 1])) = true := by kernel_rfl
set_option maxRecDepth 100000 in
theorem r2_9 : Go.Eng.isTrue (Go.Eng.twoRun Try.prog Go.Eng.noSums (⟨14, 16, 31, 37, 40⟩ : Go.Eng.Fns) 1000 60 12 .no (.row [1, 1, 1, 1, 1])) = true := by kernel_rfl
set_option maxRecDepth 100000 in
theorem r2_10 : Go.Eng.isTrue (Go.Eng.twoRun Try.prog Go.Eng.noSums (⟨14, 16, 31, 37, 40⟩ : Go.Eng.Fns) 1000 60 12 .no (.row [1, 1, 1, 1, 1, 1])) = true := by kernel_rfl
set_option maxRecDepth 100000 in
theorem r2_11 : Go.Eng.isTrue (Go.Eng.twoRun Try.prog Go.Eng.noSums (⟨14, 16, 31, 37, 40⟩ : Go.Eng.Fns) 1000 60 12 .no (.row [2])) = true := by kernel_rfl
set_option maxRecDepth 100000 in
theorem r2_12 : Go.Eng.isTrue (Go.Eng.twoRun Try.prog Go.Eng.noSums (⟨14, 16, 31, 37, 40⟩ : Go.Eng.Fns) 1000 60 12 .no (.row [2, 1])) = true := by kernel_rfl
set_option maxRecDepth 100000 in
theorem r2_13 : Go.Eng.isTrue (Go.Eng.twoRun Try.prog Go.Eng.noSums (⟨14, 16, 31, 37, 40⟩ : Go.Eng.Fns) 1000 60 12 .no (.row [2, 1, 1])) = true := by kernel_rfl
set_option maxRecDepth 100000 in
theorem r2_14 : Go.Eng.isTrue (Go.Eng.twoRun Try.prog Go.Eng.noSums (⟨14, 16, 31, 37, 40⟩ : Go.Eng.Fns) 1000 60 12 .no (.row [2, 1, 1, 1])) = true := by kernel_rfl
set_option maxRecDepth 100000 in
theorem r2_15 : Go.Eng.isTrue (Go.Eng.twoRun Try.prog Go.Eng.noSums (⟨14, 16, 31, 37, 40⟩ : Go.Eng.Fns) 1000 60 12 .no (.row [2, 1, 1, 1, 1])) = true := by kernel_rfl
set_option maxRecDepth 100000 in
theorem r2_16 : Go.Eng.isTrue (Go.Eng.twoRun Try.prog Go.Eng.noSums (⟨14, 16, 31, 37, 40⟩ : Go.Eng.Fns) 1000 60 12 .no (.row [2, 2])) = true := by kernel_rfl
set_option maxRecDepth 100000 in
theorem r2_17 : Go.Eng.isTrue (Go.Eng.twoRun Try.prog Go.Eng.noSums (⟨14, 16, 31, 37, 40⟩ : Go.Eng.Fns) 1000 60 12 .no (.row [2, 2, 1])) = true := by kernel_rfl
set_option maxRecDepth 100000 in
theorem r2_18 : Go.Eng.isTrue (Go.Eng.twoRun Try.prog Go.Eng.noSums (⟨14, 16, 31, 37, 40⟩ : Go.Eng.Fns) 1000 60 12 .no (.row [2, 2, 1, 1])) = true := by kernel_rfl
set_option maxRecDepth 100000 in
theorem r2_19 : Go.Eng.isTrue (Go.Eng.twoRun Try.prog Go.Eng.noSums (⟨14, 16, 31, 37, 40⟩ : Go.Eng.Fns) 1000 60 12 .no (.row [2, 2, 2])) = true := by kernel_rfl
set_option maxRecDepth 100000 in
theorem r2_20 : Go.Eng.isTrue (Go.Eng.twoRun Try.prog Go.Eng.noSums (⟨14, 16, 31, 37, 40⟩ : Go.Eng.Fns) 1000 60 12 .no (.row [3])) = true := by kernel_rfl
set_option maxRecDepth 100000 in
theorem r2_21 : Go.Eng.isTrue (Go.Eng.twoRun Try.prog Go.Eng.noSums (⟨14, 16, 31, 37, 40⟩ : Go.Eng.Fns) 1000 60 12 .no (.row [3, 1])) = true := by kernel_rfl
set_option maxRecDepth 100000 in
theorem r2_22 : Go.Eng.isTrue (Go.Eng.twoRun Try.prog Go.Eng.noSums (⟨14, 16, 31, 37, 40⟩ : Go.Eng.Fns) 1000 60 12 .no (.row [3, 1, 1])) = true := by kernel_rfl
set_option maxRecDepth 100000 in
theorem r2_23 : Go.Eng.isTrue (Go.Eng.twoRun Try.prog Go.Eng.noSums (⟨14, 16, 31, 37, 40⟩ : Go.Eng.Fns) 1000 60 12 .no (.row [3, 1, 1, 1])) = true := by kernel_rfl
set_option maxRecDepth 100000 in
theorem r2_24 : Go.Eng.isTrue (Go.Eng.twoRun Try.prog Go.Eng.noSums (⟨14, 16, 31, 37, 40⟩ : Go.Eng.Fns) 1000 60 12 .no (.row [3, 2])) = true := by kernel_rfl
set_option maxRecDepth 100000 in
theorem r2_25 : Go.Eng.isTrue (Go.Eng.twoRun Try.prog Go.Eng.noSums (⟨14, 16, 31, 37, 40⟩ : Go.Eng.Fns) 1000 60 12 .no (.row [3, 2, 1])) = true := by kernel_rfl
set_option maxRecDepth 100000 in
theorem r2_26 : Go.Eng.isTrue (Go.Eng.twoRun Try.prog Go.Eng.noSums (⟨14, 16, 31, 37, 40⟩ : Go.Eng.Fns) 1000 60 12 .no (.row [3, 3])) = true := by kernel_rfl
set_option maxRecDepth 100000 in
theorem r2_27 : Go.Eng.isTrue (Go.Eng.twoRun Try.prog Go.Eng.noSums (⟨14, 16, 31, 37, 40⟩ : Go.Eng.Fns) 1000 60 12 .no (.row [4])) = true := by kernel_rfl
set_option maxRecDepth 100000 in
theorem r2_28 : Go.Eng.isTrue (Go.Eng.twoRun Try.prog Go.Eng.noSums (⟨14, 16, 31, 37, 40⟩ : Go.Eng.Fns) 1000 60 12 .no (.row [4, 1])) = true := by kernel_rfl
set_option maxRecDepth 100000 in
theorem r2_29 : Go.Eng.isTrue (Go.Eng.twoRun Try.prog Go.Eng.noSums (⟨14, 16, 31, 37, 40⟩ : Go.Eng.Fns) 1000 60 12 .no (.row [4, 1, 1])) = true := by kernel_rfl
set_option maxRecDepth 100000 in
theorem r2_30 : Go.Eng.isTrue (Go.Eng.twoRun Try.prog Go.Eng.noSums (⟨14, 16, 31, 37, 40⟩ : Go.Eng.Fns) 1000 60 12 .no (.row [4, 2])) = true := by kernel_rfl
set_option maxRecDepth 100000 in
theorem r2_31 : Go.Eng.isTrue (Go.Eng.twoRun Try.prog Go.Eng.noSums (⟨14, 16, 31, 37, 40⟩ : Go.Eng.Fns) 1000 60 12 .no (.row [5])) = true := by kernel_rfl
set_option maxRecDepth 100000 in
theorem r2_32 : Go.Eng.isTrue (Go.Eng.twoRun Try.prog Go.Eng.noSums (⟨14, 16, 31, 37, 40⟩ : Go.Eng.Fns) 1000 60 12 .no (.row [5, 1])) = true := by kernel_rfl
set_option maxRecDepth 100000 in
theorem r2_33 : Go.Eng.isTrue (Go.Eng.twoRun Try.prog Go.Eng.noSums (⟨14, 16, 31, 37, 40⟩ : Go.Eng.Fns) 1000 60 12 .no (.row [6])) = true := by kernel_rfl
theorem r2 : Go.Eng.AllL (fun c => Go.Eng.isTrue (Go.Eng.twoRun Try.prog Go.Eng.noSums (⟨14, 16, 31, 37, 40⟩ : Go.Eng.Fns) 1000 60 12 .no c) = true) Go.Eng.classes := by
  unfold Go.Eng.classes
  rw [Go.Eng.shares_eq]
  exact ⟨r2_0, r2_1, r2_2, r2_3, r2_4, r2_5, r2_6, r2_7, r2_8, r2_9, r2_10, r2_11, r2_12, r2_13, r2_14, r2_15, r2_16, r2_17, r2_18, r2_19, r2_20, r2_21, r2_22, r2_23, r2_24, r2_25, r2_26, r2_27, r2_28, r2_29, r2_30, r2_31, r2_32, r2_33, trivial⟩
set_option maxRecDepth 100000 in
theorem r5_0 : Go.Eng.isTrue (Go.Eng.twoRun Try.prog Go.Eng.noSums (⟨14, 16, 31, 37, 40⟩ : Go.Eng.Fns) 1000 60 12 (.row [1]) .nil) = true := by kernel_rfl
set_option maxRecDepth 100000 in
theorem r5_1 : Go.Eng.isTrue (Go.Eng.twoRun Try.prog Go.Eng.noSums (⟨14, 16, 31, 37, 40⟩ : Go.Eng.Fns) 1000 60 12 (.row [1]) .zero) = true := by kernel_rfl
set_option maxRecDepth 100000 in
theorem r5_2 : Go.Eng.isTrue (Go.Eng.twoRun Try.prog Go.Eng.noSums (⟨14, 16, 31, 37, 40⟩ : Go.Eng.Fns) 1000 60 12 (.row [1]) .no) = true := by kernel_rfl
set_option maxRecDepth 100000 in
theorem r5_3 : Go.Eng.isTrue (Go.Eng.twoRun Try.prog Go.Eng.noSums (⟨14, 16, 31, 37, 40⟩ : Go.Eng.Fns) 1000 60 12 (.row [1]) .long) = true := by kernel_rfl
set_option maxRecDepth 100000 in
theorem r5_4 : Go.Eng.isTrue (Go.Eng.twoRun Try.prog Go.Eng.noSums (⟨14, 16, 31, 37, 40⟩ : Go.Eng.Fns) 1000 60 12 (.row [1]) (.row [])) = true := by kernel_rfl
set_option maxRecDepth 100000 in
theorem r5_5 : Go.Eng.isTrue (Go.Eng.twoRun Try.prog Go.Eng.noSums (⟨14, 16, 31, 37, 40⟩ : Go.Eng.Fns) 1000 60 12 (.row [1]) (.row [1])) = true := by kernel_rfl
set_option maxRecDepth 100000 in
theorem r5_6 : Go.Eng.isTrue (Go.Eng.twoRun Try.prog Go.Eng.noSums (⟨14, 16, 31, 37, 40⟩ : Go.Eng.Fns) 1000 60 12 (.row [1]) (.row [1, 1])) = true := by kernel_rfl
set_option maxRecDepth 100000 in
theorem r5_7 : Go.Eng.isTrue (Go.Eng.twoRun Try.prog Go.Eng.noSums (⟨14, 16, 31, 37, 40⟩ : Go.Eng.Fns) 1000 60 12 (.row [1]) (.row [1, 1, 1])) = true := by kernel_rfl
set_option maxRecDepth 100000 in
theorem r5_8 : Go.Eng.isTrue (Go.Eng.twoRun Try.prog Go.Eng.noSums (⟨14, 16, 31, 37, 40⟩ : Go.Eng.Fns) 1000 60 12 (.row [1]) (.row [1, 1, 1, 1])) = true := by kernel_rfl
set_option maxRecDepth 100000 in
theorem r5_9 : Go.Eng.isTrue (Go.Eng.twoRun Try.prog Go.Eng.noSums (⟨14, 16, 31, 37, 40⟩ : Go.Eng.Fns) 1000 60 12 (.row [1]) (.row [1, 1, 1, 1, 1])) = true := by kernel_rfl
set_option maxRecDepth 100000 in
theorem r5_10 : Go.Eng.isTrue (Go.Eng.twoRun Try.prog Go.Eng.noSums (⟨14, 16, 31, 37, 40⟩ : Go.Eng.Fns) 1000 60 12 (.row [1]) (.row [1, 1, 1, 1, 1, 1])) = true := by kernel_rfl
set_option maxRecDepth 100000 in
theorem r5_11 : Go.Eng.isTrue (Go.Eng.twoRun Try.prog Go.Eng.noSums (⟨14, 16, 31, 37, 40⟩ : Go.Eng.Fns) 1000 60 12 (.row [1]) (.row [2])) = true := by kernel_rfl
set_option maxRecDepth 100000 in
theorem r5_12 : Go.Eng.isTrue (Go.Eng.twoRun Try.prog Go.Eng.noSums (⟨14, 16, 31, 37, 40⟩ : Go.Eng.Fns) 1000 60 12 (.row [1]) (.row [2, 1])) = true := by kernel_rfl
set_option maxRecDepth 100000 in
theorem r5_13 : Go.Eng.isTrue (Go.Eng.twoRun Try.prog Go.Eng.noSums (⟨14, 16, 31, 37, 40⟩ : Go.Eng.Fns) 1000 60 12 (.row [1]) (.row [2, 1, 1])) = true := by kernel_rfl
set_option maxRecDepth 100000 in
theorem r5_14 : Go.Eng.isTrue (Go.Eng.twoRun Try.prog Go.Eng.noSums (⟨14, 16, 31, 37, 40⟩ : Go.Eng.Fns) 1000 60 12 (.row [1]) (.row [2, 1, 1, 1])) = true := by kernel_rfl
set_option maxRecDepth 100000 in
theorem r5_15 : Go.Eng.isTrue (Go.Eng.twoRun Try.prog Go.Eng.noSums (⟨14, 16, 31, 37, 40⟩ : Go.Eng.Fns) 1000 60 12 (.row [1]) (.row [2, 1, 1, 1, 1])) = true := by kernel_rfl
set_option maxRecDepth 100000 in
theorem r5_16 : Go.Eng.isTrue (Go.Eng.twoRun Try.prog Go.Eng.noSums (⟨14, 16, 31, 37, 40⟩ : Go.Eng.Fns) 1000 60 12 (.row [1]) (.row [2, 2])) = true := by kernel_rfl
set_option maxRecDepth 100000 in
theorem r5_17 : Go.Eng.isTrue (Go.Eng.twoRun Try.prog Go.Eng.noSums (⟨14, 16, 31, 37, 40⟩ : Go.Eng.Fns) 1000 60 12 (.row [1]) (.row [2, 2, 1])) = true := by kernel_rfl
set_option maxRecDepth 100000 in
theorem r5_18 : Go.Eng.isTrue (Go.Eng.twoRun Try.prog Go.Eng.noSums (⟨14, 16, 31, 37, 40⟩ : Go.Eng.Fns) 1000 60 12 (.row [1]) (.row [2, 2, 1, 1])) = true := by kernel_rfl
set_option maxRecDepth 100000 in
theorem r5_19 : Go.Eng.isTrue (Go.Eng.twoRun Try.prog Go.Eng.noSums (⟨14, 16, 31, 37, 40⟩ : Go.Eng.Fns) 1000 60 12 (.row [1]) (.row [2, 2, 2])) = true := by kernel_rfl
set_option maxRecDepth 100000 in
theorem r5_20 : Go.Eng.isTrue (Go.Eng.twoRun Try.prog Go.Eng.noSums (⟨14, 16, 31, 37, 40⟩ : Go.Eng.Fns) 1000 60 12 (.row [1]) (.row [3])) = true := by kernel_rfl
set_option maxRecDepth 100000 in
theorem r5_21 : Go.Eng.isTrue (Go.Eng.twoRun Try.prog Go.Eng.noSums (⟨14, 16, 31, 37, 40⟩ : Go.Eng.Fns) 1000 60 12 (.row [1]) (.row [3, 1])) = true := by kernel_rfl
set_option maxRecDepth 100000 in
theorem r5_22 : Go.Eng.isTrue (Go.Eng.twoRun Try.prog Go.Eng.noSums (⟨14, 16, 31, 37, 40⟩ : Go.Eng.Fns) 1000 60 12 (.row [1]) (.row [3, 1, 1])) = true := by kernel_rfl
set_option maxRecDepth 100000 in
theorem r5_23 : Go.Eng.isTrue (Go.Eng.twoRun Try.prog Go.Eng.noSums (⟨14, 16, 31, 37, 40⟩ : Go.Eng.Fns) 1000 60 12 (.row [1]) (.row [3, 1, 1, 1])) = true := by kernel_rfl
set_option maxRecDepth 100000 in
theorem r5_24 : Go.Eng.isTrue (Go.Eng.twoRun Try.prog Go.Eng.noSums (⟨14, 16, 31, 37, 40⟩ : Go.Eng.Fns) 1000 60 12 (.row [1]) (.row [3, 2])) = true := by kernel_rfl
set_option maxRecDepth 100000 in
theorem r5_25 : Go.Eng.isTrue (Go.Eng.twoRun Try.prog Go.Eng.noSums (⟨14, 16, 31, 37, 40⟩ : Go.Eng.Fns) 1000 60 12 (.row [1]) (.row [3, 2, 1])) = true := by kernel_rfl
set_option maxRecDepth 100000 in
theorem r5_26 : Go.Eng.isTrue (Go.Eng.twoRun Try.prog Go.Eng.noSums (⟨14, 16, 31, 37, 40⟩ : Go.Eng.Fns) 1000 60 12 (.row [1]) (.row [3, 3])) = true := by kernel_rfl
set_option maxRecDepth 100000 in
theorem r5_27 : Go.Eng.isTrue (Go.Eng.twoRun Try.prog Go.Eng.noSums (⟨14, 16, 31, 37, 40⟩ : Go.Eng.Fns) 1000 60 12 (.row [1]) (.row [4])) = true := by kernel_rfl
set_option maxRecDepth 100000 in
theorem r5_28 : Go.Eng.isTrue (Go.Eng.twoRun Try.prog Go.Eng.noSums (⟨14, 16, 31, 37, 40⟩ : Go.Eng.Fns) 1000 60 12 (.row [1]) (.row [4, 1])) = true := by kernel_rfl
set_option maxRecDepth 100000 in
theorem r5_29 : Go.Eng.isTrue (Go.Eng.twoRun Try.prog Go.Eng.noSums (⟨14, 16, 31, 37, 40⟩ : Go.Eng.Fns) 1000 60 12 (.row [1]) (.row [4, 1, 1])) = true := by kernel_rfl
set_option maxRecDepth 100000 in
theorem r5_30 : Go.Eng.isTrue (Go.Eng.twoRun Try.prog Go.Eng.noSums (⟨14, 16, 31, 37, 40⟩ : Go.Eng.Fns) 1000 60 12 (.row [1]) (.row [4, 2])) = true := by kernel_rfl
set_option maxRecDepth 100000 in
theorem r5_31 : Go.Eng.isTrue (Go.Eng.twoRun Try.prog Go.Eng.noSums (⟨14, 16, 31, 37, 40⟩ : Go.Eng.Fns) 1000 60 12 (.row [1]) (.row [5])) = true := by kernel_rfl
set_option maxRecDepth 100000 in
theorem r5_32 : Go.Eng.isTrue (Go.Eng.twoRun Try.prog Go.Eng.noSums (⟨14, 16, 31, 37, 40⟩ : Go.Eng.Fns) 1000 60 12 (.row [1]) (.row [5, 1])) = true := by kernel_rfl
set_option maxRecDepth 100000 in
theorem r5_33 : Go.Eng.isTrue (Go.Eng.twoRun Try.prog Go.Eng.noSums (⟨14, 16, 31, 37, 40⟩ : Go.Eng.Fns) 1000 60 12 (.row [1]) (.row [6])) = true := by kernel_rfl
theorem r5 : Go.Eng.AllL (fun c => Go.Eng.isTrue (Go.Eng.twoRun Try.prog Go.Eng.noSums (⟨14, 16, 31, 37, 40⟩ : Go.Eng.Fns) 1000 60 12 (.row [1]) c) = true) Go.Eng.classes := by
  unfold Go.Eng.classes
  rw [Go.Eng.shares_eq]
  exact ⟨r5_0, r5_1, r5_2, r5_3, r5_4, r5_5, r5_6, r5_7, r5_8, r5_9, r5_10, r5_11, r5_12, r5_13, r5_14, r5_15, r5_16, r5_17, r5_18, r5_19, r5_20, r5_21, r5_22, r5_23, r5_24, r5_25, r5_26, r5_27, r5_28, r5_29, r5_30, r5_31, r5_32, r5_33, trivial⟩
set_option maxRecDepth 100000 in
theorem r8_0 : Go.Eng.isTrue (Go.Eng.twoRun Try.prog Go.Eng.noSums (⟨14, 16, 31, 37, 40⟩ : Go.Eng.Fns) 1000 60 12 (.row [1, 1, 1, 1]) .nil) = true := by kernel_rfl
set_option maxRecDepth 100000 in
theorem r8_1 : Go.Eng.isTrue (Go.Eng.twoRun Try.prog Go.Eng.noSums (⟨14, 16, 31, 37, 40⟩ : Go.Eng.Fns) 1000 60 12 (.row [1, 1, 1, 1]) .zero) = true := by kernel_rfl
set_option maxRecDepth 100000 in
theorem r8_2 : Go.Eng.isTrue (Go.Eng.twoRun Try.prog Go.Eng.noSums (⟨14, 16, 31, 37, 40⟩ : Go.Eng.Fns) 1000 60 12 (.row [1, 1, 1, 1]) .no) = true := by kernel_rfl
set_option maxRecDepth 100000 in
theorem r8_3 : Go.Eng.isTrue (Go.Eng.twoRun Try.prog Go.Eng.noSums (⟨14, 16, 31, 37, 40⟩ : Go.Eng.Fns) 1000 60 12 (.row [1, 1, 1, 1]) .long) = true := by kernel_rfl
set_option maxRecDepth 100000 in
theorem r8_4 : Go.Eng.isTrue (Go.Eng.twoRun Try.prog Go.Eng.noSums (⟨14, 16, 31, 37, 40⟩ : Go.Eng.Fns) 1000 60 12 (.row [1, 1, 1, 1]) (.row [])) = true := by kernel_rfl
set_option maxRecDepth 100000 in
theorem r8_5 : Go.Eng.isTrue (Go.Eng.twoRun Try.prog Go.Eng.noSums (⟨14, 16, 31, 37, 40⟩ : Go.Eng.Fns) 1000 60 12 (.row [1, 1, 1, 1]) (.row [1])) = true := by kernel_rfl
set_option maxRecDepth 100000 in
theorem r8_6 : Go.Eng.isTrue (Go.Eng.twoRun Try.prog Go.Eng.noSums (⟨14, 16, 31, 37, 40⟩ : Go.Eng.Fns) 1000 60 12 (.row [1, 1, 1, 1]) (.row [1, 1])) = true := by kernel_rfl
set_option maxRecDepth 100000 in
theorem r8_7 : Go.Eng.isTrue (Go.Eng.twoRun Try.prog Go.Eng.noSums (⟨14, 16, 31, 37, 40⟩ : Go.Eng.Fns) 1000 60 12 (.row [1, 1, 1, 1]) (.row [1, 1, 1])) = true := by kernel_rfl
set_option maxRecDepth 100000 in
theorem r8_8 : Go.Eng.isTrue (Go.Eng.twoRun Try.prog Go.Eng.noSums (⟨14, 16, 31, 37, 40⟩ : Go.Eng.Fns) 1000 60 12 (.row [1, 1, 1, 1]) (.row [1, 1, 1, 1])) = true := by kernel_rfl
set_option maxRecDepth 100000 in
theorem r8_9 : Go.Eng.isTrue (Go.Eng.twoRun Try.prog Go.Eng.noSums (⟨14, 16, 31, 37, 40⟩ : Go.Eng.Fns) 1000 60 12 (.row [1, 1, 1, 1]) (.row [1, 1, 1, 1, 1])) = true := by kernel_rfl
set_option maxRecDepth 100000 in
theorem r8_10 : Go.Eng.isTrue (Go.Eng.twoRun Try.prog Go.Eng.noSums (⟨14, 16, 31, 37, 40⟩ : Go.Eng.Fns) 1000 60 12 (.row [1, 1, 1, 1]) (.row [1, 1, 1, 1, 1, 1])) = true := by kernel_rfl
set_option maxRecDepth 100000 in
theorem r8_11 : Go.Eng.isTrue (Go.Eng.twoRun Try.prog Go.Eng.noSums (⟨14, 16, 31, 37, 40⟩ : Go.Eng.Fns) 1000 60 12 (.row [1, 1, 1, 1]) (.row [2])) = true := by kernel_rfl
set_option maxRecDepth 100000 in
theorem r8_12 : Go.Eng.isTrue (Go.Eng.twoRun Try.prog Go.Eng.noSums (⟨14, 16, 31, 37, 40⟩ : Go.Eng.Fns) 1000 60 12 (.row [1, 1, 1, 1]) (.row [2, 1])) = true := by kernel_rfl
set_option maxRecDepth 100000 in
theorem r8_13 : Go.Eng.isTrue (Go.Eng.twoRun Try.prog Go.Eng.noSums (⟨14, 16, 31, 37, 40⟩ : Go.Eng.Fns) 1000 60 12 (.row [1, 1, 1, 1]) (.row [2, 1, 1])) = true := by kernel_rfl
set_option maxRecDepth 100000 in
theorem r8_14 : Go.Eng.isTrue (Go.Eng.twoRun Try.prog Go.Eng.noSums (⟨14, 16, 31, 37, 40⟩ : Go.Eng.Fns) 1000 60 12 (.row [1, 1, 1, 1]) (.row [2, 1, 1, 1])) = true := by kernel_rfl
set_option maxRecDepth 100000 in
theorem r8_15 : Go.Eng.isTrue (Go.Eng.twoRun Try.prog Go.Eng.noSums (⟨14, 16, 31, 37, 40⟩ : Go.Eng.Fns) 1000 60 12 (.row [1, 1, 1, 1]) (.row [2, 1, 1, 1, 1])) = true := by kernel_rfl
set_option maxRecDepth 100000 in
theorem r8_16 : Go.Eng.isTrue (Go.Eng.twoRun Try.prog Go.Eng.noSums (⟨14, 16, 31, 37, 40⟩ : Go.Eng.Fns) 1000 60 12 (.row [1, 1, 1, 1]) (.row [2, 2])) = true := by kernel_rfl
set_option maxRecDepth 100000 in
theorem r8_17 : Go.Eng.isTrue (Go.Eng.twoRun Try.prog Go.Eng.noSums (⟨14, 16, 31, 37, 40⟩ : Go.Eng.Fns) 1000 60 12 (.row [1, 1, 1, 1]) (.row [2, 2, 1])) = true := by kernel_rfl
set_option maxRecDepth 100000 in
theorem r8_18 : Go.Eng.isTrue (Go.Eng.twoRun Try.prog Go.Eng.noSums (⟨14, 16, 31, 37, 40⟩ : Go.Eng.Fns) 1000 60 12 (.row [1, 1, 1, 1]) (.row [2, 2, 1, 1])) = true := by kernel_rfl
set_option maxRecDepth 100000 in
theorem r8_19 : Go.Eng.isTrue (Go.Eng.twoRun Try.prog Go.Eng.noSums (⟨14, 16, 31, 37, 40⟩ : Go.Eng.Fns) 1000 60 12 (.row [1, 1, 1, 1]) (.row [2, 2, 2])) = true := by kernel_rfl
set_option maxRecDepth 100000 in
theorem r8_20 : Go.Eng.isTrue (Go.Eng.twoRun Try.prog Go.Eng.noSums (⟨14, 16, 31, 37, 40⟩ : Go.Eng.Fns) 1000 60 12 (.row [1, 1, 1, 1]) (.row [3])) = true := by kernel_rfl
set_option maxRecDepth 100000 in
theorem r8_21 : Go.Eng.isTrue (Go.Eng.twoRun Try.prog Go.Eng.noSums (⟨14, 16, 31, 37, 40⟩ : Go.Eng.Fns) 1000 60 12 (.row [1, 1, 1, 1]) (.row [3, 1])) = true := by kernel_rfl
set_option maxRecDepth 100000 in
theorem r8_22 : Go.Eng.isTrue (Go.Eng.twoRun Try.prog Go.Eng.noSums (⟨14, 16, 31, 37, 40⟩ : Go.Eng.Fns) 1000 60 12 (.row [1, 1, 1, 1]) (.row [3, 1, 1])) = true := by kernel_rfl
set_option maxRecDepth 100000 in
theorem r8_23 : Go.Eng.isTrue (Go.Eng.twoRun Try.prog Go.Eng.noSums (⟨14, 16, 31, 37, 40⟩ : Go.Eng.Fns) 1000 60 12 (.row [1, 1, 1, 1]) (.row [3, 1, 1, 1])) = true := by kernel_rfl
set_option maxRecDepth 100000 in
theorem r8_24 : Go.Eng.isTrue (Go.Eng.twoRun Try.prog Go.Eng.noSums (⟨14, 16, 31, 37, 40⟩ : Go.Eng.Fns) 1000 60 12 (.row [1, 1, 1, 1]) (.row [3, 2])) = true := by kernel_rfl
set_option maxRecDepth 100000 in
theorem r8_25 : Go.Eng.isTrue (Go.Eng.twoRun Try.prog Go.Eng.noSums (⟨14, 16, 31, 37, 40⟩ : Go.Eng.Fns) 1000 60 12 (.row [1, 1, 1, 1]) (.row [3, 2, 1])) = true := by kernel_rfl
set_option maxRecDepth 100000 in
theorem r8_26 : Go.Eng.isTrue (Go.Eng.twoRun Try.prog Go.Eng.noSums (⟨14, 16, 31, 37, 40⟩ : Go.Eng.Fns) 1000 60 12 (.row [1, 1, 1, 1]) (.row [3, 3])) = true := by kernel_rfl
set_option maxRecDepth 100000 in
theorem r8_27 : Go.Eng.isTrue (Go.Eng.twoRun Try.prog Go.Eng.noSums (⟨14, 16, 31, 37, 40⟩ : Go.Eng.Fns) 1000 60 12 (.row [1, 1, 1, 1]) (.row [4])) = true := by kernel_rfl
set_option maxRecDepth 100000 in
theorem r8_28 : Go.Eng.isTrue (Go.Eng.twoRun Try.prog Go.Eng.noSums (⟨14, 16, 31, 37, 40⟩ : Go.Eng.Fns) 1000 60 12 (.row [1, 1, 1, 1]) (.row [4, 1])) = true := by kernel_rfl
set_option maxRecDepth 100000 in
theorem r8_29 : Go.Eng.isTrue (Go.Eng.twoRun Try.prog Go.Eng.noSums (⟨14, 16, 31, 37, 40⟩ : Go.Eng.Fns) 1000 60 12 (.row [1, 1, 1, 1]) (.row [4, 1, 1])) = true := by kernel_rfl
set_option maxRecDepth 100000 in
theorem r8_30 : Go.Eng.isTrue (Go.Eng.twoRun Try.prog Go.Eng.noSums (⟨14, 16, 31, 37, 40⟩ : Go.Eng.Fns) 1000 60 12 (.row [1, 1, 1, 1]) (.row [4, 2])) = true := by kernel_rfl
set_option maxRecDepth 100000 in
theorem r8_31 : Go.Eng.isTrue (Go.Eng.twoRun Try.prog Go.Eng.noSums (⟨14, 16, 31, 37, 40⟩ : Go.Eng.Fns) 1000 60 12 (.row [1, 1, 1, 1]) (.row [5])) = true := by kernel_rfl
set_option maxRecDepth 100000 in
theorem r8_32 : Go.Eng.isTrue (Go.Eng.twoRun Try.prog Go.Eng.noSums (⟨14, 16, 31, 37, 40⟩ : Go.Eng.Fns) 1000 60 12 (.row [1, 1, 1, 1]) (.row [5, 1])) = true := by kernel_rfl
set_option maxRecDepth 100000 in
theorem r8_33 : Go.Eng.isTrue (Go.Eng.twoRun Try.prog Go.Eng.noSums (⟨14, 16, 31, 37, 40⟩ : Go.Eng.Fns) 1000 60 12 (.row [1, 1, 1, 1]) (.row [6])) = true := by kernel_rfl
theorem r8 : Go.Eng.AllL (fun c => Go.Eng.isTrue (Go.Eng.twoRun Try.prog Go.Eng.noSums (⟨14, 16, 31, 37, 40⟩ : Go.Eng.Fns) 1000 60 12 (.row [1, 1, 1, 1]) c) = true) Go.Eng.classes := by
  unfold Go.Eng.classes
  rw [Go.Eng.shares_eq]
  exact ⟨r8_0, r8_1, r8_2, r8_3, r8_4, r8_5, r8_6, r8_7, r8_8, r8_9, r8_10, r8_11, r8_12, r8_13, r8_14, r8_15, r8_16, r8_17, r8_18, r8_19, r8_20, r8_21, r8_22, r8_23, r8_24, r8_25, r8_26, r8_27, r8_28, r8_29, r8_30, r8_31, r8_32, r8_33, trivial⟩
set_option maxRecDepth 100000 in
theorem r11_0 : Go.Eng.isTrue (Go.Eng.twoRun Try.prog Go.Eng.noSums (⟨14, 16, 31, 37, 40⟩ : Go.Eng.Fns) 1000 60 12 (.row [2]) .nil) = true := by kernel_rfl
set_option maxRecDepth 100000 in
theorem r11_1 : Go.Eng.isTrue (Go.Eng.twoRun Try.prog Go.Eng.noSums (⟨14, 16, 31, 37, 40⟩ : Go.Eng.Fns) 1000 60 12 (.row [2]) .zero) = true := by kernel_rfl
set_option maxRecDepth 100000 in
theorem r11_2 : Go.Eng.isTrue (Go.Eng.twoRun Try.prog Go.Eng.noSums (⟨14, 16, 31, 37, 40⟩ : Go.Eng.Fns) 1000 60 12 (.row [2]) .no) = true := by kernel_rfl
set_option maxRecDepth 100000 in
theorem r11_3 : Go.Eng.isTrue (Go.Eng.twoRun Try.prog Go.Eng.noSums (⟨14, 16, 31, 37, 40⟩ : Go.Eng.Fns) 1000 60 12 (.row [2]) .long) = true := by kernel_rfl
set_option maxRecDepth 100000 in
theorem r11_4 : Go.Eng.isTrue (Go.Eng.twoRun Try.prog Go.Eng.noSums (⟨14, 16, 31, 37, 40⟩ : Go.Eng.Fns) 1000 60 12 (.row [2]) (.row [])) = true := by kernel_rfl
set_option maxRecDepth 100000 in
theorem r11_5 : Go.Eng.isTrue (Go.Eng.twoRun Try.prog Go.Eng.noSums (⟨14, 16, 31, 37, 40⟩ : Go.Eng.Fns) 1000 60 12 (.row [2]) (.row [1])) = true := by kernel_rfl
set_option maxRecDepth 100000 in
theorem r11_6 : Go.Eng.isTrue (Go.Eng.twoRun Try.prog Go.Eng.noSums (⟨14, 16, 31, 37, 40⟩ : Go.Eng.Fns) 1000 60 12 (.row [2]) (.row [1, 1])) = true := by kernel_rfl
set_option maxRecDepth 100000 in
theorem r11_7 : Go.Eng.isTrue (Go.Eng.twoRun Try.prog Go.Eng.noSums (⟨14, 16, 31, 37, 40⟩ : Go.Eng.Fns) 1000 60 12 (.row [2]) (.row [1, 1, 1])) = true := by kernel_rfl
set_option maxRecDepth 100000 in
theorem r11_8 : Go.Eng.isTrue (Go.Eng.twoRun Try.prog Go.Eng.noSums (⟨14, 16, 31, 37, 40⟩ : Go.Eng.Fns) 1000 60 12 (.row [2]) (.row [1, 1, 1, 1])) = true := by kernel_rfl
set_option maxRecDepth 100000 in
theorem r11_9 : Go.Eng.isTrue (Go.Eng.twoRun Try.prog Go.Eng.noSums (⟨14, 16, 31, 37, 40⟩ : Go.Eng.Fns) 1000 60 12 (.row [2]) (.row [1, 1, 1, 1, 1])) = true := by kernel_rfl
set_option maxRecDepth 100000 in
theorem r11_10 : Go.Eng.isTrue (Go.Eng.twoRun Try.prog Go.Eng.noSums (⟨14, 16, 31, 37, 40⟩ : Go.Eng.Fns) 1000 60 12 (.row [2]) (.row [1, 1, 1, 1, 1, 1])) = true := by kernel_rfl
set_option maxRecDepth 100000 in
theorem r11_11 : Go.Eng.isTrue (Go.Eng.twoRun Try.prog Go.Eng.noSums (⟨14, 16, 31, 37, 40⟩ : Go.Eng.Fns) 1000 60 12 (.row [2]) (.row [2])) = true := by kernel_rfl
set_option maxRecDepth 100000 in
theorem r11_12 : Go.Eng.isTrue (Go.Eng.twoRun Try.prog Go.Eng.noSums (⟨14, 16, 31, 37, 40⟩ : Go.Eng.Fns) 1000 60 12 (.row [2]) (.row [2, 1])) = true := by kernel_rfl
set_option maxRecDepth 100000 in
theorem r11_13 : Go.Eng.isTrue (Go.Eng.twoRun Try.prog Go.Eng.noSums (⟨14, 16, 31, 37, 40⟩ : Go.Eng.Fns) 1000 60 12 (.row [2]) (.row [2, 1, 1])) = true := by kernel_rfl
set_option maxRecDepth 100000 in
theorem r11_14 : Go.Eng.isTrue (Go.Eng.twoRun Try.prog Go.Eng.noSums (⟨14, 16, 31, 37, 40⟩ : Go.Eng.Fns) 1000 60 12 (.row [2]) (.row [2, 1, 1, 1])) = true := by kernel_rfl
set_option maxRecDepth 100000 in
theorem r11_15 : Go.Eng.isTrue (Go.Eng.twoRun Try.prog Go.Eng.noSums (⟨14, 16, 31, 37, 40⟩ : Go.Eng.Fns) 1000 60 12 (.row [2]) (.row [2, 1, 1, 1, 1])) = true := by kernel_rfl
set_option maxRecDepth 100000 in
theorem r11_16 : Go.Eng.isTrue (Go.Eng.twoRun Try.prog Go.Eng.noSums (⟨14, 16, 31, 37, 40⟩ : Go.Eng.Fns) 1000 60 12 (.row [2]) (.row [2, 2])) = true := by kernel_rfl
set_option maxRecDepth 100000 in
theorem r11_17 : Go.Eng.isTrue (Go.Eng.twoRun Try.prog Go.Eng.noSums (⟨14, 16, 31, 37, 40⟩ : Go.Eng.Fns) 1000 60 12 (.row [2]) (.row [2, 2, 1])) = true := by kernel_rfl
set_option maxRecDepth 100000 in
theorem r11_18 : Go.Eng.isTrue (Go.Eng.twoRun Try.prog Go.Eng.noSums (⟨14, 16, 31, 37, 40⟩ : Go.Eng.Fns) 1000 60 12 (.row [2]) (.row [2, 2, 1, 1])) = true := by kernel_rfl
set_option maxRecDepth 100000 in
theorem r11_19 : Go.Eng.isTrue (Go.Eng.twoRun Try.prog Go.Eng.noSums (⟨14, 16, 31, 37, 40⟩ : Go.Eng.Fns) 1000 60 12 (.row [2]) (.row [2, 2, 2])) = true := by kernel_rfl
set_option maxRecDepth 100000 in
theorem r11_20 : Go.Eng.isTrue (Go.Eng.twoRun Try.prog Go.Eng.noSums (⟨14, 16, 31, 37, 40⟩ : Go.Eng.Fns) 1000 60 12 (.row [2]) (.row [3])) = true := by kernel_rfl
set_option maxRecDepth 100000 in
theorem r11_21 : Go.Eng.isTrue (Go.Eng.twoRun Try.prog Go.Eng.noSums (⟨14, 16, 31, 37, 40⟩ : Go.Eng.Fns) 1000 60 12 (.row [2]) (.row [3, 1])) = true := by kernel_rfl
set_option maxRecDepth 100000 in
theorem r11_22 : Go.Eng.isTrue (Go.Eng.twoRun Try.prog Go.Eng.noSums (⟨14, 16, 31, 37, 40⟩ : Go.Eng.Fns) 1000 60 12 (.row [2]) (.row [3, 1, 1])) = true := by kernel_rfl
set_option maxRecDepth 100000 in
theorem r11_23 : Go.Eng.isTrue (Go.Eng.twoRun Try.prog Go.Eng.noSums (⟨14, 16, 31, 37, 40⟩ : Go.Eng.Fns) 1000 60 12 (.row [2]) (.row [3, 1, 1, 1])) = true := by kernel_rfl
set_option maxRecDepth 100000 in
theorem r11_24 : Go.Eng.isTrue (Go.Eng.twoRun Try.prog Go.Eng.noSums (⟨14, 16, 31, 37, 40⟩ : Go.Eng.Fns) 1000 60 12 (.row [2]) (.row [3, 2])) = true := by kernel_rfl
set_option maxRecDepth 100000 in
theorem r11_25 : Go.Eng.isTrue (Go.Eng.twoRun Try.prog Go.Eng.noSums (⟨14, 16, 31, 37, 40⟩ : Go.Eng.Fns) 1000 60 12 (.row [2]) (.row [3, 2, 1])) = true := by kernel_rfl
set_option maxRecDepth 100000 in
theorem r11_26 : Go.Eng.isTrue (Go.Eng.twoRun Try.prog Go.Eng.noSums (⟨14, 16, 31, 37, 40⟩ : Go.Eng.Fns) 1000 60 12 (.row [2]) (.row [3, 3])) = true := by kernel_rfl
set_option maxRecDepth 100000 in
theorem r11_27 : Go.Eng.isTrue (Go.Eng.twoRun Try.prog Go.Eng.noSums (⟨14, 16, 31, 37, 40⟩ : Go.Eng.Fns) 1000 60 12 (.row [2]) (.row [4])) = true := by kernel_rfl
set_option maxRecDepth 100000 in
theorem r11_28 : Go.Eng.isTrue (Go.Eng.twoRun Try.prog Go.Eng.noSums (⟨14, 16, 31, 37, 40⟩ : Go.Eng.Fns) 1000 60 12 (.row [2]) (.row [4, 1])) = true := by kernel_rfl
set_option maxRecDepth 100000 in
theorem r11_29 : Go.Eng.isTrue (Go.Eng.twoRun Try.prog Go.Eng.noSums (⟨14, 16, 31, 37, 40⟩ : Go.Eng.Fns) 1000 60 12 (.row [2]) (.row [4, 1, 1])) = true := by kernel_rfl
set_option maxRecDepth 100000 in
theorem r11_30 : Go.Eng.isTrue (Go.Eng.twoRun Try.prog Go.Eng.noSums (⟨14, 16, 31, 37, 40⟩ : Go.Eng.Fns) 1000 60 12 (.row [2]) (.row [4, 2])) = true := by kernel_rfl
set_option maxRecDepth 100000 in
theorem r11_31 : Go.Eng.isTrue (Go.Eng.twoRun Try.prog Go.Eng.noSums (⟨14, 16, 31, 37, 40⟩ : Go.Eng.Fns) 1000 60 12 (.row [2]) (.row [5])) = true := by kernel_rfl
set_option maxRecDepth 100000 in
theorem r11_32 : Go.Eng.isTrue (Go.Eng.twoRun Try.prog Go.Eng.noSums (⟨14, 16, 31, 37, 40⟩ : Go.Eng.Fns) 1000 60 12 (.row [2]) (.row [5, 1])) = true := by kernel_rfl
set_option maxRecDepth 100000 in
theorem r11_33 : Go.Eng.isTrue (Go.Eng.twoRun Try.prog Go.Eng.noSums (⟨14, 16, 31, 37, 40⟩ : Go.Eng.Fns) 1000 60 12 (.row [2]) (.row [6])) = true := by kernel_rfl
theorem r11 : Go.Eng.AllL (fun c => Go.Eng.isTrue (Go.Eng.twoRun Try.prog Go.Eng.noSums (⟨14, 16, 31, 37, 40⟩ : Go.Eng.Fns) 1000 60 12 (.row [2]) c) = true) Go.Eng.classes := by
  unfold Go.Eng.classes
  rw [Go.Eng.shares_eq]
  exact ⟨r11_0, r11_1, r11_2, r11_3, r11_4, r11_5, r11_6, r11_7, r11_8, r11_9, r11_10, r11_11, r11_12, r11_13, r11_14, r11_15, r11_16, r11_17, r11_18, r11_19, r11_20, r11_21, r11_22, r11_23, r11_24, r11_25, r11_26, r11_27, r11_28, r11_29, r11_30, r11_31, r11_32, r11_33, trivial⟩
set_option maxRecDepth 100000 in
theorem r14_0 : Go.Eng.isTrue (Go.Eng.twoRun Try.prog Go.Eng.noSums (⟨14, 16, 31, 37, 40⟩ : Go.Eng.Fns) 1000 60 12 (.row [2, 1, 1, 1]) .nil) = true := by kernel_rfl
set_option maxRecDepth 100000 in
theorem r14_1 : Go.Eng.isTrue (Go.Eng.twoRun Try.prog Go.Eng.noSums (⟨14, 16, 31, 37, 40⟩ : Go.Eng.Fns) 1000 60 12 (.row [2, 1, 1, 1]) .zero) = true := by kernel_rfl
set_option maxRecDepth 100000 in
theorem r14_2 : Go.Eng.isTrue (Go.Eng.twoRun Try.prog Go.Eng.noSums (⟨14, 16, 31, 37, 40⟩ : Go.Eng.Fns) 1000 60 12 (.row [2, 1, 1, 1]) .no) = true := by kernel_rfl
set_option maxRecDepth 100000 in
theorem r14_3 : Go.Eng.isTrue (Go.Eng.twoRun Try.prog Go.Eng.noSums (⟨14, 16, 31, 37, 40⟩ : Go.Eng.Fns) 1000 60 12 (.row [2, 1, 1, 1]) .long) = true := by kernel_rfl
set_option maxRecDepth 100000 in
theorem r14_4 : Go.Eng.isTrue (Go.Eng.twoRun Try.prog Go.Eng.noSums (⟨14, 16, 31, 37, 40⟩ : Go.Eng.Fns) 1000 60 12 (.row [2, 1, 1, 1]) (.row [])) = true := by kernel_rfl
set_option maxRecDepth 100000 in
theorem r14_5 : Go.Eng.isTrue (Go.Eng.twoRun Try.prog Go.Eng.noSums (⟨14, 16, 31, 37, 40⟩ : Go.Eng.Fns) 1000 60 12 (.row [2, 1, 1, 1]) (.row [1])) = true := by kernel_rfl
set_option maxRecDepth 100000 in
theorem r14_6 : Go.Eng.isTrue (Go.Eng.twoRun Try.prog Go.Eng.noSums (⟨14, 16, 31, 37, 40⟩ : Go.Eng.Fns) 1000 60 12 (.row [2, 1, 1, 1]) (.row [1, 1])) = true := by kernel_rfl
set_option maxRecDepth 100000 in
theorem r14_7 : Go.Eng.isTrue (Go.Eng.twoRun Try.prog Go.Eng.noSums (⟨14, 16, 31, 37, 40⟩ : Go.Eng.Fns) 1000 60 12 (.row [2, 1, 1, 1]) (.row [1, 1, 1])) = true := by kernel_rfl
set_option maxRecDepth 100000 in
theorem r14_8 : Go.Eng.isTrue (Go.Eng.twoRun Try.prog Go.Eng.noSums (⟨14, 16, 31, 37, 40⟩ : Go.Eng.Fns) 1000 60 12 (.row [2, 1, 1, 1]) (.row [1, 1, 1, 1])) = true := by kernel_rfl
set_option maxRecDepth 100000 in
theorem r14_9 : Go.Eng.isTrue (Go.Eng.twoRun Try.prog Go.Eng.noSums (⟨14, 16, 31, 37, 40⟩ : Go.Eng.Fns) 1000 60 12 (.row [2, 1, 1, 1]) (.row [1, 1, 1, 1, 1])) = true := by kernel_rfl
set_option maxRecDepth 100000 in
theorem r14_10 : Go.Eng.isTrue (Go.Eng.twoRun Try.prog Go.Eng.noSums (⟨14, 16, 31, 37, 40⟩ : Go.Eng.Fns) 1000 60 12 (.row [2, 1, 1, 1]) (.row [1, 1, 1, 1, 1, 1])) = true := by kernel_rfl
set_option maxRecDepth 100000 in
theorem r14_11 : Go.Eng.isTrue (Go.Eng.twoRun Try.prog Go.Eng.noSums (⟨14, 16, 31, 37, 40⟩ : Go.Eng.Fns) 1000 60 12 (.row [2, 1, 1, 1]) (.row [2])) = true := by kernel_rfl
set_option maxRecDepth 100000 in
theorem r14_12 : Go.Eng.isTrue (Go.Eng.twoRun Try.prog Go.Eng.noSums (⟨14, 16, 31, 37, 40⟩ : Go.Eng.Fns) 1000 60 12 (.row [2, 1, 1, 1]) (.row [2, 1])) = true := by kernel_rfl
set_option maxRecDepth 100000 in
theorem r14_13 : Go.Eng.isTrue (Go.Eng.twoRun Try.prog Go.Eng.noSums (⟨14, 16, 31, 37, 40⟩ : Go.Eng.Fns) 1000 60 12 (.row [2, 1, 1, 1]) (.row [2, 1, 1])) = true := by kernel_rfl
set_option maxRecDepth 100000 in
theorem r14_14 : Go.Eng.isTrue (Go.Eng.twoRun Try.prog Go.Eng.noSums (⟨14, 16, 31, 37, 40⟩ : Go.Eng.Fns) 1000 60 12 (.row [2, 1, 1, 1]) (.row [2, 1, 1, 1])) = true := by kernel_rfl
set_option maxRecDepth 100000 in
theorem r14_15 : Go.Eng.isTrue (Go.Eng.twoRun Try.prog Go.Eng.noSums (⟨14, 16, 31, 37, 40⟩ : Go.Eng.Fns) 1000 60 12 (.row [2, 1, 1, 1]) (.row [2, 1, 1, 1, 1])) = true := by kernel_rfl
set_option maxRecDepth 100000 in
theorem r14_16 : Go.Eng.isTrue (Go.Eng.twoRun Try.prog Go.Eng.noSums (⟨14, 16, 31, 37, 40⟩ : Go.Eng.Fns) 1000 60 12 (.row [2, 1, 1, 1]) (.row [2, 2])) = true := by kernel_rfl
set_option maxRecDepth 100000 in
theorem r14_17 : Go.Eng.isTrue (Go.Eng.twoRun Try.prog Go.Eng.noSums (⟨14, 16, 31, 37, 40⟩ : Go.Eng.Fns) 1000 60 12 (.row [2, 1, 1, 1]) (.row [2, 2, 1])) = true := by kernel_rfl
set_option maxRecDepth 100000 in
theorem r14_18 : Go.Eng.isTrue (Go.Eng.twoRun Try.prog Go.Eng.noSums (⟨14, 16, 31, 37, 40⟩ : Go.Eng.Fns) 1000 60 12 (.row [2, 1, 1, 1]) (.row [2, 2, 1, 1])) = true := by kernel_rfl
set_option maxRecDepth 100000 in
theorem r14_19 : Go.Eng.isTrue (Go.Eng.twoRun Try.prog Go.Eng.noSums (⟨14, 16, 31, 37, 40⟩ : Go.Eng.Fns) 1000 60 12 (.row [2, 1, 1, 1]) (.row [2, 2, 2])) = true := by kernel_rfl
set_option maxRecDepth 100000 in
theorem r14_20 : Go.Eng.isTrue (Go.Eng.twoRun Try.prog Go.Eng.noSums (⟨14, 16, 31, 37, 40⟩ : Go.Eng.Fns) 1000 60 12 (.row [2, 1, 1, 1]) (.row [3])) = true := by kernel_rfl
set_option maxRecDepth 100000 in
theorem r14_21 : Go.Eng.isTrue (Go.Eng.twoRun Try.prog Go.Eng.noSums (⟨14, 16, 31, 37, 40⟩ : Go.Eng.Fns) 1000 60 12 (.row [2, 1, 1, 1]) (.row [3, 1])) = true := by kernel_rfl
set_option maxRecDepth 100000 in
theorem r14_22 : Go.Eng.isTrue (Go.Eng.twoRun Try.prog Go.Eng.noSums (⟨14, 16, 31, 37, 40⟩ : Go.Eng.Fns) 1000 60 12 (.row [2, 1, 1, 1]) (.row [3, 1, 1])) = true := by kernel_rfl
set_option maxRecDepth 100000 in
theorem r14_23 : Go.Eng.isTrue (Go.Eng.twoRun Try.prog Go.Eng.noSums (⟨14, 16, 31, 37, 40⟩ : Go.Eng.Fns) 1000 60 12 (.row [2, 1, 1, 1]) (.row [3, 1, 1, 1])) = true := by kernel_rfl
set_option maxRecDepth 100000 in
theorem r14_24 : Go.Eng.isTrue (Go.Eng.twoRun Try.prog Go.Eng.noSums (⟨14, 16, 31, 37, 40⟩ : Go.Eng.Fns) 1000 60 12 (.row [2, 1, 1, 1]) (.row [3, 2])) = true := by kernel_rfl
set_option maxRecDepth 100000 in
theorem r14_25 : Go.Eng.isTrue (Go.Eng.twoRun Try.prog Go.Eng.noSums (⟨14, 16, 31, 37, 40⟩ : Go.Eng.Fns) 1000 60 12 (.row [2, 1, 1, 1]) (.row [3, 2, 1])) = true := by kernel_rfl
set_option maxRecDepth 100000 in
theorem r14_26 : Go.Eng.isTrue (Go.Eng.twoRun Try.prog Go.Eng.noSums (⟨14, 16, 31, 37, 40⟩ : Go.Eng.Fns) 1000 60 12 (.row [2, 1, 1, 1]) (.row [3, 3])) = true := by kernel_rfl
set_option maxRecDepth 100000 in
theorem r14_27 : Go.Eng.isTrue (Go.Eng.twoRun Try.prog Go.Eng.noSums (⟨14, 16, 31, 37, 40⟩ : Go.Eng.Fns) 1000 60 12 (.row [2, 1, 1, 1]) (.row [4])) = true := by kernel_rfl
set_option maxRecDepth 100000 in
theorem r14_28 : Go.Eng.isTrue (Go.Eng.twoRun Try.prog Go.Eng.noSums (⟨14, 16, 31, 37, 40⟩ : Go.Eng.Fns) 1000 60 12 (.row [2, 1, 1, 1]) (.row [4, 1])) = true := by kernel_rfl
set_option maxRecDepth 100000 in
theorem r14_29 : Go.Eng.isTrue (Go.Eng.twoRun Try.prog Go.Eng.noSums (⟨14, 16, 31, 37, 40⟩ : Go.Eng.Fns) 1000 60 12 (.row [2, 1, 1, 1]) (.row [4, 1, 1])) = true := by kernel_rfl
set_option maxRecDepth 100000 in
theorem r14_30 : Go.Eng.isTrue (Go.Eng.twoRun Try.prog Go.Eng.noSums (⟨14, 16, 31, 37, 40⟩ : Go.Eng.Fns) 1000 60 12 (.row [2, 1, 1, 1]) (.row [4, 2])) = true := by kernel_rfl
set_option maxRecDepth 100000 in
theorem r14_31 : Go.Eng.isTrue (Go.Eng.twoRun Try.prog Go.Eng.noSums (⟨14, 16, 31, 37, 40⟩ : Go.Eng.Fns) 1000 60 12 (.row [2, 1, 1, 1]) (.row [5])) = true := by kernel_rfl
set_option maxRecDepth 100000 in
theorem r14_32 : Go.Eng.isTrue (Go.Eng.twoRun Try.prog Go.Eng.noSums (⟨14, 16, 31, 37, 40⟩ : Go.Eng.Fns) 1000 60 12 (.row [2, 1, 1, 1]) (.row [5, 1])) = true := by kernel_rfl
set_option maxRecDepth 100000 in
theorem r14_33 : Go.Eng.isTrue (Go.Eng.twoRun Try.prog Go.Eng.noSums (⟨14, 16, 31, 37, 40⟩ : Go.Eng.Fns) 1000 60 12 (.row [2, 1, 1, 1]) (.row [6])) = true := by kernel_rfl
theorem r14 : Go.Eng.AllL (fun c => Go.Eng.isTrue (Go.Eng.twoRun Try.prog Go.Eng.noSums (⟨14, 16, 31, 37, 40⟩ : Go.Eng.Fns) 1000 60 12 (.row [2, 1, 1, 1]) c) = true) Go.Eng.classes := by
  unfold Go.Eng.classes
  rw [Go.Eng.shares_eq]
  exact ⟨r14_0, r14_1, r14_2, r14_3, r14_4, r14_5, r14_6, r14_7, r14_8, r14_9, r14_10, r14_11, r14_12, r14_13, r14_14, r14_15, r14_16, r14_17, r14_18, r14_19, r14_20, r14_21, r14_22, r14_23, r14_24, r14_25, r14_26, r14_27, r14_28, r14_29, r14_30, r14_31, r14_32, r14_33, trivial⟩
set_option maxRecDepth 100000 in
theorem r17_0 : Go.Eng.isTrue (Go.Eng.twoRun Try.prog Go.Eng.noSums (⟨14, 16, 31, 37, 40⟩ : Go.Eng.Fns) 1000 60 12 (.row [2, 2, 1]) .nil) = true := by kernel_rfl
set_option maxRecDepth 100000 in
theorem r17_1 : Go.Eng.isTrue (Go.Eng.twoRun Try.prog Go.Eng.noSums (⟨14, 16, 31, 37, 40⟩ : Go.Eng.Fns) 1000 60 12 (.row [2, 2, 1]) .zero) = true := by kernel_rfl
set_option maxRecDepth 100000 in
theorem r17_2 : Go.Eng.isTrue (Go.Eng.twoRun Try.prog Go.Eng.noSums (⟨14, 16, 31, 37, 40⟩ : Go.Eng.Fns) 1000 60 12 (.row [2, 2, 1]) .no) = true := by kernel_rfl
set_option maxRecDepth 100000 in
theorem r17_3 : Go.Eng.isTrue (Go.Eng.twoRun Try.prog Go.Eng.noSums (⟨14, 16, 31, 37, 40⟩ : Go.Eng.Fns) 1000 60 12 (.row [2, 2, 1]) .long) = true := by kernel_rfl
set_option maxRecDepth 100000 in
theorem r17_4 : Go.Eng.isTrue (Go.Eng.twoRun Try.prog Go.Eng.noSums (⟨14, 16, 31, 37, 40⟩ : Go.Eng.Fns) 1000 60 12 (.row [2, 2, 1]) (.row [])) = true := by kernel_rfl
set_option maxRecDepth 100000 in
theorem r17_5 : Go.Eng.isTrue (Go.Eng.twoRun Try.prog Go.Eng.noSums (⟨14, 16, 31, 37, 40⟩ : Go.Eng.Fns) 1000 60 12 (.row [2, 2, 1]) (.row [1])) = true := by kernel_rfl
set_option maxRecDepth 100000 in
theorem r17_6 : Go.Eng.isTrue (Go.Eng.twoRun Try.prog Go.Eng.noSums (⟨14, 16, 31, 37, 40⟩ : Go.Eng.Fns) 1000 60 12 (.row [2, 2, 1]) (.row [1, 1])) = true := by kernel_rfl
set_option maxRecDepth 100000 in
theorem r17_7 : Go.Eng.isTrue (Go.Eng.twoRun Try.prog Go.Eng.noSums (⟨14, 16, 31, 37, 40⟩ : Go.Eng.Fns) 1000 60 12 (.row [2, 2, 1]) (.row [1, 1, 1])) = true := by kernel_rfl
set_option maxRecDepth 100000 in
theorem r17_8 : Go.Eng.isTrue (Go.Eng.twoRun Try.prog Go.Eng.noSums (⟨14, 16, 31, 37, 40⟩ : Go.Eng.Fns) 1000 60 12 (.row [2, 2, 1]) (.row [1, 1, 1, 1])) = true := by kernel_rfl
set_option maxRecDepth 100000 in
theorem r17_9 : Go.Eng.isTrue (Go.Eng.twoRun Try.prog Go.Eng.noSums (⟨14, 16, 31, 37, 40⟩ : Go.Eng.Fns) 1000 60 12 (.row [2, 2, 1]) (.row [1, 1, 1, 1, 1])) = true := by kernel_rfl
set_option maxRecDepth 100000 in
theorem r17_10 : Go.Eng.isTrue (Go.Eng.twoRun Try.prog Go.Eng.noSums (⟨14, 16, 31, 37, 40⟩ : Go.Eng.Fns) 1000 60 12 (.row [2, 2, 1]) (.row [1, 1, 1, 1, 1, 1])) = true := by kernel_rfl
set_option maxRecDepth 100000 in
theorem r17_11 : Go.Eng.isTrue (Go.Eng.twoRun Try.prog Go.Eng.noSums (⟨14, 16, 31, 37, 40⟩ : Go.Eng.Fns) 1000 60 12 (.row [2, 2, 1]) (.row [2])) = true := by kernel_rfl
set_option maxRecDepth 100000 in
theorem r17_12 : Go.Eng.isTrue (Go.Eng.twoRun Try.prog Go.Eng.noSums (⟨14, 16, 31, 37, 40⟩ : Go.Eng.Fns) 1000 60 12 (.row [2, 2, 1]) (.row [2, 1])) = true := by kernel_rfl
set_option maxRecDepth 100000 in
theorem r17_13 : Go.Eng.isTrue (Go.Eng.twoRun Try.prog Go.Eng.noSums (⟨14, 16, 31, 37, 40⟩ : Go.Eng.Fns) 1000 60 12 (.row [2, 2, 1]) (.row [2, 1, 1])) = true := by kernel_rfl
set_option maxRecDepth 100000 in
theorem r17_14 : Go.Eng.isTrue (Go.Eng.twoRun Try.prog Go.Eng.noSums (⟨14, 16, 31, 37, 40⟩ : Go.Eng.Fns) 1000 60 12 (.row [2, 2, 1]) (.row [2, 1, 1, 1])) = true := by kernel_rfl
set_option maxRecDepth 100000 in
theorem r17_15 : Go.Eng.isTrue (Go.Eng.twoRun Try.prog Go.Eng.noSums (⟨14, 16, 31, 37, 40⟩ : Go.Eng.Fns) 1000 60 12 (.row [2, 2, 1]) (.row [2, 1, 1, 1, 1])) = true := by kernel_rfl
set_option maxRecDepth 100000 in
theorem r17_16 : Go.Eng.isTrue (Go.Eng.twoRun Try.prog Go.Eng.noSums (⟨14, 16, 31, 37, 40⟩ : Go.Eng.Fns) 1000 60 12 (.row [2, 2, 1]) (.row [2, 2])) = true := by kernel_rfl
set_option maxRecDepth 100000 in
theorem r17_17 : Go.Eng.isTrue (Go.Eng.twoRun Try.prog Go.Eng.noSums (⟨14, 16, 31, 37, 40⟩ : Go.Eng.Fns) 1000 60 12 (.row [2, 2, 1]) (.row [2, 2, 1])) = true := by kernel_rfl
set_option maxRecDepth 100000 in
theorem r17_18 : Go.Eng.isTrue (Go.Eng.twoRun Try.prog Go.Eng.noSums (⟨14, 16, 31, 37, 40⟩ : Go.Eng.Fns) 1000 60 12 (.row [2, 2, 1]) (.row [2, 2, 1, 1])) = true := by kernel_rfl
set_option maxRecDepth 100000 in
theorem r17_19 : Go.Eng.isTrue (Go.Eng.twoRun Try.prog Go.Eng.noSums (⟨14, 16, 31, 37, 40⟩ : Go.Eng.Fns) 1000 60 12 (.row [2, 2, 1]) (.row [2, 2, 2])) = true := by kernel_rfl
set_option maxRecDepth 100000 in
theorem r17_20 : Go.Eng.isTrue (Go.Eng.twoRun Try.prog Go.Eng.noSums (⟨14, 16, 31, 37, 40⟩ : Go.Eng.Fns) 1000 60 12 (.row [2, 2, 1]) (.row [3])) = true := by kernel_rfl
set_option maxRecDepth 100000 in
theorem r17_21 : Go.Eng.isTrue (Go.Eng.twoRun Try.prog Go.Eng.noSums (⟨14, 16, 31, 37, 40⟩ : Go.Eng.Fns) 1000 60 12 (.row [2, 2, 1]) (.row [3, 1])) = true := by kernel_rfl
set_option maxRecDepth 100000 in
theorem r17_22 : Go.Eng.isTrue (Go.Eng.twoRun Try.prog Go.Eng.noSums (⟨14, 16, 31, 37, 40⟩ : Go.Eng.Fns) 1000 60 12 (.row [2, 2, 1]) (.row [3, 1, 1])) = true := by kernel_rfl
set_option maxRecDepth 100000 in
theorem r17_23 : Go.Eng.isTrue (Go.Eng.twoRun Try.prog Go.Eng.noSums (⟨14, 16, 31, 37, 40⟩ : Go.Eng.Fns) 1000 60 12 (.row [2, 2, 1]) (.row [3, 1, 1, 1])) = true := by kernel_rfl
set_option maxRecDepth 100000 in
theorem r17_24 : Go.Eng.isTrue (Go.Eng.twoRun Try.prog Go.Eng.noSums (⟨14, 16, 31, 37, 40⟩ : Go.Eng.Fns) 1000 60 12 (.row [2, 2, 1]) (.row [3, 2])) = true := by kernel_rfl
set_option maxRecDepth 100000 in
theorem r17_25 : Go.Eng.isTrue (Go.Eng.twoRun Try.prog Go.Eng.noSums (⟨14, 16, 31, 37, 40⟩ : Go.Eng.Fns) 1000 60 12 (.row [2, 2, 1]) (.row [3, 2, 1])) = true := by kernel_rfl
set_option maxRecDepth 100000 in
theorem r17_26 : Go.Eng.isTrue (Go.Eng.twoRun Try.prog Go.Eng.noSums (⟨14, 16, 31, 37, 40⟩ : Go.Eng.Fns) 1000 60 12 (.row [2, 2, 1]) (.row [3, 3])) = true := by kernel_rfl
set_option maxRecDepth 100000 in
theorem r17_27 : Go.Eng.isTrue (Go.Eng.twoRun Try.prog Go.Eng.noSums (⟨14, 16, 31, 37, 40⟩ : Go.Eng.Fns) 1000 60 12 (.row [2, 2, 1]) (.row [4])) = true := by kernel_rfl
set_option maxRecDepth 100000 in
theorem r17_28 : Go.Eng.isTrue (Go.Eng.twoRun Try.prog Go.Eng.noSums (⟨14, 16, 31, 37, 40⟩ : Go.Eng.Fns) 1000 60 12 (.row [2, 2, 1]) (.row [4, 1])) = true := by kernel_rfl
set_option maxRecDepth 100000 in
theorem r17_29 : Go.Eng.isTrue (Go.Eng.twoRun Try.prog Go.Eng.noSums (⟨14, 16, 31, 37, 40⟩ : Go.Eng.Fns) 1000 60 12 (.row [2, 2, 1]) (.row [4, 1, 1])) = true := by kernel_rfl
set_option maxRecDepth 100000 in
theorem r17_30 : Go.Eng.isTrue (Go.Eng.twoRun Try.prog Go.Eng.noSums (⟨14, 16, 31, 37, 40⟩ : Go.Eng.Fns) 1000 60 12 (.row [2, 2, 1]) (.row [4, 2])) = true := by kernel_rfl
set_option maxRecDepth 100000 in
theorem r17_31 : Go.Eng.isTrue (Go.Eng.twoRun Try.prog Go.Eng.noSums (⟨14, 16, 31, 37, 40⟩ : Go.Eng.Fns) 1000 60 12 (.row [2, 2, 1]) (.row [5])) = true := by kernel_rfl
set_option maxRecDepth 100000 in
theorem r17_32 : Go.Eng.isTrue (Go.Eng.twoRun Try.prog Go.Eng.noSums (⟨14, 16, 31, 37, 40⟩ : Go.Eng.Fns) 1000 60 12 (.row [2, 2, 1]) (.row [5, 1])) = true := by kernel_rfl
set_option maxRecDepth 100000 in
theorem r17_33 : Go.Eng.isTrue (Go.Eng.twoRun Try.prog Go.Eng.noSums (⟨14, 16, 31, 37, 40⟩ : Go.Eng.Fns) 1000 60 12 (.row [2, 2, 1]) (.row [6])) = true := by kernel_rfl
theorem r17 : Go.Eng.AllL (fun c => Go.Eng.isTrue (Go.Eng.twoRun Try.prog Go.Eng.noSums (⟨14, 16, 31, 37, 40⟩ : Go.Eng.Fns) 1000 60 12 (.row [2, 2, 1]) c) = true) Go.Eng.classes := by
  unfold Go.Eng.classes
  rw [Go.Eng.shares_eq]
  exact ⟨r17_0, r17_1, r17_2, r17_3, r17_4, r17_5, r17_6, r17_7, r17_8, r17_9, r17_10, r17_11, r17_12, r17_13, r17_14, r17_15, r17_16, r17_17, r17_18, r17_19, r17_20, r17_21, r17_22, r17_23, r17_24, r17_25, r17_26, r17_27, r17_28, r17_29, r17_30, r17_31, r17_32, r17_33, trivial⟩
set_option maxRecDepth 100000 in
theorem r20_0 : Go.Eng.isTrue (Go.Eng.twoRun Try.prog Go.Eng.noSums (⟨14, 16, 31, 37, 40⟩ : Go.Eng.Fns) 1000 60 12 (.row [3]) .nil) = true := by kernel_rfl
set_option maxRecDepth 100000 in
theorem r20_1 : Go.Eng.isTrue (Go.Eng.twoRun Try.prog Go.Eng.noSums (⟨14, 16, 31, 37, 40⟩ : Go.Eng.Fns) 1000 60 12 (.row [3]) .zero) = true := by kernel_rfl
set_option maxRecDepth 100000 in
theorem r20_2 : Go.Eng.isTrue (Go.Eng.twoRun Try.prog Go.Eng.noSums (⟨14, 16, 31, 37, 40⟩ : Go.Eng.Fns) 1000 60 12 (.row [3]) .no) = true := by kernel_rfl
set_option maxRecDepth 100000 in
theorem r20_3 : Go.Eng.isTrue (Go.Eng.twoRun Try.prog Go.Eng.noSums (⟨14, 16, 31, 37, 40⟩ : Go.Eng.Fns) 1000 60 12 (.row [3]) .long) = true := by kernel_rfl
set_option maxRecDepth 100000 in
theorem r20_4 : Go.Eng.isTrue (Go.Eng.twoRun Try.prog Go.Eng.noSums (⟨14, 16, 31, 37, 40⟩ : Go.Eng.Fns) 1000 60 12 (.row [3]) (.row [])) = true := by kernel_rfl
set_option maxRecDepth 100000 in
theorem r20_5 : Go.Eng.isTrue (Go.Eng.twoRun Try.prog Go.Eng.noSums (⟨14, 16, 31, 37, 40⟩ : Go.Eng.Fns) 1000 60 12 (.row [3]) (.row [1])) = true := by kernel_rfl
set_option maxRecDepth 100000 in
theorem r20_6 : Go.Eng.isTrue (Go.Eng.twoRun Try.prog Go.Eng.noSums (⟨14, 16, 31, 37, 40⟩ : Go.Eng.Fns) 1000 60 12 (.row [3]) (.row [1, 1])) = true := by kernel_rfl
set_option maxRecDepth 100000 in
theorem r20_7 : Go.Eng.isTrue (Go.Eng.twoRun Try.prog Go.Eng.noSums (⟨14, 16, 31, 37, 40⟩ : Go.Eng.Fns) 1000 60 12 (.row [3]) (.row [1, 1, 1])) = true := by kernel_rfl
set_option maxRecDepth 100000 in
theorem r20_8 : Go.Eng.isTrue (Go.Eng.twoRun Try.prog Go.Eng.noSums (⟨14, 16, 31, 37, 40⟩ : Go.Eng.Fns) 1000 60 12 (.row [3]) (.row [1, 1, 1, 1])) = true := by kernel_rfl
set_option maxRecDepth 100000 in
theorem r20_9 : Go.Eng.isTrue (Go.Eng.twoRun Try.prog Go.Eng.noSums (⟨14, 16, 31, 37, 40⟩ : Go.Eng.Fns) 1000 60 12 (.row [3]) (.row [1, 1, 1, 1, 1])) = true := by kernel_rfl
set_option maxRecDepth 100000 in
theorem r20_10 : Go.Eng.isTrue (Go.Eng.twoRun Try.prog Go.Eng.noSums (⟨14, 16, 31, 37, 40⟩ : Go.Eng.Fns) 1000 60 12 (.row [3]) (.row [1, 1, 1, 1, 1, 1])) = true := by kernel_rfl
set_option maxRecDepth 100000 in
theorem r20_11 : Go.Eng.isTrue (Go.Eng.twoRun Try.prog Go.Eng.noSums (⟨14, 16, 31, 37, 40⟩ : Go.Eng.Fns) 1000 60 12 (.row [3]) (.row [2])) = true := by kernel_rfl
set_option maxRecDepth 100000 in
theorem r20_12 : Go.Eng.isTrue (Go.Eng.twoRun Try.prog Go.Eng.noSums (⟨14, 16, 31, 37, 40⟩ : Go.Eng.Fns) 1000 60 12 (.row [3]) (.row [2, 1])) = true := by kernel_rfl
set_option maxRecDepth 100000 in
theorem r20_13 : Go.Eng.isTrue (Go.Eng.twoRun Try.prog Go.Eng.noSums (⟨14, 16, 31, 37, 40⟩ : Go.Eng.Fns) 1000 60 12 (.row [3]) (.row [2, 1, 1])) = true := by kernel_rfl
set_option maxRecDepth 100000 in
theorem r20_14 : Go.Eng.isTrue (Go.Eng.twoRun Try.prog Go.Eng.noSums (⟨14, 16, 31, 37, 40⟩ : Go.Eng.Fns) 1000 60 12 (.row [3]) (.row [2, 1, 1, 1])) = true := by kernel_rfl
set_option maxRecDepth 100000 in
theorem r20_15 : Go.Eng.isTrue (Go.Eng.twoRun Try.prog Go.Eng.noSums (⟨14, 16, 31, 37, 40⟩ : Go.Eng.Fns) 1000 60 12 (.row [3]) (.row [2, 1, 1, 1, 1])) = true := by kernel_rfl
set_option maxRecDepth 100000 in
theorem r20_16 : Go.Eng.isTrue (Go.Eng.twoRun Try.prog Go.Eng.noSums (⟨14, 16, 31, 37, 40⟩ : Go.Eng.Fns) 1000 60 12 (.row [3]) (.row [2, 2])) = true := by kernel_rfl
set_option maxRecDepth 100000 in
theorem r20_17 : Go.Eng.isTrue (Go.Eng.twoRun Try.prog Go.Eng.noSums (⟨14, 16, 31, 37, 40⟩ : Go.Eng.Fns) 1000 60 12 (.row [3]) (.row [2, 2, 1])) = true := by kernel_rfl
set_option maxRecDepth 100000 in
theorem r20_18 : Go.Eng.isTrue (Go.Eng.twoRun Try.prog Go.Eng.noSums (⟨14, 16, 31, 37, 40⟩ : Go.Eng.Fns) 1000 60 12 (.row [3]) (.row [2, 2, 1, 1])) = true := by kernel_rfl
set_option maxRecDepth 100000 in
theorem r20_19 : Go.Eng.isTrue (Go.Eng.twoRun Try.prog Go.Eng.noSums (⟨14, 16, 31, 37, 40⟩ : Go.Eng.Fns) 1000 60 12 (.row [3]) (.row [2, 2, 2])) = true := by kernel_rfl
set_option maxRecDepth 100000 in
theorem r20_20 : Go.Eng.isTrue (Go.Eng.twoRun Try.prog Go.Eng.noSums (⟨14, 16, 31, 37, 40⟩ : Go.Eng.Fns) 1000 60 12 (.row [3]) (.row [3])) = true := by kernel_rfl
set_option maxRecDepth 100000 in
theorem r20_21 : Go.Eng.isTrue (Go.Eng.twoRun Try.prog Go.Eng.noSums (⟨14, 16, 31, 37, 40⟩ : Go.Eng.Fns) 1000 60 12 (.row [3]) (.row [3, 1])) = true := by kernel_rfl
set_option maxRecDepth 100000 in
theorem r20_22 : Go.Eng.isTrue (Go.Eng.twoRun Try.prog Go.Eng.noSums (⟨14, 16, 31, 37, 40⟩ : Go.Eng.Fns) 1000 60 12 (.row [3]) (.row [3, 1, 1])) = true := by kernel_rfl
set_option maxRecDepth 100000 in
theorem r20_23 : Go.Eng.isTrue (Go.Eng.twoRun Try.prog Go.Eng.noSums (⟨14, 16, 31, 37, 40⟩ : Go.Eng.Fns) 1000 60 12 (.row [3]) (.row [3, 1, 1, 1])) = true := by kernel_rfl
set_option maxRecDepth 100000 in
theorem r20_24 : Go.Eng.isTrue (Go.Eng.twoRun Try.prog Go.Eng.noSums (⟨14, 16, 31, 37, 40⟩ : Go.Eng.Fns) 1000 60 12 (.row [3]) (.row [3, 2])) = true := by kernel_rfl
set_option maxRecDepth 100000 in
theorem r20_25 : Go.Eng.isTrue (Go.Eng.twoRun Try.prog Go.Eng.noSums (⟨14, 16, 31, 37, 40⟩ : Go.Eng.Fns) 1000 60 12 (.row [3]) (.row [3, 2, 1])) = true := by kernel_rfl
set_option maxRecDepth 100000 in
theorem r20_26 : Go.Eng.isTrue (Go.Eng.twoRun Try.prog Go.Eng.noSums (⟨14, 16, 31, 37, 40⟩ : Go.Eng.Fns) 1000 60 12 (.row [3]) (.row [3, 3])) = true := by kernel_rfl
set_option maxRecDepth 100000 in
theorem r20_27 : Go.Eng.isTrue (Go.Eng.twoRun Try.prog Go.Eng.noSums (⟨14, 16, 31, 37, 40⟩ : Go.Eng.Fns) 1000 60 12 (.row [3]) (.row [4])) = true := by kernel_rfl
set_option maxRecDepth 100000 in
theorem r20_28 : Go.Eng.isTrue (Go.Eng.twoRun Try.prog Go.Eng.noSums (⟨14, 16, 31, 37, 40⟩ : Go.Eng.Fns) 1000 60 12 (.row [3]) (.row [4, 1])) = true := by kernel_rfl
set_option maxRecDepth 100000 in
theorem r20_29 : Go.Eng.isTrue (Go.Eng.twoRun Try.prog Go.Eng.noSums (⟨14, 16, 31, 37, 40⟩ : Go.Eng.Fns) 1000 60 12 (.row [3]) (.row [4, 1, 1])) = true := by kernel_rfl
set_option maxRecDepth 100000 in
theorem r20_30 : Go.Eng.isTrue (Go.Eng.twoRun Try.prog Go.Eng.noSums (⟨14, 16, 31, 37, 40⟩ : Go.Eng.Fns) 1000 60 12 (.row [3]) (.row [4, 2])) = true := by kernel_rfl
set_option maxRecDepth 100000 in
theorem r20_31 : Go.Eng.isTrue (Go.Eng.twoRun Try.prog Go.Eng.noSums (⟨14, 16, 31, 37, 40⟩ : Go.Eng.Fns) 1000 60 12 (.row [3]) (.row [5])) = true := by kernel_rfl
set_option maxRecDepth 100000 in
theorem r20_32 : Go.Eng.isTrue (Go.Eng.twoRun Try.prog Go.Eng.noSums (⟨14, 16, 31, 37, 40⟩ : Go.Eng.Fns) 1000 60 12 (.row [3]) (.row [5, 1])) = true := by kernel_rfl
set_option maxRecDepth 100000 in
theorem r20_33 : Go.Eng.isTrue (Go.Eng.twoRun Try.prog Go.Eng.noSums (⟨14, 16, 31, 37, 40⟩ : Go.Eng.Fns) 1000 60 12 (.row [3]) (.row [6])) = true := by kernel_rfl
theorem r20 : Go.Eng.AllL (fun c => Go.Eng.isTrue (Go.Eng.twoRun Try.prog Go.Eng.noSums (⟨14, 16, 31, 37, 40⟩ : Go.Eng.Fns) 1000 60 12 (.row [3]) c) = true) Go.Eng.classes := by
  unfold Go.Eng.classes
  rw [Go.Eng.shares_eq]
  exact ⟨r20_0, r20_1, r20_2, r20_3, r20_4, r20_5, r20_6, r20_7, r20_8, r20_9, r20_10, r20_11, r20_12, r20_13, r20_14, r20_15, r20_16, r20_17, r20_18, r20_19, r20_20, r20_21, r20_22, r20_23, r20_24, r20_25, r20_26, r20_27, r20_28, r20_29, r20_30, r20_31, r20_32, r20_33, trivial⟩
set_option maxRecDepth 100000 in
theorem r23_0 : Go.Eng.isTrue (Go.Eng.twoRun Try.prog Go.Eng.noSums (⟨14, 16, 31, 37, 40⟩ : Go.Eng.Fns) 1000 60 12 (.row [3, 1, 1, 1]) .nil) = true := by kernel_rfl
set_option maxRecDepth 100000 in
theorem r23_1 : Go.Eng.isTrue (Go.Eng.twoRun Try.prog Go.Eng.noSums (⟨14, 16, 31, 37, 40⟩ : Go.Eng.Fns) 1000 60 12 (.row [3, 1, 1, 1]) .zero) = true := by kernel_rfl
set_option maxRecDepth 100000 in
theorem r23_2 : Go.Eng.isTrue (Go.Eng.twoRun Try.prog Go.Eng.noSums (⟨14, 16, 31, 37, 40⟩ : Go.Eng.Fns) 1000 60 12 (.row [3, 1, 1, 1]) .no) = true := by kernel_rfl
set_option maxRecDepth 100000 in
theorem r23_3 : Go.Eng.isTrue (Go.Eng.twoRun Try.prog Go.Eng.noSums (⟨14, 16, 31, 37, 40⟩ : Go.Eng.Fns) 1000 60 12 (.row [3, 1, 1, 1]) .long) = true := by kernel_rfl
set_option maxRecDepth 100000 in
theorem r23_4 : Go.Eng.isTrue (Go.Eng.twoRun Try.prog Go.Eng.noSums (⟨14, 16, 31, 37, 40⟩ : Go.Eng.Fns) 1000 60 12 (.row [3, 1, 1, 1]) (.row [])) = true := by kernel_rfl
set_option maxRecDepth 100000 in
theorem r23_5 : Go.Eng.isTrue (Go.Eng.twoRun Try.prog Go.Eng.noSums (⟨14, 16, 31, 37, 40⟩ : Go.Eng.Fns) 1000 60 12 (.row [3, 1, 1, 1]) (.row [1])) = true := by kernel_rfl
set_option maxRecDepth 100000 in
theorem r23_6 : Go.Eng.isTrue (Go.Eng.twoRun Try.prog Go.Eng.noSums (⟨14, 16, 31, 37, 40⟩ : Go.Eng.Fns) 1000 60 12 (.row [3, 1, 1, 1]) (.row [1, 1])) = true := by kernel_rfl
set_option maxRecDepth 100000 in
theorem r23_7 : Go.Eng.isTrue (Go.Eng.twoRun Try.prog Go.Eng.noSums (⟨14, 16, 31, 37, 40⟩ : Go.Eng.Fns) 1000 60 12 (.row [3, 1, 1, 1]) (.row [1, 1, 1])) = true := by kernel_rfl
set_option maxRecDepth 100000 in
theorem r23_8 : Go.Eng.isTrue (Go.Eng.twoRun Try.prog Go.Eng.noSums (⟨14, 16, 31, 37, 40⟩ : Go.Eng.Fns) 1000 60 12 (.row [3, 1, 1, 1]) (.row [1, 1, 1, 1])) = true := by kernel_rfl
set_option maxRecDepth 100000 in
theorem r23_9 : Go.Eng.isTrue (Go.Eng.twoRun Try.prog Go.Eng.noSums (⟨14, 16, 31, 37, 40⟩ : Go.Eng.Fns) 1000 60 12 (.row [3, 1, 1, 1]) (.row [1, 1, 1, 1, 1])) = true := by kernel_rfl
set_option maxRecDepth 100000 in
theorem r23_10 : Go.Eng.isTrue (Go.Eng.twoRun Try.prog Go.Eng.noSums (⟨14, 16, 31, 37, 40⟩ : Go.Eng.Fns) 1000 60 12 (.row [3, 1, 1, 1]) (.row [1, 1, 1, 1, 1, 1])) = true := by kernel_rfl
set_option maxRecDepth 100000 in
theorem r23_11 : Go.Eng.isTrue (Go.Eng.twoRun Try.prog Go.Eng.noSums (⟨14, 16, 31, 37, 40⟩ : Go.Eng.Fns) 1000 60 12 (.row [3, 1, 1, 1]) (.row [2])) = true := by kernel_rfl
set_option maxRecDepth 100000 in
theorem r23_12 : Go.Eng.isTrue (Go.Eng.twoRun Try.prog Go.Eng.noSums (⟨14, 16, 31, 37, 40⟩ : Go.Eng.Fns) 1000 60 12 (.row [3, 1, 1, 1]) (.row [2, 1])) = true := by kernel_rfl
set_option maxRecDepth 100000 in
theorem r23_13 : Go.Eng.isTrue (Go.Eng.twoRun Try.prog Go.Eng.noSums (⟨14, 16, 31, 37, 40⟩ : Go.Eng.Fns) 1000 60 12 (.row [3, 1, 1, 1]) (.row [2, 1, 1])) = true := by kernel_rfl
set_option maxRecDepth 100000 in
theorem r23_14 : Go.Eng.isTrue (Go.Eng.twoRun Try.prog Go.Eng.noSums (⟨14, 16, 31, 37, 40⟩ : Go.Eng.Fns) 1000 60 12 (.row [3, 1, 1, 1]) (.row [2, 1, 1, 1])) = true := by kernel_rfl
set_option maxRecDepth 100000 in
theorem r23_15 : Go.Eng.isTrue (Go.Eng.twoRun Try.prog Go.Eng.noSums (⟨14, 16, 31, 37, 40⟩ : Go.Eng.Fns) 1000 60 12 (.row [3, 1, 1, 1]) (.row [2, 1, 1, 1, 1])) = true := by kernel_rfl
set_option maxRecDepth 100000 in
theorem r23_16 : Go.Eng.isTrue (Go.Eng.twoRun Try.prog Go.Eng.noSums (⟨14, 16, 31, 37, 40⟩ : Go.Eng.Fns) 1000 60 12 (.row [3, 1, 1, 1]) (.row [2, 2])) = true := by kernel_rfl
set_option maxRecDepth 100000 in
theorem r23_17 : Go.Eng.isTrue (Go.Eng.twoRun Try.prog Go.Eng.noSums (⟨14, 16, 31, 37, 40⟩ : Go.Eng.Fns) 1000 60 12 (.row [3, 1, 1, 1]) (.row [2, 2, 1])) = true := by kernel_rfl
set_option maxRecDepth 100000 in
theorem r23_18 : Go.Eng.isTrue (Go.Eng.twoRun Try.prog Go.Eng.noSums (⟨14, 16, 31, 37, 40⟩ : Go.Eng.Fns) 1000 60 12 (.row [3, 1, 1, 1]) (.row [2, 2, 1, 1])) = true := by kernel_rfl
set_option maxRecDepth 100000 in
theorem r23_19 : Go.Eng.isTrue (Go.Eng.twoRun Try.prog Go.Eng.noSums (⟨14, 16, 31, 37, 40⟩ : Go.Eng.Fns) 1000 60 12 (.row [3, 1, 1, 1]) (.row [2, 2, 2])) = true := by kernel_rfl
set_option maxRecDepth 100000 in
theorem r23_20 : Go.Eng.isTrue (Go.Eng.twoRun Try.prog Go.Eng.noSums (⟨14, 16, 31, 37, 40⟩ : Go.Eng.Fns) 1000 60 12 (.row [3, 1, 1, 1]) (.row [3])) = true := by kernel_rfl
set_option maxRecDepth 100000 in
theorem r23_21 : Go.Eng.isTrue (Go.Eng.twoRun Try.prog Go.Eng.noSums (⟨14, 16, 31, 37, 40⟩ : Go.Eng.Fns) 1000 60 12 (.row [3, 1, 1, 1]) (.row [3, 1])) = true := by kernel_rfl
set_option maxRecDepth 100000 in
theorem r23_22 : Go.Eng.isTrue (Go.Eng.twoRun Try.prog Go.Eng.noSums (⟨14, 16, 31, 37, 40⟩ : Go.Eng.Fns) 1000 60 12 (.row [3, 1, 1, 1]) (.row [3, 1, 1])) = true := by kernel_rfl
set_option maxRecDepth 100000 in
theorem r23_23 : Go.Eng.isTrue (Go.Eng.twoRun Try.prog Go.Eng.noSums (⟨14, 16, 31, 37, 40⟩ : Go.Eng.Fns) 1000 60 12 (.row [3, 1, 1, 1]) (.row [3, 1, 1, 1])) = true := by kernel_rfl
set_option maxRecDepth 100000 in
theorem r23_24 : Go.Eng.isTrue (Go.Eng.twoRun Try.prog Go.Eng.noSums (⟨14, 16, 31, 37, 40⟩ : Go.Eng.Fns) 1000 60 12 (.row [3, 1, 1, 1]) (.row [3, 2])) = true := by kernel_rfl
set_option maxRecDepth 100000 in
theorem r23_25 : Go.Eng.isTrue (Go.Eng.twoRun Try.prog Go.Eng.noSums (⟨14, 16, 31, 37, 40⟩ : Go.Eng.Fns) 1000 60 12 (.row [3, 1, 1, 1]) (.row [3, 2, 1])) = true := by kernel_rfl
set_option maxRecDepth 100000 in
theorem r23_26 : Go.Eng.isTrue (Go.Eng.twoRun Try.prog Go.Eng.noSums (⟨14, 16, 31, 37, 40⟩ : Go.Eng.Fns) 1000 60 12 (.row [3, 1, 1, 1]) (.row [3, 3])) = true := by kernel_rfl
set_option maxRecDepth 100000 in
theorem r23_27 : Go.Eng.isTrue (Go.Eng.twoRun Try.prog Go.Eng.noSums (⟨14, 16, 31, 37, 40⟩ : Go.Eng.Fns) 1000 60 12 (.row [3, 1, 1, 1]) (.row [4])) = true := by kernel_rfl
set_option maxRecDepth 100000 in
theorem r23_28 : Go.Eng.isTrue (Go.Eng.twoRun Try.prog Go.Eng.noSums (⟨14, 16, 31, 37, 40⟩ : Go.Eng.Fns) 1000 60 12 (.row [3, 1, 1, 1]) (.row [4, 1])) = true := by kernel_rfl
set_option maxRecDepth 100000 in
theorem r23_29 : Go.Eng.isTrue (Go.Eng.twoRun Try.prog Go.Eng.noSums (⟨14, 16, 31, 37, 40⟩ : Go.Eng.Fns) 1000 60 12 (.row [3, 1, 1, 1]) (.row [4, 1, 1])) = true := by kernel_rfl
set_option maxRecDepth 100000 in
theorem r23_30 : Go.Eng.isTrue (Go.Eng.twoRun Try.prog Go.Eng.noSums (⟨14, 16, 31, 37, 40⟩ : Go.Eng.Fns) 1000 60 12 (.row [3, 1, 1, 1]) (.row [4, 2])) = true := by kernel_rfl
set_option maxRecDepth 100000 in
theorem r23_31 : Go.Eng.isTrue (Go.Eng.twoRun Try.prog Go.Eng.noSums (⟨14, 16, 31, 37, 40⟩ : Go.Eng.Fns) 1000 60 12 (.row [3, 1, 1, 1]) (.row [5])) = true := by kernel_rfl
set_option maxRecDepth 100000 in
theorem r23_32 : Go.Eng.isTrue (Go.Eng.twoRun Try.prog Go.Eng.noSums (⟨14, 16, 31, 37, 40⟩ : Go.Eng.Fns) 1000 60 12 (.row [3, 1, 1, 1]) (.row [5, 1])) = true := by kernel_rfl
set_option maxRecDepth 100000 in
theorem r23_33 : Go.Eng.isTrue (Go.Eng.twoRun Try.prog Go.Eng.noSums (⟨14, 16, 31, 37, 40⟩ : Go.Eng.Fns) 1000 60 12 (.row [3, 1, 1, 1]) (.row [6])) = true := by kernel_rfl
theorem r23 : Go.Eng.AllL (fun c => Go.Eng.isTrue (Go.Eng.twoRun Try.prog Go.Eng.noSums (⟨14, 16, 31, 37, 40⟩ : Go.Eng.Fns) 1000 60 12 (.row [3, 1, 1, 1]) c) = true) Go.Eng.classes := by
  unfold Go.Eng.classes
  rw [Go.Eng.shares_eq]
  exact ⟨r23_0, r23_1, r23_2, r23_3, r23_4, r23_5, r23_6, r23_7, r23_8, r23_9, r23_10, r23_11, r23_12, r23_13, r23_14, r23_15, r23_16, r23_17, r23_18, r23_19, r23_20, r23_21, r23_22, r23_23, r23_24, r23_25, r23_26, r23_27, r23_28, r23_29, r23_30, r23_31, r23_32, r23_33, trivial⟩
set_option maxRecDepth 100000 in
theorem r26_0 : Go.Eng.isTrue (Go.Eng.twoRun Try.prog Go.Eng.noSums (⟨14, 16, 31, 37, 40⟩ : Go.Eng.Fns) 1000 60 12 (.row [3, 3]) .nil) = true := by kernel_rfl
set_option maxRecDepth 100000 in
theorem r26_1 : Go.Eng.isTrue (Go.Eng.twoRun Try.prog Go.Eng.noSums (⟨14, 16, 31, 37, 40⟩ : Go.Eng.Fns) 1000 60 12 (.row [3, 3]) .zero) = true := by kernel_rfl
set_option maxRecDepth 100000 in
theorem r26_2 : Go.Eng.isTrue (Go.Eng.twoRun Try.prog Go.Eng.noSums (⟨14, 16, 31, 37, 40⟩ : Go.Eng.Fns) 1000 60 12 (.row [3, 3]) .no) = true := by kernel_rfl
set_option maxRecDepth 100000 in
theorem r26_3 : Go.Eng.isTrue (Go.Eng.twoRun Try.prog Go.Eng.noSums (⟨14, 16, 31, 37, 40⟩ : Go.Eng.Fns) 1000 60 12 (.row [3, 3]) .long) = true := by kernel_rfl
set_option maxRecDepth 100000 in
theorem r26_4 : Go.Eng.isTrue (Go.Eng.twoRun Try.prog Go.Eng.noSums (⟨14, 16, 31, 37, 40⟩ : Go.Eng.Fns) 1000 60 12 (.row [3, 3]) (.row [])) = true := by kernel_rfl
set_option maxRecDepth 100000 in
theorem r26_5 : Go.Eng.isTrue (Go.Eng.twoRun Try.prog Go.Eng.noSums (⟨14, 16, 31, 37, 40⟩ : Go.Eng.Fns) 1000 60 12 (.row [3, 3]) (.row [1])) = true := by kernel_rfl
set_option maxRecDepth 100000 in
theorem r26_6 : Go.Eng.isTrue (Go.Eng.twoRun Try.prog Go.Eng.noSums (⟨14, 16, 31, 37, 40⟩ : Go.Eng.Fns) 1000 60 12 (.row [3, 3]) (.row [1, 1])) = true := by kernel_rfl
set_option maxRecDepth 100000 in
theorem r26_7 : Go.Eng.isTrue (Go.Eng.twoRun Try.prog Go.Eng.noSums (⟨14, 16, 31, 37, 40⟩ : Go.Eng.Fns) 1000 60 12 (.row [3, 3]) (.row [1, 1, 1])) = true := by kernel_rfl
set_option maxRecDepth 100000 in
theorem r26_8 : Go.Eng.isTrue (Go.Eng.twoRun Try.prog Go.Eng.noSums (⟨14, 16, 31, 37, 40⟩ : Go.Eng.Fns) 1000 60 12 (.row [3, 3]) (.row [1, 1, 1, 1])) = true := by kernel_rfl
set_option maxRecDepth 100000 in
theorem r26_9 : Go.Eng.isTrue (Go.Eng.twoRun Try.prog Go.Eng.noSums (⟨14, 16, 31, 37, 40⟩ : Go.Eng.Fns) 1000 60 12 (.row [3, 3]) (.row [1, 1, 1, 1, 1])) = true := by kernel_rfl
set_option maxRecDepth 100000 in
theorem r26_10 : Go.Eng.isTrue (Go.Eng.twoRun Try.prog Go.Eng.noSums (⟨14, 16, 31, 37, 40⟩ : Go.Eng.Fns) 1000 60 12 (.row [3, 3]) (.row [1, 1, 1, 1, 1, 1])) = true := by kernel_rfl
set_option maxRecDepth 100000 in
theorem r26_11 : Go.Eng.isTrue (Go.Eng.twoRun Try.prog Go.Eng.noSums (⟨14, 16, 31, 37, 40⟩ : Go.Eng.Fns) 1000 60 12 (.row [3, 3]) (.row [2])) = true := by kernel_rfl
set_option maxRecDepth 100000 in
theorem r26_12 : Go.Eng.isTrue (Go.Eng.twoRun Try.prog Go.Eng.noSums (⟨14, 16, 31, 37, 40⟩ : Go.Eng.Fns) 1000 60 12 (.row [3, 3]) (.row [2, 1])) = true := by kernel_rfl
set_option maxRecDepth 100000 in
theorem r26_13 : Go.Eng.isTrue (Go.Eng.twoRun Try.prog Go.Eng.noSums (⟨14, 16, 31, 37, 40⟩ : Go.Eng.Fns) 1000 60 12 (.row [3, 3]) (.row [2, 1, 1])) = true := by kernel_rfl
set_option maxRecDepth 100000 in
theorem r26_14 : Go.Eng.isTrue (Go.Eng.twoRun Try.prog Go.Eng.noSums (⟨14, 16, 31, 37, 40⟩ : Go.Eng.Fns) 1000 60 12 (.row [3, 3]) (.row [2, 1, 1, 1])) = true := by kernel_rfl
set_option maxRecDepth 100000 in
theorem r26_15 : Go.Eng.isTrue (Go.Eng.twoRun Try.prog Go.Eng.noSums (⟨14, 16, 31, 37, 40⟩ : Go.Eng.Fns) 1000 60 12 (.row [3, 3]) (.row [2, 1, 1, 1, 1])) = true := by kernel_rfl
set_option maxRecDepth 100000 in
theorem r26_16 : Go.Eng.isTrue (Go.Eng.twoRun Try.prog Go.Eng.noSums (⟨14, 16, 31, 37, 40⟩ : Go.Eng.Fns) 1000 60 12 (.row [3, 3]) (.row [2, 2])) = true := by kernel_rfl
set_option maxRecDepth 100000 in
theorem r26_17 : Go.Eng.isTrue (Go.Eng.twoRun Try.prog Go.Eng.noSums (⟨14, 16, 31, 37, 40⟩ : Go.Eng.Fns) 1000 60 12 (.row [3, 3]) (.row [2, 2, 1])) = true := by kernel_rfl
set_option maxRecDepth 100000 in
theorem r26_18 : Go.Eng.isTrue (Go.Eng.twoRun Try.prog Go.Eng.noSums (⟨14, 16, 31, 37, 40⟩ : Go.Eng.Fns) 1000 60 12 (.row [3, 3]) (.row [2, 2, 1, 1])) = true := by kernel_rfl
set_option maxRecDepth 100000 in
theorem r26_19 : Go.Eng.isTrue (Go.Eng.twoRun Try.prog Go.Eng.noSums (⟨14, 16, 31, 37, 40⟩ : Go.Eng.Fns) 1000 60 12 (.row [3, 3]) (.row [2, 2, 2])) = true := by kernel_rfl
set_option maxRecDepth 100000 in
theorem r26_20 : Go.Eng.isTrue (Go.Eng.twoRun Try.prog Go.Eng.noSums (⟨14, 16, 31, 37, 40⟩ : Go.Eng.Fns) 1000 60 12 (.row [3, 3]) (.row [3])) = true := by kernel_rfl
set_option maxRecDepth 100000 in
theorem r26_21 : Go.Eng.isTrue (Go.Eng.twoRun Try.prog Go.Eng.noSums (⟨14, 16, 31, 37, 40⟩ : Go.Eng.Fns) 1000 60 12 (.row [3, 3]) (.row [3, 1])) = true := by kernel_rfl
set_option maxRecDepth 100000 in
theorem r26_22 : Go.Eng.isTrue (Go.Eng.twoRun Try.prog Go.Eng.noSums (⟨14, 16, 31, 37, 40⟩ : Go.Eng.Fns) 1000 60 12 (.row [3, 3]) (.row [3, 1, 1])) = true := by kernel_rfl
set_option maxRecDepth 100000 in
theorem r26_23 : Go.Eng.isTrue (Go.Eng.twoRun Try.prog Go.Eng.noSums (⟨14, 16, 31, 37, 40⟩ : Go.Eng.Fns) 1000 60 12 (.row [3, 3]) (.row [3, 1, 1, 1])) = true := by kernel_rfl
set_option maxRecDepth 100000 in
theorem r26_24 : Go.Eng.isTrue (Go.Eng.twoRun Try.prog Go.Eng.noSums (⟨14, 16, 31, 37, 40⟩ : Go.Eng.Fns) 1000 60 12 (.row [3, 3]) (.row [3, 2])) = true := by kernel_rfl
set_option maxRecDepth 100000 in
theorem r26_25 : Go.Eng.isTrue (Go.Eng.twoRun Try.prog Go.Eng.noSums (⟨14, 16, 31, 37, 40⟩ : Go.Eng.Fns) 1000 60 12 (.row [3, 3]) (.row [3, 2, 1])) = true := by kernel_rfl
set_option maxRecDepth 100000 in
theorem r26_26 : Go.Eng.isTrue (Go.Eng.twoRun Try.prog Go.Eng.noSums (⟨14, 16, 31, 37, 40⟩ : Go.Eng.Fns) 1000 60 12 (.row [3, 3]) (.row [3, 3])) = true := by kernel_rfl
set_option maxRecDepth 100000 in
theorem r26_27 : Go.Eng.isTrue (Go.Eng.twoRun Try.prog Go.Eng.noSums (⟨14, 16, 31, 37, 40⟩ : Go.Eng.Fns) 1000 60 12 (.row [3, 3]) (.row [4])) = true := by kernel_rfl
set_option maxRecDepth 100000 in
theorem r26_28 : Go.Eng.isTrue (Go.Eng.twoRun Try.prog Go.Eng.noSums (⟨14, 16, 31, 37, 40⟩ : Go.Eng.Fns) 1000 60 12 (.row [3, 3]) (.row [4, 1])) = true := by kernel_rfl
set_option maxRecDepth 100000 in
theorem r26_29 : Go.Eng.isTrue (Go.Eng.twoRun Try.prog Go.Eng.noSums (⟨14, 16, 31, 37, 40⟩ : Go.Eng.Fns) 1000 60 12 (.row [3, 3]) (.row [4, 1, 1])) = true := by kernel_rfl
set_option maxRecDepth 100000 in
theorem r26_30 : Go.Eng.isTrue (Go.Eng.twoRun Try.prog Go.Eng.noSums (⟨14, 16, 31, 37, 40⟩ : Go.Eng.Fns) 1000 60 12 (.row [3, 3]) (.row [4, 2])) = true := by kernel_rfl
set_option maxRecDepth 100000 in
theorem r26_31 : Go.Eng.isTrue (Go.Eng.twoRun Try.prog Go.Eng.noSums (⟨14, 16, 31, 37, 40⟩ : Go.Eng.Fns) 1000 60 12 (.row [3, 3]) (.row [5])) = true := by kernel_rfl
set_option maxRecDepth 100000 in
theorem r26_32 : Go.Eng.isTrue (Go.Eng.twoRun Try.prog Go.Eng.noSums (⟨14, 16, 31, 37, 40⟩ : Go.Eng.Fns) 1000 60 12 (.row [3, 3]) (.row [5, 1])) = true := by kernel_rfl
set_option maxRecDepth 100000 in
theorem r26_33 : Go.Eng.isTrue (Go.Eng.twoRun Try.prog Go.Eng.noSums (⟨14, 16, 31, 37, 40⟩ : Go.Eng.Fns) 1000 60 12 (.row [3, 3]) (.row [6])) = true := by kernel_rfl
theorem r26 : Go.Eng.AllL (fun c => Go.Eng.isTrue (Go.Eng.twoRun Try.prog Go.Eng.noSums (⟨14, 16, 31, 37, 40⟩ : Go.Eng.Fns) 1000 60 12 (.row [3, 3]) c) = true) Go.Eng.classes := by
  unfold Go.Eng.classes
  rw [Go.Eng.shares_eq]
  exact ⟨r26_0, r26_1, r26_2, r26_3, r26_4, r26_5, r26_6, r26_7, r26_8, r26_9, r26_10, r26_11, r26_12, r26_13, r26_14, r26_15, r26_16, r26_17, r26_18, r26_19, r26_20, r26_21, r26_22, r26_23, r26_24, r26_25, r26_26, r26_27, r26_28, r26_29, r26_30, r26_31, r26_32, r26_33, trivial⟩
set_option maxRecDepth 100000 in
theorem r29_0 : Go.Eng.isTrue (Go.Eng.twoRun Try.prog Go.Eng.noSums (⟨14, 16, 31, 37, 40⟩ : Go.Eng.Fns) 1000 60 12 (.row [4, 1, 1]) .nil) = true := by kernel_rfl
set_option maxRecDepth 100000 in
theorem r29_1 : Go.Eng.isTrue (Go.Eng.twoRun Try.prog Go.Eng.noSums (⟨14, 16, 31, 37, 40⟩ : Go.Eng.Fns) 1000 60 12 (.row [4, 1, 1]) .zero) = true := by kernel_rfl
set_option maxRecDepth 100000 in
theorem r29_2 : Go.Eng.isTrue (Go.Eng.twoRun Try.prog Go.Eng.noSums (⟨14, 16, 31, 37, 40⟩ : Go.Eng.Fns) 1000 60 12 (.row [4, 1, 1]) .no) = true := by kernel_rfl
set_option maxRecDepth 100000 in
theorem r29_3 : Go.Eng.isTrue (Go.Eng.twoRun Try.prog Go.Eng.noSums (⟨14, 16, 31, 37, 40⟩ : Go.Eng.Fns) 1000 60 12 (.row [4, 1, 1]) .long) = true := by kernel_rfl
set_option maxRecDepth 100000 in
theorem r29_4 : Go.Eng.isTrue (Go.Eng.twoRun Try.prog Go.Eng.noSums (⟨14, 16, 31, 37, 40⟩ : Go.Eng.Fns) 1000 60 12 (.row [4, 1, 1]) (.row [])) = true := by kernel_rfl
set_option maxRecDepth 100000 in
theorem r29_5 : Go.Eng.isTrue (Go.Eng.twoRun Try.prog Go.Eng.noSums (⟨14, 16, 31, 37, 40⟩ : Go.Eng.Fns) 1000 60 12 (.row [4, 1, 1]) (.row [1])) = true := by kernel_rfl
set_option maxRecDepth 100000 in
theorem r29_6 : Go.Eng.isTrue (Go.Eng.twoRun Try.prog Go.Eng.noSums (⟨14, 16, 31, 37, 40⟩ : Go.Eng.Fns) 1000 60 12 (.row [4, 1, 1]) (.row [1, 1])) = true := by kernel_rfl
set_option maxRecDepth 100000 in
theorem r29_7 : Go.Eng.isTrue (Go.Eng.twoRun Try.prog Go.Eng.noSums (⟨14, 16, 31, 37, 40⟩ : Go.Eng.Fns) 1000 60 12 (.row [4, 1, 1]) (.row [1, 1, 1])) = true := by kernel_rfl
set_option maxRecDepth 100000 in
theorem r29_8 : Go.Eng.isTrue (Go.Eng.twoRun Try.prog Go.Eng.noSums (⟨14, 16, 31, 37, 40⟩ : Go.Eng.Fns) 1000 60 12 (.row [4, 1, 1]) (.row [1, 1, 1, 1])) = true := by kernel_rfl
set_option maxRecDepth 100000 in
theorem r29_9 : Go.Eng.isTrue (Go.Eng.twoRun Try.prog Go.Eng.noSums (⟨14, 16, 31, 37, 40⟩ : Go.Eng.Fns) 1000 60 12 (.row [4, 1, 1]) (.row [1, 1, 1, 1, 1])) = true := by kernel_rfl
set_option maxRecDepth 100000 in
theorem r29_10 : Go.Eng.isTrue (Go.Eng.twoRun Try.prog Go.Eng.noSums (⟨14, 16, 31, 37, 40⟩ : Go.Eng.Fns) 1000 60 12 (.row [4, 1, 1]) (.row [1, 1, 1, 1, 1, 1])) = true := by kernel_rfl
set_option maxRecDepth 100000 in
theorem r29_11 : Go.Eng.isTrue (Go.Eng.twoRun Try.prog Go.Eng.noSums (⟨14, 16, 31, 37, 40⟩ : Go.Eng.Fns) 1000 60 12 (.row [4, 1, 1]) (.row [2])) = true := by kernel_rfl
set_option maxRecDepth 100000 in
theorem r29_12 : Go.Eng.isTrue (Go.Eng.twoRun Try.prog Go.Eng.noSums (⟨14, 16, 31, 37, 40⟩ : Go.Eng.Fns) 1000 60 12 (.row [4, 1, 1]) (.row [2, 1])) = true := by kernel_rfl
set_option maxRecDepth 100000 in
theorem r29_13 : Go.Eng.isTrue (Go.Eng.twoRun Try.prog Go.Eng.noSums (⟨14, 16, 31, 37, 40⟩ : Go.Eng.Fns) 1000 60 12 (.row [4, 1, 1]) (.row [2, 1, 1])) = true := by kernel_rfl
set_option maxRecDepth 100000 in
theorem r29_14 : Go.Eng.isTrue (Go.Eng.twoRun Try.prog Go.Eng.noSums (⟨14, 16, 31, 37, 40⟩ : Go.Eng.Fns) 1000 60 12 (.row [4, 1, 1]) (.row [2, 1, 1, 1])) = true := by kernel_rfl
set_option maxRecDepth 100000 in
theorem r29_15 : Go.Eng.isTrue (Go.Eng.twoRun Try.prog Go.Eng.noSums (⟨14, 16, 31, 37, 40⟩ : Go.Eng.Fns) 1000 60 12 (.row [4, 1, 1]) (.row [2, 1, 1, 1, 1])) = true := by kernel_rfl
set_option maxRecDepth 100000 in
theorem r29_16 : Go.Eng.isTrue (Go.Eng.twoRun Try.prog Go.Eng.noSums (⟨14, 16, 31, 37, 40⟩ : Go.Eng.Fns) 1000 60 12 (.row [4, 1, 1]) (.row [2, 2])) = true := by kernel_rfl
set_option maxRecDepth 100000 in
theorem r29_17 : Go.Eng.isTrue (Go.Eng.twoRun Try.prog Go.Eng.noSums (⟨14, 16, 31, 37, 40⟩ : Go.Eng.Fns) 1000 60 12 (.row [4, 1, 1]) (.row [2, 2, 1])) = true := by kernel_rfl
set_option maxRecDepth 100000 in
theorem r29_18 : Go.Eng.isTrue (Go.Eng.twoRun Try.prog Go.Eng.noSums (⟨14, 16, 31, 37, 40⟩ : Go.Eng.Fns) 1000 60 12 (.row [4, 1, 1]) (.row [2, 2, 1, 1])) = true := by kernel_rfl
set_option maxRecDepth 100000 in
theorem r29_19 : Go.Eng.isTrue (Go.Eng.twoRun Try.prog Go.Eng.noSums (⟨14, 16, 31, 37, 40⟩ : Go.Eng.Fns) 1000 60 12 (.row [4, 1, 1]) (.row [2, 2, 2])) = true := by kernel_rfl
set_option maxRecDepth 100000 in
theorem r29_20 : Go.Eng.isTrue (Go.Eng.twoRun Try.prog Go.Eng.noSums (⟨14, 16, 31, 37, 40⟩ : Go.Eng.Fns) 1000 60 12 (.row [4, 1, 1]) (.row [3])) = true := by kernel_rfl
set_option maxRecDepth 100000 in
theorem r29_21 : Go.Eng.isTrue (Go.Eng.twoRun Try.prog Go.Eng.noSums (⟨14, 16, 31, 37, 40⟩ : Go.Eng.Fns) 1000 60 12 (.row [4, 1, 1]) (.row [3, 1])) = true := by kernel_rfl
set_option maxRecDepth 100000 in
theorem r29_22 : Go.Eng.isTrue (Go.Eng.twoRun Try.prog Go.Eng.noSums (⟨14, 16, 31, 37, 40⟩ : Go.Eng.Fns) 1000 60 12 (.row [4, 1, 1]) (.row [3, 1, 1])) = true := by kernel_rfl
set_option maxRecDepth 100000 in
theorem r29_23 : Go.Eng.isTrue (Go.Eng.twoRun Try.prog Go.Eng.noSums (⟨14, 16, 31, 37, 40⟩ : Go.Eng.Fns) 1000 60 12 (.row [4, 1, 1]) (.row [3, 1, 1, 1])) = true := by kernel_rfl
set_option maxRecDepth 100000 in
theorem r29_24 : Go.Eng.isTrue (Go.Eng.twoRun Try.prog Go.Eng.noSums (⟨14, 16, 31, 37, 40⟩ : Go.Eng.Fns) 1000 60 12 (.row [4, 1, 1]) (.row [3, 2])) = true := by kernel_rfl
set_option maxRecDepth 100000 in
theorem r29_25 : Go.Eng.isTrue (Go.Eng.twoRun Try.prog Go.Eng.noSums (⟨14, 16, 31, 37, 40⟩ : Go.Eng.Fns) 1000 60 12 (.row [4, 1, 1]) (.row [3, 2, 1])) = true := by kernel_rfl
set_option maxRecDepth 100000 in
theorem r29_26 : Go.Eng.isTrue (Go.Eng.twoRun Try.prog Go.Eng.noSums (⟨14, 16, 31, 37, 40⟩ : Go.Eng.Fns) 1000 60 12 (.row [4, 1, 1]) (.row [3, 3])) = true := by kernel_rfl
set_option maxRecDepth 100000 in
theorem r29_27 : Go.Eng.isTrue (Go.Eng.twoRun Try.prog Go.Eng.noSums (⟨14, 16, 31, 37, 40⟩ : Go.Eng.Fns) 1000 60 12 (.row [4, 1, 1]) (.row [4])) = true := by kernel_rfl
set_option maxRecDepth 100000 in
theorem r29_28 : Go.Eng.isTrue (Go.Eng.twoRun Try.prog Go.Eng.noSums (⟨14, 16, 31, 37, 40⟩ : Go.Eng.Fns) 1000 60 12 (.row [4, 1, 1]) (.row [4, 1])) = true := by kernel_rfl
set_option maxRecDepth 100000 in
theorem r29_29 : Go.Eng.isTrue (Go.Eng.twoRun Try.prog Go.Eng.noSums (⟨14, 16, 31, 37, 40⟩ : Go.Eng.Fns) 1000 60 12 (.row [4, 1, 1]) (.row [4, 1, 1])) = true := by kernel_rfl
set_option maxRecDepth 100000 in
theorem r29_30 : Go.Eng.isTrue (Go.Eng.twoRun Try.prog Go.Eng.noSums (⟨14, 16, 31, 37, 40⟩ : Go.Eng.Fns) 1000 60 12 (.row [4, 1, 1]) (.row [4, 2])) = true := by kernel_rfl
set_option maxRecDepth 100000 in
theorem r29_31 : Go.Eng.isTrue (Go.Eng.twoRun Try.prog Go.Eng.noSums (⟨14, 16, 31, 37, 40⟩ : Go.Eng.Fns) 1000 60 12 (.row [4, 1, 1]) (.row [5])) = true := by kernel_rfl
set_option maxRecDepth 100000 in
theorem r29_32 : Go.Eng.isTrue (Go.Eng.twoRun Try.prog Go.Eng.noSums (⟨14, 16, 31, 37, 40⟩ : Go.Eng.Fns) 1000 60 12 (.row [4, 1, 1]) (.row [5, 1])) = true := by kernel_rfl
set_option maxRecDepth 100000 in
theorem r29_33 : Go.Eng.isTrue (Go.Eng.twoRun Try.prog Go.Eng.noSums (⟨14, 16, 31, 37, 40⟩ : Go.Eng.Fns) 1000 60 12 (.row [4, 1, 1]) (.row [6])) = true := by kernel_rfl
theorem r29 : Go.Eng.AllL (fun c => Go.Eng.isTrue (Go.Eng.twoRun Try.prog Go.Eng.noSums (⟨14, 16, 31, 37, 40⟩ : Go.Eng.Fns) 1000 60 12 (.row [4, 1, 1]) c) = true) Go.Eng.classes := by
  unfold Go.Eng.classes
  rw [Go.Eng.shares_eq]
  exact ⟨r29_0, r29_1, r29_2, r29_3, r29_4, r29_5, r29_6, r29_7, r29_8, r29_9, r29_10, r29_11, r29_12, r29_13, r29_14, r29_15, r29_16, r29_17, r29_18, r29_19, r29_20, r29_21, r29_22, r29_23, r29_24, r29_25, r29_26, r29_27, r29_28, r29_29, r29_30, r29_31, r29_32, r29_33, trivial⟩
set_option maxRecDepth 100000 in
theorem r32_0 : Go.Eng.isTrue (Go.Eng.twoRun Try.prog Go.Eng.noSums (⟨14, 16, 31, 37, 40⟩ : Go.Eng.Fns) 1000 60 12 (.row [5, 1]) .nil) = true := by kernel_rfl
set_option maxRecDepth 100000 in
theorem r32_1 : Go.Eng.isTrue (Go.Eng.twoRun Try.prog Go.Eng.noSums (⟨14, 16, 31, 37, 40⟩ : Go.Eng.Fns) 1000 60 12 (.row [5, 1]) .zero) = true := by kernel_rfl
set_option maxRecDepth 100000 in
theorem r32_2 : Go.Eng.isTrue (Go.Eng.twoRun Try.prog Go.Eng.noSums (⟨14, 16, 31, 37, 40⟩ : Go.Eng.Fns) 1000 60 12 (.row [5, 1]) .no) = true := by kernel_rfl
set_option maxRecDepth 100000 in
theorem r32_3 : Go.Eng.isTrue (Go.Eng.twoRun Try.prog Go.Eng.noSums (⟨14, 16, 31, 37, 40⟩ : Go.Eng.Fns) 1000 60 12 (.row [5, 1]) .long) = true := by kernel_rfl
set_option maxRecDepth 100000 in
theorem r32_4 : Go.Eng.isTrue (Go.Eng.twoRun Try.prog Go.Eng.noSums (⟨14, 16, 31, 37, 40⟩ : Go.Eng.Fns) 1000 60 12 (.row [5, 1]) (.row [])) = true := by kernel_rfl
set_option maxRecDepth 100000 in
theorem r32_5 : Go.Eng.isTrue (Go.Eng.twoRun Try.prog Go.Eng.noSums (⟨14, 16, 31, 37, 40⟩ : Go.Eng.Fns) 1000 60 12 (.row [5, 1]) (.row [1])) = true := by kernel_rfl
set_option maxRecDepth 100000 in
theorem r32_6 : Go.Eng.isTrue (Go.Eng.twoRun Try.prog Go.Eng.noSums (⟨14, 16, 31, 37, 40⟩ : Go.Eng.Fns) 1000 60 12 (.row [5, 1]) (.row [1, 1])) = true := by kernel_rfl
set_option maxRecDepth 100000 in
theorem r32_7 : Go.Eng.isTrue (Go.Eng.twoRun Try.prog Go.Eng.noSums (⟨14, 16, 31, 37, 40⟩ : Go.Eng.Fns) 1000 60 12 (.row [5, 1]) (.row [1, 1, 1])) = true := by kernel_rfl
set_option maxRecDepth 100000 in
theorem r32_8 : Go.Eng.isTrue (Go.Eng.twoRun Try.prog Go.Eng.noSums (⟨14, 16, 31, 37, 40⟩ : Go.Eng.Fns) 1000 60 12 (.row [5, 1]) (.row [1, 1, 1, 1])) = true := by kernel_rfl
set_option maxRecDepth 100000 in
theorem r32_9 : Go.Eng.isTrue (Go.Eng.twoRun Try.prog Go.Eng.noSums (⟨14, 16, 31, 37, 40⟩ : Go.Eng.Fns) 1000 60 12 (.row [5, 1]) (.row [1, 1, 1, 1, 1])) = true := by kernel_rfl
set_option maxRecDepth 100000 in
theorem r32_10 : Go.Eng.isTrue (Go.Eng.twoRun Try.prog Go.Eng.noSums (⟨14, 16, 31, 37, 40⟩ : Go.Eng.Fns) 1000 60 12 (.row [5, 1]) (.row [1, 1, 1, 1, 1, 1])) = true := by kernel_rfl
set_option maxRecDepth 100000 in
theorem r32_11 : Go.Eng.isTrue (Go.Eng.twoRun Try.prog Go.Eng.noSums (⟨14, 16, 31, 37, 40⟩ : Go.Eng.Fns) 1000 60 12 (.row [5, 1]) (.row [2])) = true := by kernel_rfl
set_option maxRecDepth 100000 in
theorem r32_12 : Go.Eng.isTrue (Go.Eng.twoRun Try.prog Go.Eng.noSums (⟨14, 16, 31, 37, 40⟩ : Go.Eng.Fns) 1000 60 12 (.row [5, 1]) (.row [2, 1])) = true := by kernel_rfl
set_option maxRecDepth 100000 in
theorem r32_13 : Go.Eng.isTrue (Go.Eng.twoRun Try.prog Go.Eng.noSums (⟨14, 16, 31, 37, 40⟩ : Go.Eng.Fns) 1000 60 12 (.row [5, 1]) (.row [2, 1, 1])) = true := by kernel_rfl
set_option maxRecDepth 100000 in
theorem r32_14 : Go.Eng.isTrue (Go.Eng.twoRun Try.prog Go.Eng.noSums (⟨14, 16, 31, 37, 40⟩ : Go.Eng.Fns) 1000 60 12 (.row [5, 1]) (.row [2, 1, 1, 1])) = true := by kernel_rfl
set_option maxRecDepth 100000 in
theorem r32_15 : Go.Eng.isTrue (Go.Eng.twoRun Try.prog Go.Eng.noSums (⟨14, 16, 31, 37, 40⟩ : Go.Eng.Fns) 1000 60 12 (.row [5, 1]) (.row [2, 1, 1, 1, 1])) = true := by kernel_rfl
set_option maxRecDepth 100000 in
theorem r32_16 : Go.Eng.isTrue (Go.Eng.twoRun Try.prog Go.Eng.noSums (⟨14, 16, 31, 37, 40⟩ : Go.Eng.Fns) 1000 60 12 (.row [5, 1]) (.row [2, 2])) = true := by kernel_rfl
set_option maxRecDepth 100000 in
theorem r32_17 : Go.Eng.isTrue (Go.Eng.twoRun Try.prog Go.Eng.noSums (⟨14, 16, 31, 37, 40⟩ : Go.Eng.Fns) 1000 60 12 (.row [5, 1]) (.row [2, 2, 1])) = true := by kernel_rfl
set_option maxRecDepth 100000 in
theorem r32_18 : Go.Eng.isTrue (Go.Eng.twoRun Try.prog Go.Eng.noSums (⟨14, 16, 31, 37, 40⟩ : Go.Eng.Fns) 1000 60 12 (.row [5, 1]) (.row [2, 2, 1, 1])) = true := by kernel_rfl
set_option maxRecDepth 100000 in
theorem r32_19 : Go.Eng.isTrue (Go.Eng.twoRun Try.prog Go.Eng.noSums (⟨14, 16, 31, 37, 40⟩ : Go.Eng.Fns) 1000 60 12 (.row [5, 1]) (.row [2, 2, 2])) = true := by kernel_rfl
set_option maxRecDepth 100000 in
theorem r32_20 : Go.Eng.isTrue (Go.Eng.twoRun Try.prog Go.Eng.noSums (⟨14, 16, 31, 37, 40⟩ : Go.Eng.Fns) 1000 60 12 (.row [5, 1]) (.row [3])) = true := by kernel_rfl
set_option maxRecDepth 100000 in
theorem r32_21 : Go.Eng.isTrue (Go.Eng.twoRun Try.prog Go.Eng.noSums (⟨14, 16, 31, 37, 40⟩ : Go.Eng.Fns) 1000 60 12 (.row [5, 1]) (.row [3, 1])) = true := by kernel_rfl
set_option maxRecDepth 100000 in
theorem r32_22 : Go.Eng.isTrue (Go.Eng.twoRun Try.prog Go.Eng.noSums (⟨14, 16, 31, 37, 40⟩ : Go.Eng.Fns) 1000 60 12 (.row [5, 1]) (.row [3, 1, 1])) = true := by kernel_rfl
set_option maxRecDepth 100000 in
theorem r32_23 : Go.Eng.isTrue (Go.Eng.twoRun Try.prog Go.Eng.noSums (⟨14, 16, 31, 37, 40⟩ : Go.Eng.Fns) 1000 60 12 (.row [5, 1]) (.row [3, 1, 1, 1])) = true := by kernel_rfl
set_option maxRecDepth 100000 in
theorem r32_24 : Go.Eng.isTrue (Go.Eng.twoRun Try.prog Go.Eng.noSums (⟨14, 16, 31, 37, 40⟩ : Go.Eng.Fns) 1000 60 12 (.row [5, 1]) (.row [3, 2])) = true := by kernel_rfl
set_option maxRecDepth 100000 in
theorem r32_25 : Go.Eng.isTrue (Go.Eng.twoRun Try.prog Go.Eng.noSums (⟨14, 16, 31, 37, 40⟩ : Go.Eng.Fns) 1000 60 12 (.row [5, 1]) (.row [3, 2, 1])) = true := by kernel_rfl
set_option maxRecDepth 100000 in
theorem r32_26 : Go.Eng.isTrue (Go.Eng.twoRun Try.prog Go.Eng.noSums (⟨14, 16, 31, 37, 40⟩ : Go.Eng.Fns) 1000 60 12 (.row [5, 1]) (.row [3, 3])) = true := by kernel_rfl
set_option maxRecDepth 100000 in
theorem r32_27 : Go.Eng.isTrue (Go.Eng.twoRun Try.prog Go.Eng.noSums (⟨14, 16, 31, 37, 40⟩ : Go.Eng.Fns) 1000 60 12 (.row [5, 1]) (.row [4])) = true := by kernel_rfl
set_option maxRecDepth 100000 in
theorem r32_28 : Go.Eng.isTrue (Go.Eng.twoRun Try.prog Go.Eng.noSums (⟨14, 16, 31, 37, 40⟩ : Go.Eng.Fns) 1000 60 12 (.row [5, 1]) (.row [4, 1])) = true := by kernel_rfl
set_option maxRecDepth 100000 in
theorem r32_29 : Go.Eng.isTrue (Go.Eng.twoRun Try.prog Go.Eng.noSums (⟨14, 16, 31, 37, 40⟩ : Go.Eng.Fns) 1000 60 12 (.row [5, 1]) (.row [4, 1, 1])) = true := by kernel_rfl
set_option maxRecDepth 100000 in
theorem r32_30 : Go.Eng.isTrue (Go.Eng.twoRun Try.prog Go.Eng.noSums (⟨14, 16, 31, 37, 40⟩ : Go.Eng.Fns) 1000 60 12 (.row [5, 1]) (.row [4, 2])) = true := by kernel_rfl
set_option maxRecDepth 100000 in
theorem r32_31 : Go.Eng.isTrue (Go.Eng.twoRun Try.prog Go.Eng.noSums (⟨14, 16, 31, 37, 40⟩ : Go.Eng.Fns) 1000 60 12 (.row [5, 1]) (.row [5])) = true := by kernel_rfl
set_option maxRecDepth 100000 in
theorem r32_32 : Go.Eng.isTrue (Go.Eng.twoRun Try.prog Go.Eng.noSums (⟨14, 16, 31, 37, 40⟩ : Go.Eng.Fns) 1000 60 12 (.row [5, 1]) (.row [5, 1])) = true := by kernel_rfl
set_option maxRecDepth 100000 in
theorem r32_33 : Go.Eng.isTrue (Go.Eng.twoRun Try.prog Go.Eng.noSums (⟨14, 16, 31, 37, 40⟩ : Go.Eng.Fns) 1000 60 12 (.row [5, 1]) (.row [6])) = true := by kernel_rfl
theorem r32 : Go.Eng.AllL (fun c => Go.Eng.isTrue (Go.Eng.twoRun Try.prog Go.Eng.noSums (⟨14, 16, 31, 37, 40⟩ : Go.Eng.Fns) 1000 60 12 (.row [5, 1]) c) = true) Go.Eng.classes := by
  unfold Go.Eng.classes
  rw [Go.Eng.shares_eq]
  exact ⟨r32_0, r32_1, r32_2, r32_3, r32_4, r32_5, r32_6, r32_7, r32_8, r32_9, r32_10, r32_11, r32_12, r32_13, r32_14, r32_15, r32_16, r32_17, r32_18, r32_19, r32_20, r32_21, r32_22, r32_23, r32_24, r32_25, r32_26, r32_27, r32_28, r32_29, r32_30, r32_31, r32_32, r32_33, trivial⟩
end Go.Proofs.Ytnglbchhlpbgkaa.fnExactProductWaysRuns
