/- The runs of FnExactProductWays, part 0. -/
import Derived.Test.YtnglbchhlpbgkaaEngZb
import Derived.Test.YtnglbchhlpbgkaaProg
namespace Go.Proofs.Ytnglbchhlpbgkaa.fnExactProductWaysRuns
set_option linter.unusedVariables false
set_option linter.unusedSectionVars false
set_option linter.unusedSimpArgs false
set_option maxRecDepth 100000 in
theorem r0_0 : Go.Eng.isTrue (Go.Eng.twoRun Try.prog Go.Eng.noSums (⟨14, 16, 31, 37, 40⟩ : Go.Eng.Fns) 1000 60 12 .nil .nil) = true := by kernel_rfl
set_option maxRecDepth 100000 in
theorem r0_1 : Go.Eng.isTrue (Go.Eng.twoRun Try.prog Go.Eng.noSums (⟨14, 16, 31, 37, 40⟩ : Go.Eng.Fns) 1000 60 12 .nil .zero) = true := by kernel_rfl
set_option maxRecDepth 100000 in
theorem r0_2 : Go.Eng.isTrue (Go.Eng.twoRun Try.prog Go.Eng.noSums (⟨14, 16, 31, 37, 40⟩ : Go.Eng.Fns) 1000 60 12 .nil .no) = true := by kernel_rfl
set_option maxRecDepth 100000 in
theorem r0_3 : Go.Eng.isTrue (Go.Eng.twoRun Try.prog Go.Eng.noSums (⟨14, 16, 31, 37, 40⟩ : Go.Eng.Fns) 1000 60 12 .nil .long) = true := by kernel_rfl
set_option maxRecDepth 100000 in
theorem r0_4 : Go.Eng.isTrue (Go.Eng.twoRun Try.prog Go.Eng.noSums (⟨14, 16, 31, 37, 40⟩ : Go.Eng.Fns) 1000 60 12 .nil (.row [])) = true := by kernel_rfl
set_option maxRecDepth 100000 in
theorem r0_5 : Go.Eng.isTrue (Go.Eng.twoRun Try.prog Go.Eng.noSums (⟨14, 16, 31, 37, 40⟩ : Go.Eng.Fns) 1000 60 12 .nil (.row [1])) = true := by kernel_rfl
set_option maxRecDepth 100000 in
theorem r0_6 : Go.Eng.isTrue (Go.Eng.twoRun Try.prog Go.Eng.noSums (⟨14, 16, 31, 37, 40⟩ : Go.Eng.Fns) 1000 60 12 .nil (.row [1, 1])) = true := by kernel_rfl
set_option maxRecDepth 100000 in
theorem r0_7 : Go.Eng.isTrue (Go.Eng.twoRun Try.prog Go.Eng.noSums (⟨14, 16, 31, 37, 40⟩ : Go.Eng.Fns) 1000 60 12 .nil (.row [1, 1, 1])) = true := by kernel_rfl
set_option maxRecDepth 100000 in
theorem r0_8 : Go.Eng.isTrue (Go.Eng.twoRun Try.prog Go.Eng.noSums (⟨14, 16, 31, 37, 40⟩ : Go.Eng.Fns) 1000 60 12 .nil (.row [1, 1, 1, 1])) = true := by kernel_rfl
set_option maxRecDepth 100000 in
theorem r0_9 : Go.Eng.isTrue (Go.Eng.twoRun Try.prog Go.Eng.noSums (⟨14, 16, 31, 37, 40⟩ : Go.Eng.Fns) 1000 60 12 .nil (.row [1, 1, 1, 1, 1])) = true := by kernel_rfl
set_option maxRecDepth 100000 in
theorem r0_10 : Go.Eng.isTrue (Go.Eng.twoRun Try.prog Go.Eng.noSums (⟨14, 16, 31, 37, 40⟩ : Go.Eng.Fns) 1000 60 12 .nil (.row [1, 1, 1, 1, 1, 1])) = true := by kernel_rfl
set_option maxRecDepth 100000 in
theorem r0_11 : Go.Eng.isTrue (Go.Eng.twoRun Try.prog Go.Eng.noSums (⟨14, 16, 31, 37, 40⟩ : Go.Eng.Fns) 1000 60 12 .nil (.row [2])) = true := by kernel_rfl
set_option maxRecDepth 100000 in
theorem r0_12 : Go.Eng.isTrue (Go.Eng.twoRun Try.prog Go.Eng.noSums (⟨14, 16, 31, 37, 40⟩ : Go.Eng.Fns) 1000 60 12 .nil (.row [2, 1])) = true := by kernel_rfl
set_option maxRecDepth 100000 in
theorem r0_13 : Go.Eng.isTrue (Go.Eng.twoRun Try.prog Go.Eng.noSums (⟨14, 16, 31, 37, 40⟩ : Go.Eng.Fns) 1000 60 12 .nil (.row [2, 1, 1])) = true := by kernel_rfl
set_option maxRecDepth 100000 in
theorem r0_14 : Go.Eng.isTrue (Go.Eng.twoRun Try.prog Go.Eng.noSums (⟨14, 16, 31, 37, 40⟩ : Go.Eng.Fns) 1000 60 12 .nil (.row [2, 1, 1, 1])) = true := by kernel_rfl
set_option maxRecDepth 100000 in
theorem r0_15 : Go.Eng.isTrue (Go.Eng.twoRun Try.prog Go.Eng.noSums (⟨14, 16, 31, 37, 40⟩ : Go.Eng.Fns) 1000 60 12 .nil (.row [2, 1, 1, 1, 1])) = true := by kernel_rfl
set_option maxRecDepth 100000 in
theorem r0_16 : Go.Eng.isTrue (Go.Eng.twoRun Try.prog Go.Eng.noSums (⟨14, 16, 31, 37, 40⟩ : Go.Eng.Fns) 1000 60 12 .nil (.row [2, 2])) = true := by kernel_rfl
set_option maxRecDepth 100000 in
theorem r0_17 : Go.Eng.isTrue (Go.Eng.twoRun Try.prog Go.Eng.noSums (⟨14, 16, 31, 37, 40⟩ : Go.Eng.Fns) 1000 60 12 .nil (.row [2, 2, 1])) = true := by kernel_rfl
set_option maxRecDepth 100000 in
theorem r0_18 : Go.Eng.isTrue (Go.Eng.twoRun Try.prog Go.Eng.noSums (⟨14, 16, 31, 37, 40⟩ : Go.Eng.Fns) 1000 60 12 .nil (.row [2, 2, 1, 1])) = true := by kernel_rfl
set_option maxRecDepth 100000 in
theorem r0_19 : Go.Eng.isTrue (Go.Eng.twoRun Try.prog Go.Eng.noSums (⟨14, 16, 31, 37, 40⟩ : Go.Eng.Fns) 1000 60 12 .nil (.row [2, 2, 2])) = true := by kernel_rfl
set_option maxRecDepth 100000 in
theorem r0_20 : Go.Eng.isTrue (Go.Eng.twoRun Try.prog Go.Eng.noSums (⟨14, 16, 31, 37, 40⟩ : Go.Eng.Fns) 1000 60 12 .nil (.row [3])) = true := by kernel_rfl
set_option maxRecDepth 100000 in
theorem r0_21 : Go.Eng.isTrue (Go.Eng.twoRun Try.prog Go.Eng.noSums (⟨14, 16, 31, 37, 40⟩ : Go.Eng.Fns) 1000 60 12 .nil (.row [3, 1])) = true := by kernel_rfl
set_option maxRecDepth 100000 in
theorem r0_22 : Go.Eng.isTrue (Go.Eng.twoRun Try.prog Go.Eng.noSums (⟨14, 16, 31, 37, 40⟩ : Go.Eng.Fns) 1000 60 12 .nil (.row [3, 1, 1])) = true := by kernel_rfl
set_option maxRecDepth 100000 in
theorem r0_23 : Go.Eng.isTrue (Go.Eng.twoRun Try.prog Go.Eng.noSums (⟨14, 16, 31, 37, 40⟩ : Go.Eng.Fns) 1000 60 12 .nil (.row [3, 1, 1, 1])) = true := by kernel_rfl
set_option maxRecDepth 100000 in
theorem r0_24 : Go.Eng.isTrue (Go.Eng.twoRun Try.prog Go.Eng.noSums (⟨14, 16, 31, 37, 40⟩ : Go.Eng.Fns) 1000 60 12 .nil (.row [3, 2])) = true := by kernel_rfl
set_option maxRecDepth 100000 in
theorem r0_25 : Go.Eng.isTrue (Go.Eng.twoRun Try.prog Go.Eng.noSums (⟨14, 16, 31, 37, 40⟩ : Go.Eng.Fns) 1000 60 12 .nil (.row [3, 2, 1])) = true := by kernel_rfl
set_option maxRecDepth 100000 in
theorem r0_26 : Go.Eng.isTrue (Go.Eng.twoRun Try.prog Go.Eng.noSums (⟨14, 16, 31, 37, 40⟩ : Go.Eng.Fns) 1000 60 12 .nil (.row [3, 3])) = true := by kernel_rfl
set_option maxRecDepth 100000 in
theorem r0_27 : Go.Eng.isTrue (Go.Eng.twoRun Try.prog Go.Eng.noSums (⟨14, 16, 31, 37, 40⟩ : Go.Eng.Fns) 1000 60 12 .nil (.row [4])) = true := by kernel_rfl
set_option maxRecDepth 100000 in
theorem r0_28 : Go.Eng.isTrue (Go.Eng.twoRun Try.prog Go.Eng.noSums (⟨14, 16, 31, 37, 40⟩ : Go.Eng.Fns) 1000 60 12 .nil (.row [4, 1])) = true := by kernel_rfl
set_option maxRecDepth 100000 in
theorem r0_29 : Go.Eng.isTrue (Go.Eng.twoRun Try.prog Go.Eng.noSums (⟨14, 16, 31, 37, 40⟩ : Go.Eng.Fns) 1000 60 12 .nil (.row [4, 1, 1])) = true := by kernel_rfl
set_option maxRecDepth 100000 in
theorem r0_30 : Go.Eng.isTrue (Go.Eng.twoRun Try.prog Go.Eng.noSums (⟨14, 16, 31, 37, 40⟩ : Go.Eng.Fns) 1000 60 12 .nil (.row [4, 2])) = true := by kernel_rfl
set_option maxRecDepth 100000 in
theorem r0_31 : Go.Eng.isTrue (Go.Eng.twoRun Try.prog Go.Eng.noSums (⟨14, 16, 31, 37, 40⟩ : Go.Eng.Fns) 1000 60 12 .nil (.row [5])) = true := by kernel_rfl
set_option maxRecDepth 100000 in
theorem r0_32 : Go.Eng.isTrue (Go.Eng.twoRun Try.prog Go.Eng.noSums (⟨14, 16, 31, 37, 40⟩ : Go.Eng.Fns) 1000 60 12 .nil (.row [5, 1])) = true := by kernel_rfl
set_option maxRecDepth 100000 in
theorem r0_33 : Go.Eng.isTrue (Go.Eng.twoRun Try.prog Go.Eng.noSums (⟨14, 16, 31, 37, 40⟩ : Go.Eng.Fns) 1000 60 12 .nil (.row [6])) = true := by kernel_rfl
theorem r0 : Go.Eng.AllL (fun c => Go.Eng.isTrue (Go.Eng.twoRun Try.prog Go.Eng.noSums (⟨14, 16, 31, 37, 40⟩ : Go.Eng.Fns) 1000 60 12 .nil c) = true) Go.Eng.classes := by
  unfold Go.Eng.classes
  rw [Go.Eng.shares_eq]
  exact ⟨r0_0, r0_1, r0_2, r0_3, r0_4, r0_5, r0_6, r0_7, r0_8, r0_9, r0_10, r0_11, r0_12, r0_13, r0_14, r0_15, r0_16, r0_17, r0_18, r0_19, r0_20, r0_21, r0_22, r0_23, r0_24, r0_25, r0_26, r0_27, r0_28, r0_29, r0_30, r0_31, r0_32, r0_33, trivial⟩
set_option maxRecDepth 100000 in
theorem r3_0 : Go.Eng.isTrue (Go.Eng.twoRun Try.prog Go.Eng.noSums (⟨14, 16, 31, 37, 40⟩ : Go.Eng.Fns) 1000 60 12 .long .nil) = true := by kernel_rfl
set_option maxRecDepth 100000 in
theorem r3_1 : Go.Eng.isTrue (Go.Eng.twoRun Try.prog Go.Eng.noSums (⟨14, 16, 31, 37, 40⟩ : Go.Eng.Fns) 1000 60 12 .long .zero) = true := by kernel_rfl
set_option maxRecDepth 100000 in
theorem r3_2 : Go.Eng.isTrue (Go.Eng.twoRun Try.prog Go.Eng.noSums (⟨14, 16, 31, 37, 40⟩ : Go.Eng.Fns) 1000 60 12 .long .no) = true := by kernel_rfl
set_option maxRecDepth 100000 in
theorem r3_3 : Go.Eng.isTrue (Go.Eng.twoRun Try.prog Go.Eng.noSums (⟨14, 16, 31, 37, 40⟩ : Go.Eng.Fns) 1000 60 12 .long .long) = true := by kernel_rfl
set_option maxRecDepth 100000 in
theorem r3_4 : Go.Eng.isTrue (Go.Eng.twoRun Try.prog Go.Eng.noSums (⟨14, 16, 31, 37, 40⟩ : Go.Eng.Fns) 1000 60 12 .long (.row [])) = true := by kernel_rfl
set_option maxRecDepth 100000 in
theorem r3_5 : Go.Eng.isTrue (Go.Eng.twoRun Try.prog Go.Eng.noSums (⟨14, 16, 31, 37, 40⟩ : Go.Eng.Fns) 1000 60 12 .long (.row [1])) = true := by kernel_rfl
set_option maxRecDepth 100000 in
theorem r3_6 : Go.Eng.isTrue (Go.Eng.twoRun Try.prog Go.Eng.noSums (⟨14, 16, 31, 37, 40⟩ : Go.Eng.Fns) 1000 60 12 .long (.row [1, 1])) = true := by kernel_rfl
set_option maxRecDepth 100000 in
theorem r3_7 : Go.Eng.isTrue (Go.Eng.twoRun Try.prog Go.Eng.noSums (⟨14, 16, 31, 37, 40⟩ : Go.Eng.Fns) 1000 60 12 .long (.row [1, 1, 1])) = true := by kernel_rfl
set_option maxRecDepth 100000 in
theorem r3_8 : Go.Eng.isTrue (Go.Eng.twoRun Try.prog Go.Eng.noSums (⟨14, 16, 31, 37, 40⟩ : Go.Eng.Fns) 1000 60 12 .long (.row [1, 1, 1, 1])) = true := by kernel_rfl
set_option maxRecDepth 100000 in
theorem r3_9 : Go.Eng.isTrue (Go.Eng.twoRun Try.prog Go.Eng.noSums (⟨14, 16, 31, 37, 40⟩ : Go.Eng.Fns) 1000 60 12 .long (.row [1, 1, 1, 1, 1])) = true := by kernel_rfl
set_option maxRecDepth 100000 in
theorem r3_10 : Go.Eng.isTrue (Go.Eng.twoRun Try.prog Go.Eng.noSums (⟨14, 16, 31, 37, 40⟩ : Go.Eng.Fns) 1000 60 12 .long (.row [1, 1, 1, 1, 1, 1])) = true := by kernel_rfl
set_option maxRecDepth 100000 in
theorem r3_11 : Go.Eng.isTrue (Go.Eng.twoRun Try.prog Go.Eng.noSums (⟨14, 16, 31, 37, 40⟩ : Go.Eng.Fns) 1000 60 12 .long (.row [2])) = true := by kernel_rfl
set_option maxRecDepth 100000 in
theorem r3_12 : Go.Eng.isTrue (Go.Eng.twoRun Try.prog Go.Eng.noSums (⟨14, 16, 31, 37, 40⟩ : Go.Eng.Fns) 1000 60 12 .long (.row [2, 1])) = true := by kernel_rfl
set_option maxRecDepth 100000 in
theorem r3_13 : Go.Eng.isTrue (Go.Eng.twoRun Try.prog Go.Eng.noSums (⟨14, 16, 31, 37, 40⟩ : Go.Eng.Fns) 1000 60 12 .long (.row [2, 1, 1])) = true := by kernel_rfl
set_option maxRecDepth 100000 in
theorem r3_14 : Go.Eng.isTrue (Go.Eng.twoRun Try.prog Go.Eng.noSums (⟨14, 16, 31, 37, 40⟩ : Go.Eng.Fns) 1000 60 12 .long (.row [2, 1, 1, 1])) = true := by kernel_rfl
set_option maxRecDepth 100000 in
theorem r3_15 : Go.Eng.isTrue (Go.Eng.twoRun Try.prog Go.Eng.noSums (⟨14, 16, 31, 37, 40⟩ : Go.Eng.Fns) 1000 60 12 .long (.row [2, 1, 1, 1, 1])) = true := by kernel_rfl
set_option maxRecDepth 100000 in
theorem r3_16 : Go.Eng.isTrue (Go.Eng.twoRun Try.prog Go.Eng.noSums (⟨14, 16, 31, 37, 40⟩ : Go.Eng.Fns) 1000 60 12 .long (.row [2, 2])) = true := by kernel_rfl
set_option maxRecDepth 100000 in
theorem r3_17 : Go.Eng.isTrue (Go.Eng.twoRun Try.prog Go.Eng.noSums (⟨14, 16, 31, 37, 40⟩ : Go.Eng.Fns) 1000 60 12 .long (.row [2, 2, 1])) = true := by kernel_rfl
set_option maxRecDepth 100000 in
theorem r3_18 : Go.Eng.isTrue (Go.Eng.twoRun Try.prog Go.Eng.noSums (⟨14, 16, 31, 37, 40⟩ : Go.Eng.Fns) 1000 60 12 .long (.row [2, 2, 1, 1])) = true := by kernel_rfl
set_option maxRecDepth 100000 in
theorem r3_19 : Go.Eng.isTrue (Go.Eng.twoRun Try.prog Go.Eng.noSums (⟨14, 16, 31, 37, 40⟩ : Go.Eng.Fns) 1000 60 12 .long (.row [2, 2, 2])) = true := by kernel_rfl
set_option maxRecDepth 100000 in
theorem r3_20 : Go.Eng.isTrue (Go.Eng.twoRun Try.prog Go.Eng.noSums (⟨14, 16, 31, 37, 40⟩ : Go.Eng.Fns) 1000 60 12 .long (.row [3])) = true := by kernel_rfl
set_option maxRecDepth 100000 in
theorem r3_21 : Go.Eng.isTrue (Go.Eng.twoRun Try.prog Go.Eng.noSums (⟨14, 16, 31, 37, 40⟩ : Go.Eng.Fns) 1000 60 12 .long (.row [3, 1])) = true := by kernel_rfl
set_option maxRecDepth 100000 in
theorem r3_22 : Go.Eng.isTrue (Go.Eng.twoRun Try.prog Go.Eng.noSums (⟨14, 16, 31, 37, 40⟩ : Go.Eng.Fns) 1000 60 12 .long (.row [3, 1, 1])) = true := by kernel_rfl
set_option maxRecDepth 100000 in
theorem r3_23 : Go.Eng.isTrue (Go.Eng.twoRun Try.prog Go.Eng.noSums (⟨14, 16, 31, 37, 40⟩ : Go.Eng.Fns) 1000 60 12 .long (.row [3, 1, 1, 1])) = true := by kernel_rfl
set_option maxRecDepth 100000 in
theorem r3_24 : Go.Eng.isTrue (Go.Eng.twoRun Try.prog Go.Eng.noSums (⟨14, 16, 31, 37, 40⟩ : Go.Eng.Fns) 1000 60 12 .long (.row [3, 2])) = true := by kernel_rfl
set_option maxRecDepth 100000 in
theorem r3_25 : Go.Eng.isTrue (Go.Eng.twoRun Try.prog Go.Eng.noSums (⟨14, 16, 31, 37, 40⟩ : Go.Eng.Fns) 1000 60 12 .long (.row [3, 2, 1])) = true := by kernel_rfl
set_option maxRecDepth 100000 in
theorem r3_26 : Go.Eng.isTrue (Go.Eng.twoRun Try.prog Go.Eng.noSums (⟨14, 16, 31, 37, 40⟩ : Go.Eng.Fns) 1000 60 12 .long (.row [3, 3])) = true := by kernel_rfl
set_option maxRecDepth 100000 in
theorem r3_27 : Go.Eng.isTrue (Go.Eng.twoRun Try.prog Go.Eng.noSums (⟨14, 16, 31, 37, 40⟩ : Go.Eng.Fns) 1000 60 12 .long (.row [4])) = true := by kernel_rfl
set_option maxRecDepth 100000 in
theorem r3_28 : Go.Eng.isTrue (Go.Eng.twoRun Try.prog Go.Eng.noSums (⟨14, 16, 31, 37, 40⟩ : Go.Eng.Fns) 1000 60 12 .long (.row [4, 1])) = true := by kernel_rfl
set_option maxRecDepth 100000 in
theorem r3_29 : Go.Eng.isTrue (Go.Eng.twoRun Try.prog Go.Eng.noSums (⟨14, 16, 31, 37, 40⟩ : Go.Eng.Fns) 1000 60 12 .long (.row [4, 1, 1])) = true := by kernel_rfl
set_option maxRecDepth 100000 in
theorem r3_30 : Go.Eng.isTrue (Go.Eng.twoRun Try.prog Go.Eng.noSums (⟨14, 16, 31, 37, 40⟩ : Go.Eng.Fns) 1000 60 12 .long (.row [4, 2])) = true := by kernel_rfl
set_option maxRecDepth 100000 in
theorem r3_31 : Go.Eng.isTrue (Go.Eng.twoRun Try.prog Go.Eng.noSums (⟨14, 16, 31, 37, 40⟩ : Go.Eng.Fns) 1000 60 12 .long (.row [5])) = true := by kernel_rfl
set_option maxRecDepth 100000 in
theorem r3_32 : Go.Eng.isTrue (Go.Eng.twoRun Try.prog Go.Eng.noSums (⟨14, 16, 31, 37, 40⟩ : Go.Eng.Fns) 1000 60 12 .long (.row [5, 1])) = true := by kernel_rfl
set_option maxRecDepth 100000 in
theorem r3_33 : Go.Eng.isTrue (Go.Eng.twoRun Try.prog Go.Eng.noSums (⟨14, 16, 31, 37, 40⟩ : Go.Eng.Fns) 1000 60 12 .long (.row [6])) = true := by kernel_rfl
theorem r3 : Go.Eng.AllL (fun c => Go.Eng.isTrue (Go.Eng.twoRun Try.prog Go.Eng.noSums (⟨14, 16, 31, 37, 40⟩ : Go.Eng.Fns) 1000 60 12 .long c) = true) Go.Eng.classes := by
  unfold Go.Eng.classes
  rw [Go.Eng.shares_eq]
  exact ⟨r3_0, r3_1, r3_2, r3_3, r3_4, r3_5, r3_6, r3_7, r3_8, r3_9, r3_10, r3_11, r3_12, r3_13, r3_14, r3_15, r3_16, r3_17, r3_18, r3_19, r3_20, r3_21, r3_22, r3_23, r3_24, r3_25, r3_26, r3_27, r3_28, r3_29, r3_30, r3_31, r3_32, r3_33, trivial⟩
set_option maxRecDepth 100000 in
theorem r6_0 : Go.Eng.isTrue (Go.Eng.twoRun Try.prog Go.Eng.noSums (⟨14, 16, 31, 37, 40⟩ : Go.Eng.Fns) 1000 60 12 (.row [1, 1]) .nil) = true := by kernel_rfl
set_option maxRecDepth 100000 in
theorem r6_1 : Go.Eng.isTrue (Go.Eng.twoRun Try.prog Go.Eng.noSums (⟨14, 16, 31, 37, 40⟩ : Go.Eng.Fns) 1000 60 12 (.row [1, 1]) .zero) = true := by kernel_rfl
set_option maxRecDepth 100000 in
theorem r6_2 : Go.Eng.isTrue (Go.Eng.twoRun Try.prog Go.Eng.noSums (⟨14, 16, 31, 37, 40⟩ : Go.Eng.Fns) 1000 60 12 (.row [1, 1]) .no) = true := by kernel_rfl
set_option maxRecDepth 100000 in
theorem r6_3 : Go.Eng.isTrue (Go.Eng.twoRun Try.prog Go.Eng.noSums (⟨14, 16, 31, 37, 40⟩ : Go.Eng.Fns) 1000 60 12 (.row [1, 1]) .long) = true := by kernel_rfl
set_option maxRecDepth 100000 in
theorem r6_4 : Go.Eng.isTrue (Go.Eng.twoRun Try.prog Go.Eng.noSums (⟨14, 16, 31, 37, 40⟩ : Go.Eng.Fns) 1000 60 12 (.row [1, 1]) (.row [])) = true := by kernel_rfl
set_option maxRecDepth 100000 in
theorem r6_5 : Go.Eng.isTrue (Go.Eng.twoRun Try.prog Go.Eng.noSums (⟨14, 16, 31, 37, 40⟩ : Go.Eng.Fns) 1000 60 12 (.row [1, 1]) (.row [1])) = true := by kernel_rfl
set_option maxRecDepth 100000 in
theorem r6_6 : Go.Eng.isTrue (Go.Eng.twoRun Try.prog Go.Eng.noSums (⟨14, 16, 31, 37, 40⟩ : Go.Eng.Fns) 1000 60 12 (.row [1, 1]) (.row [1, 1])) = true := by kernel_rfl
set_option maxRecDepth 100000 in
theorem r6_7 : Go.Eng.isTrue (Go.Eng.twoRun Try.prog Go.Eng.noSums (⟨14, 16, 31, 37, 40⟩ : Go.Eng.Fns) 1000 60 12 (.row [1, 1]) (.row [1, 1, 1])) = true := by kernel_rfl
set_option maxRecDepth 100000 in
theorem r6_8 : Go.Eng.isTrue (Go.Eng.twoRun Try.prog Go.Eng.noSums (⟨14, 16, 31, 37, 40⟩ : Go.Eng.Fns) 1000 60 12 (.row [1, 1]) (.row [1, 1, 1, 1])) = true := by kernel_rfl
set_option maxRecDepth 100000 in
theorem r6_9 : Go.Eng.isTrue (Go.Eng.twoRun Try.prog Go.Eng.noSums (⟨14, 16, 31, 37, 40⟩ : Go.Eng.Fns) 1000 60 12 (.row [1, 1]) (.row [1, 1, 1, 1, 1])) = true := by kernel_rfl
set_option maxRecDepth 100000 in
theorem r6_10 : Go.Eng.isTrue (Go.Eng.twoRun Try.prog Go.Eng.noSums (⟨14, 16, 31, 37, 40⟩ : Go.Eng.Fns) 1000 60 12 (.row [1, 1]) (.row [1, 1, 1, 1, 1, 1])) = true := by kernel_rfl
set_option maxRecDepth 100000 in
theorem r6_11 : Go.Eng.isTrue (Go.Eng.twoRun Try.prog Go.Eng.noSums (⟨14, 16, 31, 37, 40⟩ : Go.Eng.Fns) 1000 60 12 (.row [1, 1]) (.row [2])) = true := by kernel_rfl
set_option maxRecDepth 100000 in
theorem r6_12 : Go.Eng.isTrue (Go.Eng.twoRun Try.prog Go.Eng.noSums (⟨14, 16, 31, 37, 40⟩ : Go.Eng.Fns) 1000 60 12 (.row [1, 1]) (.row [2, 1])) = true := by kernel_rfl
set_option maxRecDepth 100000 in
theorem r6_13 : Go.Eng.isTrue (Go.Eng.twoRun Try.prog Go.Eng.noSums (⟨14, 16, 31, 37, 40⟩ : Go.Eng.Fns) 1000 60 12 (.row [1, 1]) (.row [2, 1, 1])) = true := by kernel_rfl
set_option maxRecDepth 100000 in
theorem r6_14 : Go.Eng.isTrue (Go.Eng.twoRun Try.prog Go.Eng.noSums (⟨14, 16, 31, 37, 40⟩ : Go.Eng.Fns) 1000 60 12 (.row [1, 1]) (.row [2, 1, 1, 1])) = true := by kernel_rfl
set_option maxRecDepth 100000 in
theorem r6_15 : Go.Eng.isTrue (Go.Eng.twoRun Try.prog Go.Eng.noSums (⟨14, 16, 31, 37, 40⟩ : Go.Eng.Fns) 1000 60 12 (.row [1, 1]) (.row [2, 1, 1, 1, 1])) = true := by kernel_rfl
set_option maxRecDepth 100000 in
theorem r6_16 : Go.Eng.isTrue (Go.Eng.twoRun Try.prog Go.Eng.noSums (⟨14, 16, 31, 37, 40⟩ : Go.Eng.Fns) 1000 60 12 (.row [1, 1]) (.row [2, 2])) = true := by kernel_rfl
set_option maxRecDepth 100000 in
theorem r6_17 : Go.Eng.isTrue (Go.Eng.twoRun Try.prog Go.Eng.noSums (⟨14, 16, 31, 37, 40⟩ : Go.Eng.Fns) 1000 60 12 (.row [1, 1]) (.row [2, 2, 1])) = true := by kernel_rfl
set_option maxRecDepth 100000 in
theorem r6_18 : Go.Eng.isTrue (Go.Eng.twoRun Try.prog Go.Eng.noSums (⟨14, 16, 31, 37, 40⟩ : Go.Eng.Fns) 1000 60 12 (.row [1, 1]) (.row [2, 2, 1, 1])) = true := by kernel_rfl
set_option maxRecDepth 100000 in
theorem r6_19 : Go.Eng.isTrue (Go.Eng.twoRun Try.prog Go.Eng.noSums (⟨14, 16, 31, 37, 40⟩ : Go.Eng.Fns) 1000 60 12 (.row [1, 1]) (.row [2, 2, 2])) = true := by kernel_rfl
set_option maxRecDepth 100000 in
theorem r6_20 : Go.Eng.isTrue (Go.Eng.twoRun Try.prog Go.Eng.noSums (⟨14, 16, 31, 37, 40⟩ : Go.Eng.Fns) 1000 60 12 (.row [1, 1]) (.row [3])) = true := by kernel_rfl
set_option maxRecDepth 100000 in
theorem r6_21 : Go.Eng.isTrue (Go.Eng.twoRun Try.prog Go.Eng.noSums (⟨14, 16, 31, 37, 40⟩ : Go.Eng.Fns) 1000 60 12 (.row [1, 1]) (.row [3, 1])) = true := by kernel_rfl
set_option maxRecDepth 100000 in
theorem r6_22 : Go.Eng.isTrue (Go.Eng.twoRun Try.prog Go.Eng.noSums (⟨14, 16, 31, 37, 40⟩ : Go.Eng.Fns) 1000 60 12 (.row [1, 1]) (.row [3, 1, 1])) = true := by kernel_rfl
set_option maxRecDepth 100000 in
theorem r6_23 : Go.Eng.isTrue (Go.Eng.twoRun Try.prog Go.Eng.noSums (⟨14, 16, 31, 37, 40⟩ : Go.Eng.Fns) 1000 60 12 (.row [1, 1]) (.row [3, 1, 1, 1])) = true := by kernel_rfl
set_option maxRecDepth 100000 in
theorem r6_24 : Go.Eng.isTrue (Go.Eng.twoRun Try.prog Go.Eng.noSums (⟨14, 16, 31, 37, 40⟩ : Go.Eng.Fns) 1000 60 12 (.row [1, 1]) (.row [3, 2])) = true := by kernel_rfl
set_option maxRecDepth 100000 in
theorem r6_25 : Go.Eng.isTrue (Go.Eng.twoRun Try.prog Go.Eng.noSums (⟨14, 16, 31, 37, 40⟩ : Go.Eng.Fns) 1000 60 12 (.row [1, 1]) (.row [3, 2, 1])) = true := by kernel_rfl
set_option maxRecDepth 100000 in
theorem r6_26 : Go.Eng.isTrue (Go.Eng.twoRun Try.prog Go.Eng.noSums (⟨14, 16, 31, 37, 40⟩ : Go.Eng.Fns) 1000 60 12 (.row [1, 1]) (.row [3, 3])) = true := by kernel_rfl
set_option maxRecDepth 100000 in
theorem r6_27 : Go.Eng.isTrue (Go.Eng.twoRun Try.prog Go.Eng.noSums (⟨14, 16, 31, 37, 40⟩ : Go.Eng.Fns) 1000 60 12 (.row [1, 1]) (.row [4])) = true := by kernel_rfl
set_option maxRecDepth 100000 in
theorem r6_28 : Go.Eng.isTrue (Go.Eng.twoRun Try.prog Go.Eng.noSums (⟨14, 16, 31, 37, 40⟩ : Go.Eng.Fns) 1000 60 12 (.row [1, 1]) (.row [4, 1])) = true := by kernel_rfl
set_option maxRecDepth 100000 in
theorem r6_29 : Go.Eng.isTrue (Go.Eng.twoRun Try.prog Go.Eng.noSums (⟨14, 16, 31, 37, 40⟩ : Go.Eng.Fns) 1000 60 12 (.row [1, 1]) (.row [4, 1, 1])) = true := by kernel_rfl
set_option maxRecDepth 100000 in
theorem r6_30 : Go.Eng.isTrue (Go.Eng.twoRun Try.prog Go.Eng.noSums (⟨14, 16, 31, 37, 40⟩ : Go.Eng.Fns) 1000 60 12 (.row [1, 1]) (.row [4, 2])) = true := by kernel_rfl
set_option maxRecDepth 100000 in
theorem r6_31 : Go.Eng.isTrue (Go.Eng.twoRun Try.prog Go.Eng.noSums (⟨14, 16, 31, 37, 40⟩ : Go.Eng.Fns) 1000 60 12 (.row [1, 1]) (.row [5])) = true := by kernel_rfl
set_option maxRecDepth 100000 in
theorem r6_32 : Go.Eng.isTrue (Go.Eng.twoRun Try.prog Go.Eng.noSums (⟨14, 16, 31, 37, 40⟩ : Go.Eng.Fns) 1000 60 12 (.row [1, 1]) (.row [5, 1])) = true := by kernel_rfl
set_option maxRecDepth 100000 in
theorem r6_33 : Go.Eng.isTrue (Go.Eng.twoRun Try.prog Go.Eng.noSums (⟨14, 16, 31, 37, 40⟩ : Go.Eng.Fns) 1000 60 12 (.row [1, 1]) (.row [6])) = true := by kernel_rfl
theorem r6 : Go.Eng.AllL (fun c => Go.Eng.isTrue (Go.Eng.twoRun Try.prog Go.Eng.noSums (⟨14, 16, 31, 37, 40⟩ : Go.Eng.Fns) 1000 60 12 (.row [1, 1]) c) = true) Go.Eng.classes := by
  unfold Go.Eng.classes
  rw [Go.Eng.shares_eq]
  exact ⟨r6_0, r6_1, r6_2, r6_3, r6_4, r6_5, r6_6, r6_7, r6_8, r6_9, r6_10, r6_11, r6_12, r6_13, r6_14, r6_15, r6_16, r6_17, r6_18, r6_19, r6_20, r6_21, r6_22, r6_23, r6_24, r6_25, r6_26, r6_27, r6_28, r6_29, r6_30, r6_31, r6_32, r6_33, trivial⟩
set_option maxRecDepth 100000 in
theorem r9_0 : Go.Eng.isTrue (Go.Eng.twoRun Try.prog Go.Eng.noSums (⟨14, 16, 31, 37, 40⟩ : Go.Eng.Fns) 1000 60 12 (.row [1, 1, 1, 1, 1]) .nil) = true := by kernel_rfl
set_option maxRecDepth 100000 in
theorem r9_1 : Go.Eng.isTrue (Go.Eng.twoRun Try.prog Go.Eng.noSums (⟨14, 16, 31, 37, 40⟩ : Go.Eng.Fns) 1000 60 12 (.row [1, 1, 1, 1, 1]) .zero) = true := by kernel_rfl
set_option maxRecDepth 100000 in
theorem r9_2 : Go.Eng.isTrue (Go.Eng.twoRun Try.prog Go.Eng.noSums (⟨14, 16, 31, 37, 40⟩ : Go.Eng.Fns) 1000 60 12 (.row [1, 1, 1, 1, 1]) .no) = true := by kernel_rfl
set_option maxRecDepth 100000 in
theorem r9_3 : Go.Eng.isTrue (Go.Eng.twoRun Try.prog Go.Eng.noSums (⟨14, 16, 31, 37, 40⟩ : Go.Eng.Fns) 1000 60 12 (.row [1, 1, 1, 1, 1]) .long) = true := by kernel_rfl
set_option maxRecDepth 100000 in
theorem r9_4 : Go.Eng.isTrue (Go.Eng.twoRun Try.prog Go.Eng.noSums (⟨14, 16, 31, 37, 40⟩ : Go.Eng.Fns) 1000 60 12 (.row [1, 1, 1, 1, 1]) (.row [])) = true := by kernel_rfl
set_option maxRecDepth 100000 in
theorem r9_5 : Go.Eng.isTrue (Go.Eng.twoRun Try.prog Go.Eng.noSums (⟨14, 16, 31, 37, 40⟩ : Go.Eng.Fns) 1000 60 12 (.row [1, 1, 1, 1, 1]) (.row [1])) = true := by kernel_rfl
set_option maxRecDepth 100000 in
theorem r9_6 : Go.Eng.isTrue (Go.Eng.twoRun Try.prog Go.Eng.noSums (⟨14, 16, 31, 37, 40⟩ : Go.Eng.Fns) 1000 60 12 (.row [1, 1, 1, 1, 1]) (.row [1, 1])) = true := by kernel_rfl
set_option maxRecDepth 100000 in
theorem r9_7 : Go.Eng.isTrue (Go.Eng.twoRun Try.prog Go.Eng.noSums (⟨14, 16, 31, 37, 40⟩ : Go.Eng.Fns) 1000 60 12 (.row [1, 1, 1, 1, 1]) (.row [1, 1, 1])) = true := by kernel_rfl
set_option maxRecDepth 100000 in
theorem r9_8 : Go.Eng.isTrue (Go.Eng.twoRun Try.prog Go.Eng.noSums (⟨14, 16, 31, 37, 40⟩ : Go.Eng.Fns) 1000 60 12 (.row [1, 1, 1, 1, 1]) (.row [1, 1, 1, 1])) = true := by kernel_rfl
set_option maxRecDepth 100000 in
theorem r9_9 : Go.Eng.isTrue (Go.Eng.twoRun Try.prog Go.Eng.noSums (⟨14, 16, 31, 37, 40⟩ : Go.Eng.Fns) 1000 60 12 (.row [1, 1, 1, 1, 1]) (.row [1, 1, 1, 1, 1])) = true := by kernel_rfl
set_option maxRecDepth 100000 in
theorem r9_10 : Go.Eng.isTrue (Go.Eng.twoRun Try.prog Go.Eng.noSums (⟨14, 16, 31, 37, 40⟩ : Go.Eng.Fns) 1000 60 12 (.row [1, 1, 1, 1, 1]) (.row [1, 1, 1, 1, 1, 1])) = true := by kernel_rfl
set_option maxRecDepth 100000 in
theorem r9_11 : Go.Eng.isTrue (Go.Eng.twoRun Try.prog Go.Eng.noSums (⟨14, 16, 31, 37, 40⟩ : Go.Eng.Fns) 1000 60 12 (.row [1, 1, 1, 1, 1]) (.row [2])) = true := by kernel_rfl
set_option maxRecDepth 100000 in
theorem r9_12 : Go.Eng.isTrue (Go.Eng.twoRun Try.prog Go.Eng.noSums (⟨14, 16, 31, 37, 40⟩ : Go.Eng.Fns) 1000 60 12 (.row [1, 1, 1, 1, 1]) (.row [2, 1])) = true := by kernel_rfl
set_option maxRecDepth 100000 in
theorem r9_13 : Go.Eng.isTrue (Go.Eng.twoRun Try.prog Go.Eng.noSums (⟨14, 16, 31, 37, 40⟩ : Go.Eng.Fns) 1000 60 12 (.row [1, 1, 1, 1, 1]) (.row [2, 1, 1])) = true := by kernel_rfl
set_option maxRecDepth 100000 in
theorem r9_14 : Go.Eng.isTrue (Go.Eng.twoRun Try.prog Go.Eng.noSums (⟨14, 16, 31, 37, 40⟩ : Go.Eng.Fns) 1000 60 12 (.row [1, 1, 1, 1, 1]) (.row [2, 1, 1, 1])) = true := by kernel_rfl
set_option maxRecDepth 100000 in
theorem r9_15 : Go.Eng.isTrue (Go.Eng.twoRun Try.prog Go.Eng.noSums (⟨14, 16, 31, 37, 40⟩ : Go.Eng.Fns) 1000 60 12 (.row [1, 1, 1, 1, 1]) (.row [2, 1, 1, 1, 1])) = true := by kernel_rfl
set_option maxRecDepth 100000 in
theorem r9_16 : Go.Eng.isTrue (Go.Eng.twoRun Try.prog Go.Eng.noSums (⟨14, 16, 31, 37, 40⟩ : Go.Eng.Fns) 1000 60 12 (.row [1, 1, 1, 1, 1]) (.row [2, 2])) = true := by kernel_rfl
set_option maxRecDepth 100000 in
theorem r9_17 : Go.Eng.isTrue (Go.Eng.twoRun Try.prog Go.Eng.noSums (⟨14, 16, 31, 37, 40⟩ : Go.Eng.Fns) 1000 60 12 (.row [1, 1, 1, 1, 1]) (.row [2, 2, 1])) = true := by kernel_rfl
set_option maxRecDepth 100000 in
theorem r9_18 : Go.Eng.isTrue (Go.Eng.twoRun Try.prog Go.Eng.noSums (⟨14, 16, 31, 37, 40⟩ : Go.Eng.Fns) 1000 60 12 (.row [1, 1, 1, 1, 1]) (.row [2, 2, 1, 1])) = true := by kernel_rfl
set_option maxRecDepth 100000 in
theorem r9_19 : Go.Eng.isTrue (Go.Eng.twoRun Try.prog Go.Eng.noSums (⟨14, 16, 31, 37, 40⟩ : Go.Eng.Fns) 1000 60 12 (.row [1, 1, 1, 1, 1]) (.row [2, 2, 2])) = true := by kernel_rfl
set_option maxRecDepth 100000 in
theorem r9_20 : Go.Eng.isTrue (Go.Eng.twoRun Try.prog Go.Eng.noSums (⟨14, 16, 31, 37, 40⟩ : Go.Eng.Fns) 1000 60 12 (.row [1, 1, 1, 1, 1]) (.row [3])) = true := by kernel_rfl
set_option maxRecDepth 100000 in
theorem r9_21 : Go.Eng.isTrue (Go.Eng.twoRun Try.prog Go.Eng.noSums (⟨14, 16, 31, 37, 40⟩ : Go.Eng.Fns) 1000 60 12 (.row [1, 1, 1, 1, 1]) (.row [3, 1])) = true := by kernel_rfl
set_option maxRecDepth 100000 in
theorem r9_22 : Go.Eng.isTrue (Go.Eng.twoRun Try.prog Go.Eng.noSums (⟨14, 16, 31, 37, 40⟩ : Go.Eng.Fns) 1000 60 12 (.row [1, 1, 1, 1, 1]) (.row [3, 1, 1])) = true := by kernel_rfl
set_option maxRecDepth 100000 in
theorem r9_23 : Go.Eng.isTrue (Go.Eng.twoRun Try.prog Go.Eng.noSums (⟨14, 16, 31, 37, 40⟩ : Go.Eng.Fns) 1000 60 12 (.row [1, 1, 1, 1, 1]) (.row [3, 1, 1, 1])) = true := by kernel_rfl
set_option maxRecDepth 100000 in
theorem r9_24 : Go.Eng.isTrue (Go.Eng.twoRun Try.prog Go.Eng.noSums (⟨14, 16, 31, 37, 40⟩ : Go.Eng.Fns) 1000 60 12 (.row [1, 1, 1, 1, 1]) (.row [3, 2])) = true := by kernel_rfl
set_option maxRecDepth 100000 in
theorem r9_25 : Go.Eng.isTrue (Go.Eng.twoRun Try.prog Go.Eng.noSums (⟨14, 16, 31, 37, 40⟩ : Go.Eng.Fns) 1000 60 12 (.row [1, 1, 1, 1, 1]) (.row [3, 2, 1])) = true := by kernel_rfl
set_option maxRecDepth 100000 in
theorem r9_26 : Go.Eng.isTrue (Go.Eng.twoRun Try.prog Go.Eng.noSums (⟨14, 16, 31, 37, 40⟩ : Go.Eng.Fns) 1000 60 12 (.row [1, 1, 1, 1, 1]) (.row [3, 3])) = true := by kernel_rfl
set_option maxRecDepth 100000 in
theorem r9_27 : Go.Eng.isTrue (Go.Eng.twoRun Try.prog Go.Eng.noSums (⟨14, 16, 31, 37, 40⟩ : Go.Eng.Fns) 1000 60 12 (.row [1, 1, 1, 1, 1]) (.row [4])) = true := by kernel_rfl
set_option maxRecDepth 100000 in
theorem r9_28 : Go.Eng.isTrue (Go.Eng.twoRun Try.prog Go.Eng.noSums (⟨14, 16, 31, 37, 40⟩ : Go.Eng.Fns) 1000 60 12 (.row [1, 1, 1, 1, 1]) (.row [4, 1])) = true := by kernel_rfl
set_option maxRecDepth 100000 in
theorem r9_29 : Go.Eng.isTrue (Go.Eng.twoRun Try.prog Go.Eng.noSums (⟨14, 16, 31, 37, 40⟩ : Go.Eng.Fns) 1000 60 12 (.row [1, 1, 1, 1, 1]) (.row [4, 1, 1])) = true := by kernel_rfl
set_option maxRecDepth 100000 in
theorem r9_30 : Go.Eng.isTrue (Go.Eng.twoRun Try.prog Go.Eng.noSums (⟨14, 16, 31, 37, 40⟩ : Go.Eng.Fns) 1000 60 12 (.row [1, 1, 1, 1, 1]) (.row [4, 2])) = true := by kernel_rfl
set_option maxRecDepth 100000 in
theorem r9_31 : Go.Eng.isTrue (Go.Eng.twoRun Try.prog Go.Eng.noSums (⟨14, 16, 31, 37, 40⟩ : Go.Eng.Fns) 1000 60 12 (.row [1, 1, 1, 1, 1]) (.row [5])) = true := by kernel_rfl
set_option maxRecDepth 100000 in
theorem r9_32 : Go.Eng.isTrue (Go.Eng.twoRun Try.prog Go.Eng.noSums (⟨14, 16, 31, 37, 40⟩ : Go.Eng.Fns) 1000 60 12 (.row [1, 1, 1, 1, 1]) (.row [5, 1])) = true := by kernel_rfl
set_option maxRecDepth 100000 in
theorem r9_33 : Go.Eng.isTrue (Go.Eng.twoRun Try.prog Go.Eng.noSums (⟨14, 16, 31, 37, 40⟩ : Go.Eng.Fns) 1000 60 12 (.row [1, 1, 1, 1, 1]) (.row [6])) = true := by kernel_rfl
theorem r9 : Go.Eng.AllL (fun c => Go.Eng.isTrue (Go.Eng.twoRun Try.prog Go.Eng.noSums (⟨14, 16, 31, 37, 40⟩ : Go.Eng.Fns) 1000 60 12 (.row [1, 1, 1, 1, 1]) c) = true) Go.Eng.classes := by
  unfold Go.Eng.classes
  rw [Go.Eng.shares_eq]
  exact ⟨r9_0, r9_1, r9_2, r9_3, r9_4, r9_5, r9_6, r9_7, r9_8, r9_9, r9_10, r9_11, r9_12, r9_13, r9_14, r9_15, r9_16, r9_17, r9_18, r9_19, r9_20, r9_21, r9_22, r9_23, r9_24, r9_25, r9_26, r9_27, r9_28, r9_29, r9_30, r9_31, r9_32, r9_33, trivial⟩
set_option maxRecDepth 100000 in
theorem r12_0 : Go.Eng.isTrue (Go.Eng.twoRun Try.prog Go.Eng.noSums (⟨14, 16, 31, 37, 40⟩ : Go.Eng.Fns) 1000 60 12 (.row [2, 1]) .nil) = true := by kernel_rfl
set_option maxRecDepth 100000 in
theorem r12_1 : Go.Eng.isTrue (Go.Eng.twoRun Try.prog Go.Eng.noSums (⟨14, 16, 31, 37, 40⟩ : Go.Eng.Fns) 1000 60 12 (.row [2, 1]) .zero) = true := by kernel_rfl
set_option maxRecDepth 100000 in
theorem r12_2 : Go.Eng.isTrue (Go.Eng.twoRun Try.prog Go.Eng.noSums (⟨14, 16, 31, 37, 40⟩ : Go.Eng.Fns) 1000 60 12 (.row [2, 1]) .no) = true := by kernel_rfl
set_option maxRecDepth 100000 in
theorem r12_3 : Go.Eng.isTrue (Go.Eng.twoRun Try.prog Go.Eng.noSums (⟨14, 16, 31, 37, 40⟩ : Go.Eng.Fns) 1000 60 12 (.row [2, 1]) .long) = true := by kernel_rfl
set_option maxRecDepth 100000 in
theorem r12_4 : Go.Eng.isTrue (Go.Eng.twoRun Try.prog Go.Eng.noSums (⟨14, 16, 31, 37, 40⟩ : Go.Eng.Fns) 1000 60 12 (.row [2, 1]) (.row [])) = true := by kernel_rfl
set_option maxRecDepth 100000 in
theorem r12_5 : Go.Eng.isTrue (Go.Eng.twoRun Try.prog Go.Eng.noSums (⟨14, 16, 31, 37, 40⟩ : Go.Eng.Fns) 1000 60 12 (.row [2, 1]) (.row [1])) = true := by kernel_rfl
set_option maxRecDepth 100000 in
theorem r12_6 : Go.Eng.isTrue (Go.Eng.twoRun Try.prog Go.Eng.noSums (⟨14, 16, 31, 37, 40⟩ : Go.Eng.Fns) 1000 60 12 (.row [2, 1]) (.row [1, 1])) = true := by kernel_rfl
set_option maxRecDepth 100000 in
theorem r12_7 : Go.Eng.isTrue (Go.Eng.twoRun Try.prog Go.Eng.noSums (⟨14, 16, 31, 37, 40⟩ : Go.Eng.Fns) 1000 60 12 (.row [2, 1]) (.row [1, 1, 1])) = true := by kernel_rfl
set_option maxRecDepth 100000 in
theorem r12_8 : Go.Eng.isTrue (Go.Eng.twoRun Try.prog Go.Eng.noSums (⟨14, 16, 31, 37, 40⟩ : Go.Eng.Fns) 1000 60 12 (.row [2, 1]) (.row [1, 1, 1, 1])) = true := by kernel_rfl
set_option maxRecDepth 100000 in
theorem r12_9 : Go.Eng.isTrue (Go.Eng.twoRun Try.prog Go.Eng.noSums (⟨14, 16, 31, 37, 40⟩ : Go.Eng.Fns) 1000 60 12 (.row [2, 1]) (.row [1, 1, 1, 1, 1])) = true := by kernel_rfl
set_option maxRecDepth 100000 in
theorem r12_10 : Go.Eng.isTrue (Go.Eng.twoRun Try.prog Go.Eng.noSums (⟨14, 16, 31, 37, 40⟩ : Go.Eng.Fns) 1000 60 12 (.row [2, 1]) (.row [1, 1, 1, 1, 1, 1])) = true := by kernel_rfl
set_option maxRecDepth 100000 in
theorem r12_11 : Go.Eng.isTrue (Go.Eng.twoRun Try.prog Go.Eng.noSums (⟨14, 16, 31, 37, 40⟩ : Go.Eng.Fns) 1000 60 12 (.row [2, 1]) (.row [2])) = true := by kernel_rfl
set_option maxRecDepth 100000 in
theorem r12_12 : Go.Eng.isTrue (Go.Eng.twoRun Try.prog Go.Eng.noSums (⟨14, 16, 31, 37, 40⟩ : Go.Eng.Fns) 1000 60 12 (.row [2, 1]) (.row [2, 1])) = true := by kernel_rfl
set_option maxRecDepth 100000 in
theorem r12_13 : Go.Eng.isTrue (Go.Eng.twoRun Try.prog Go.Eng.noSums (⟨14, 16, 31, 37, 40⟩ : Go.Eng.Fns) 1000 60 12 (.row [2, 1]) (.row [2, 1, 1])) = true := by kernel_rfl
set_option maxRecDepth 100000 in
theorem r12_14 : Go.Eng.isTrue (Go.Eng.twoRun Try.prog Go.Eng.noSums (⟨14, 16, 31, 37, 40⟩ : Go.Eng.Fns) 1000 60 12 (.row [2, 1]) (.row [2, 1, 1, 1])) = true := by kernel_rfl
set_option maxRecDepth 100000 in
theorem r12_15 : Go.Eng.isTrue (Go.Eng.twoRun Try.prog Go.Eng.noSums (⟨14, 16, 31, 37, 40⟩ : Go.Eng.Fns) 1000 60 12 (.row [2, 1]) (.row [2, 1, 1, 1, 1])) = true := by kernel_rfl
set_option maxRecDepth 100000 in
theorem r12_16 : Go.Eng.isTrue (Go.Eng.twoRun Try.prog Go.Eng.noSums (⟨14, 16, 31, 37, 40⟩ : Go.Eng.Fns) 1000 60 12 (.row [2, 1]) (.row [2, 2])) = true := by kernel_rfl
set_option maxRecDepth 100000 in
theorem r12_17 : Go.Eng.isTrue (Go.Eng.twoRun Try.prog Go.Eng.noSums (⟨14, 16, 31, 37, 40⟩ : Go.Eng.Fns) 1000 60 12 (.row [2, 1]) (.row [2, 2, 1])) = true := by kernel_rfl
set_option maxRecDepth 100000 in
theorem r12_18 : Go.Eng.isTrue (Go.Eng.twoRun Try.prog Go.Eng.noSums (⟨14, 16, 31, 37, 40⟩ : Go.Eng.Fns) 1000 60 12 (.row [2, 1]) (.row [2, 2, 1, 1])) = true := by kernel_rfl
set_option maxRecDepth 100000 in
theorem r12_19 : Go.Eng.isTrue (Go.Eng.twoRun Try.prog Go.Eng.noSums (⟨14, 16, 31, 37, 40⟩ : Go.Eng.Fns) 1000 60 12 (.row [2, 1]) (.row [2, 2, 2])) = true := by kernel_rfl
set_option maxRecDepth 100000 in
theorem r12_20 : Go.Eng.isTrue (Go.Eng.twoRun Try.prog Go.Eng.noSums (⟨14, 16, 31, 37, 40⟩ : Go.Eng.Fns) 1000 60 12 (.row [2, 1]) (.row [3])) = true := by kernel_rfl
set_option maxRecDepth 100000 in
theorem r12_21 : Go.Eng.isTrue (Go.Eng.twoRun Try.prog Go.Eng.noSums (⟨14, 16, 31, 37, 40⟩ : Go.Eng.Fns) 1000 60 12 (.row [2, 1]) (.row [3, 1])) = true := by kernel_rfl
set_option maxRecDepth 100000 in
theorem r12_22 : Go.Eng.isTrue (Go.Eng.twoRun Try.prog Go.Eng.noSums (⟨14, 16, 31, 37, 40⟩ : Go.Eng.Fns) 1000 60 12 (.row [2, 1]) (.row [3, 1, 1])) = true := by kernel_rfl
set_option maxRecDepth 100000 in
theorem r12_23 : Go.Eng.isTrue (Go.Eng.twoRun Try.prog Go.Eng.noSums (⟨14, 16, 31, 37, 40⟩ : Go.Eng.Fns) 1000 60 12 (.row [2, 1]) (.row [3, 1, 1, 1])) = true := by kernel_rfl
set_option maxRecDepth 100000 in
theorem r12_24 : Go.Eng.isTrue (Go.Eng.twoRun Try.prog Go.Eng.noSums (⟨14, 16, 31, 37, 40⟩ : Go.Eng.Fns) 1000 60 12 (.row [2, 1]) (.row [3, 2])) = true := by kernel_rfl
set_option maxRecDepth 100000 in
theorem r12_25 : Go.Eng.isTrue (Go.Eng.twoRun Try.prog Go.Eng.noSums (⟨14, 16, 31, 37, 40⟩ : Go.Eng.Fns) 1000 60 12 (.row [2, 1]) (.row [3, 2, 1])) = true := by kernel_rfl
set_option maxRecDepth 100000 in
theorem r12_26 : Go.Eng.isTrue (Go.Eng.twoRun Try.prog Go.Eng.noSums (⟨14, 16, 31, 37, 40⟩ : Go.Eng.Fns) 1000 60 12 (.row [2, 1]) (.row [3, 3])) = true := by kernel_rfl
set_option maxRecDepth 100000 in
theorem r12_27 : Go.Eng.isTrue (Go.Eng.twoRun Try.prog Go.Eng.noSums (⟨14, 16, 31, 37, 40⟩ : Go.Eng.Fns) 1000 60 12 (.row [2, 1]) (.row [4])) = true := by kernel_rfl
set_option maxRecDepth 100000 in
theorem r12_28 : Go.Eng.isTrue (Go.Eng.twoRun Try.prog Go.Eng.noSums (⟨14, 16, 31, 37, 40⟩ : Go.Eng.Fns) 1000 60 12 (.row [2, 1]) (.row [4, 1])) = true := by kernel_rfl
set_option maxRecDepth 100000 in
theorem r12_29 : Go.Eng.isTrue (Go.Eng.twoRun Try.prog Go.Eng.noSums (⟨14, 16, 31, 37, 40⟩ : Go.Eng.Fns) 1000 60 12 (.row [2, 1]) (.row [4, 1, 1])) = true := by kernel_rfl
set_option maxRecDepth 100000 in
theorem r12_30 : Go.Eng.isTrue (Go.Eng.twoRun Try.prog Go.Eng.noSums (⟨14, 16, 31, 37, 40⟩ : Go.Eng.Fns) 1000 60 12 (.row [2, 1]) (.row [4, 2])) = true := by kernel_rfl
set_option maxRecDepth 100000 in
theorem r12_31 : Go.Eng.isTrue (Go.Eng.twoRun Try.prog Go.Eng.noSums (⟨14, 16, 31, 37, 40⟩ : Go.Eng.Fns) 1000 60 12 (.row [2, 1]) (.row [5])) = true := by kernel_rfl
set_option maxRecDepth 100000 in
theorem r12_32 : Go.Eng.isTrue (Go.Eng.twoRun Try.prog Go.Eng.noSums (⟨14, 16, 31, 37, 40⟩ : Go.Eng.Fns) 1000 60 12 (.row [2, 1]) (.row [5, 1])) = true := by kernel_rfl
set_option maxRecDepth 100000 in
theorem r12_33 : Go.Eng.isTrue (Go.Eng.twoRun Try.prog Go.Eng.noSums (⟨14, 16, 31, 37, 40⟩ : Go.Eng.Fns) 1000 60 12 (.row [2, 1]) (.row [6])) = true := by kernel_rfl
theorem r12 : Go.Eng.AllL (fun c => Go.Eng.isTrue (Go.Eng.twoRun Try.prog Go.Eng.noSums (⟨14, 16, 31, 37, 40⟩ : Go.Eng.Fns) 1000 60 12 (.row [2, 1]) c) = true) Go.Eng.classes := by
  unfold Go.Eng.classes
  rw [Go.Eng.shares_eq]
  exact ⟨r12_0, r12_1, r12_2, r12_3, r12_4, r12_5, r12_6, r12_7, r12_8, r12_9, r12_10, r12_11, r12_12, r12_13, r12_14, r12_15, r12_16, r12_17, r12_18, r12_19, r12_20, r12_21, r12_22, r12_23, r12_24, r12_25, r12_26, r12_27, r12_28, r12_29, r12_30, r12_31, r12_32, r12_33, trivial⟩
set_option maxRecDepth 100000 in
theorem r15_0 : Go.Eng.isTrue (Go.Eng.twoRun Try.prog Go.Eng.noSums (⟨14, 16, 31, 37, 40⟩ : Go.Eng.Fns) 1000 60 12 (.row [2, 1, 1, 1, 1]) .nil) = true := by kernel_rfl
set_option maxRecDepth 100000 in
theorem r15_1 : Go.Eng.isTrue (Go.Eng.twoRun Try.prog Go.Eng.noSums (⟨14, 16, 31, 37, 40⟩ : Go.Eng.Fns) 1000 60 12 (.row [2, 1, 1, 1, 1]) .zero) = true := by kernel_rfl
set_option maxRecDepth 100000 in
theorem r15_2 : Go.Eng.isTrue (Go.Eng.twoRun Try.prog Go.Eng.noSums (⟨14, 16, 31, 37, 40⟩ : Go.Eng.Fns) 1000 60 12 (.row [2, 1, 1, 1, 1]) .no) = true := by kernel_rfl
set_option maxRecDepth 100000 in
theorem r15_3 : Go.Eng.isTrue (Go.Eng.twoRun Try.prog Go.Eng.noSums (⟨14, 16, 31, 37, 40⟩ : Go.Eng.Fns) 1000 60 12 (.row [2, 1, 1, 1, 1]) .long) = true := by kernel_rfl
set_option maxRecDepth 100000 in
theorem r15_4 : Go.Eng.isTrue (Go.Eng.twoRun Try.prog Go.Eng.noSums (⟨14, 16, 31, 37, 40⟩ : Go.Eng.Fns) 1000 60 12 (.row [2, 1, 1, 1, 1]) (.row [])) = true := by kernel_rfl
set_option maxRecDepth 100000 in
theorem r15_5 : Go.Eng.isTrue (Go.Eng.twoRun Try.prog Go.Eng.noSums (⟨14, 16, 31, 37, 40⟩ : Go.Eng.Fns) 1000 60 12 (.row [2, 1, 1, 1, 1]) (.row [1])) = true := by kernel_rfl
set_option maxRecDepth 100000 in
theorem r15_6 : Go.Eng.isTrue (Go.Eng.twoRun Try.prog Go.Eng.noSums (⟨14, 16, 31, 37, 40⟩ : Go.Eng.Fns) 1000 60 12 (.row [2, 1, 1, 1, 1]) (.row [1, 1])) = true := by kernel_rfl
set_option maxRecDepth 100000 in
theorem r15_7 : Go.Eng.isTrue (Go.Eng.twoRun Try.prog Go.Eng.noSums (⟨14, 16, 31, 37, 40⟩ : Go.Eng.Fns) 1000 60 12 (.row [2, 1, 1, 1, 1]) (.row [1, 1, 1])) = true := by kernel_rfl
set_option maxRecDepth 100000 in
theorem r15_8 : Go.Eng.isTrue (Go.Eng.twoRun Try.prog Go.Eng.noSums (⟨14, 16, 31, 37, 40⟩ : Go.Eng.Fns) 1000 60 12 (.row [2, 1, 1, 1, 1]) (.row [1, 1, 1, 1])) = true := by kernel_rfl
set_option maxRecDepth 100000 in
theorem r15_9 : Go.Eng.isTrue (Go.Eng.twoRun Try.prog Go.Eng.noSums (⟨14, 16, 31, 37, 40⟩ : Go.Eng.Fns) 1000 60 12 (.row [2, 1, 1, 1, 1]) (.row [1, 1, 1, 1, 1])) = true := by kernel_rfl
set_option maxRecDepth 100000 in
theorem r15_10 : Go.Eng.isTrue (Go.Eng.twoRun Try.prog Go.Eng.noSums (⟨14, 16, 31, 37, 40⟩ : Go.Eng.Fns) 1000 60 12 (.row [2, 1, 1, 1, 1]) (.row [1, 1, 1, 1, 1, 1])) = true := by kernel_rfl
set_option maxRecDepth 100000 in
theorem r15_11 : Go.Eng.isTrue (Go.Eng.twoRun Try.prog Go.Eng.noSums (⟨14, 16, 31, 37, 40⟩ : Go.Eng.Fns) 1000 60 12 (.row [2, 1, 1, 1, 1]) (.row [2])) = true := by kernel_rfl
set_option maxRecDepth 100000 in
theorem r15_12 : Go.Eng.isTrue (Go.Eng.twoRun Try.prog Go.Eng.noSums (⟨14, 16, 31, 37, 40⟩ : Go.Eng.Fns) 1000 60 12 (.row [2, 1, 1, 1, 1]) (.row [2, 1])) = true := by kernel_rfl
set_option maxRecDepth 100000 in
theorem r15_13 : Go.Eng.isTrue (Go.Eng.twoRun Try.prog Go.Eng.noSums (⟨14, 16, 31, 37, 40⟩ : Go.Eng.Fns) 1000 60 12 (.row [2, 1, 1, 1, 1]) (.row [2, 1, 1])) = true := by kernel_rfl
set_option maxRecDepth 100000 in
theorem r15_14 : Go.Eng.isTrue (Go.Eng.twoRun Try.prog Go.Eng.noSums (⟨14, 16, 31, 37, 40⟩ : Go.Eng.Fns) 1000 60 12 (.row [2, 1, 1, 1, 1]) (.row [2, 1, 1, 1])) = true := by kernel_rfl
set_option maxRecDepth 100000 in
theorem r15_15 : Go.Eng.isTrue (Go.Eng.twoRun Try.prog Go.Eng.noSums (⟨14, 16, 31, 37, 40⟩ : Go.Eng.Fns) 1000 60 12 (.row [2, 1, 1, 1, 1]) (.row [2, 1, 1, 1, 1])) = true := by kernel_rfl
set_option maxRecDepth 100000 in
theorem r15_16 : Go.Eng.isTrue (Go.Eng.twoRun Try.prog Go.Eng.noSums (⟨14, 16, 31, 37, 40⟩ : Go.Eng.Fns) 1000 60 12 (.row [2, 1, 1, 1, 1]) (.row [2, 2])) = true := by kernel_rfl
set_option maxRecDepth 100000 in
theorem r15_17 : Go.Eng.isTrue (Go.Eng.twoRun Try.prog Go.Eng.noSums (⟨14, 16, 31, 37, 40⟩ : Go.Eng.Fns) 1000 60 12 (.row [2, 1, 1, 1, 1]) (.row [2, 2, 1])) = true := by kernel_rfl
set_option maxRecDepth 100000 in
theorem r15_18 : Go.Eng.isTrue (Go.Eng.twoRun Try.prog Go.Eng.noSums (⟨14, 16, 31, 37, 40⟩ : Go.Eng.Fns) 1000 60 12 (.row [2, 1, 1, 1, 1]) (.row [2, 2, 1, 1])) = true := by kernel_rfl
set_option maxRecDepth 100000 in
theorem r15_19 : Go.Eng.isTrue (Go.Eng.twoRun Try.prog Go.Eng.noSums (⟨14, 16, 31, 37, 40⟩ : Go.Eng.Fns) 1000 60 12 (.row [2, 1, 1, 1, 1]) (.row [2, 2, 2])) = true := by kernel_rfl
set_option maxRecDepth 100000 in
theorem r15_20 : Go.Eng.isTrue (Go.Eng.twoRun Try.prog Go.Eng.noSums (⟨14, 16, 31, 37, 40⟩ : Go.Eng.Fns) 1000 60 12 (.row [2, 1, 1, 1, 1]) (.row [3])) = true := by kernel_rfl
set_option maxRecDepth 100000 in
theorem r15_21 : Go.Eng.isTrue (Go.Eng.twoRun Try.prog Go.Eng.noSums (⟨14, 16, 31, 37, 40⟩ : Go.Eng.Fns) 1000 60 12 (.row [2, 1, 1, 1, 1]) (.row [3, 1])) = true := by kernel_rfl
set_option maxRecDepth 100000 in
theorem r15_22 : Go.Eng.isTrue (Go.Eng.twoRun Try.prog Go.Eng.noSums (⟨14, 16, 31, 37, 40⟩ : Go.Eng.Fns) 1000 60 12 (.row [2, 1, 1, 1, 1]) (.row [3, 1, 1])) = true := by kernel_rfl
set_option maxRecDepth 100000 in
theorem r15_23 : Go.Eng.isTrue (Go.Eng.twoRun Try.prog Go.Eng.noSums (⟨14, 16, 31, 37, 40⟩ : Go.Eng.Fns) 1000 60 12 (.row [2, 1, 1, 1, 1]) (.row [3, 1, 1, 1])) = true := by kernel_rfl
set_option maxRecDepth 100000 in
theorem r15_24 : Go.Eng.isTrue (Go.Eng.twoRun Try.prog Go.Eng.noSums (⟨14, 16, 31, 37, 40⟩ : Go.Eng.Fns) 1000 60 12 (.row [2, 1, 1, 1, 1]) (.row [3, 2])) = true := by kernel_rfl
set_option maxRecDepth 100000 in
theorem r15_25 : Go.Eng.isTrue (Go.Eng.twoRun Try.prog Go.Eng.noSums (⟨14, 16, 31, 37, 40⟩ : Go.Eng.Fns) 1000 60 12 (.row [2, 1, 1, 1, 1]) (.row [3, 2, 1])) = true := by kernel_rfl
set_option maxRecDepth 100000 in
theorem r15_26 : Go.Eng.isTrue (Go.Eng.twoRun Try.prog Go.Eng.noSums (⟨14, 16, 31, 37, 40⟩ : Go.Eng.Fns) 1000 60 12 (.row [2, 1, 1, 1, 1]) (.row [3, 3])) = true := by kernel_rfl
set_option maxRecDepth 100000 in
theorem r15_27 : Go.Eng.isTrue (Go.Eng.twoRun Try.prog Go.Eng.noSums (⟨14, 16, 31, 37, 40⟩ : Go.Eng.Fns) 1000 60 12 (.row [2, 1, 1, 1, 1]) (.row [4])) = true := by kernel_rfl
set_option maxRecDepth 100000 in
theorem r15_28 : Go.Eng.isTrue (Go.Eng.twoRun Try.prog Go.Eng.noSums (⟨14, 16, 31, 37, 40⟩ : Go.Eng.Fns) 1000 60 12 (.row [2, 1, 1, 1, 1]) (.row [4, 1])) = true := by kernel_rfl
set_option maxRecDepth 100000 in
theorem r15_29 : Go.Eng.isTrue (Go.Eng.twoRun Try.prog Go.Eng.noSums (⟨14, 16, 31, 37, 40⟩ : Go.Eng.Fns) 1000 60 12 (.row [2, 1, 1, 1, 1]) (.row [4, 1, 1])) = true := by kernel_rfl
set_option maxRecDepth 100000 in
theorem r15_30 : Go.Eng.isTrue (Go.Eng.twoRun Try.prog Go.Eng.noSums (⟨14, 16, 31, 37, 40⟩ : Go.Eng.Fns) 1000 60 12 (.row [2, 1, 1, 1, 1]) (.row [4, 2])) = true := by kernel_rfl
set_option maxRecDepth 100000 in
theorem r15_31 : Go.Eng.isTrue (Go.Eng.twoRun Try.prog Go.Eng.noSums (⟨14, 16, 31, 37, 40⟩ : Go.Eng.Fns) 1000 60 12 (.row [2, 1, 1, 1, 1]) (.row [5])) = true := by kernel_rfl
set_option maxRecDepth 100000 in
theorem r15_32 : Go.Eng.isTrue (Go.Eng.twoRun Try.prog Go.Eng.noSums (⟨14, 16, 31, 37, 40⟩ : Go.Eng.Fns) 1000 60 12 (.row [2, 1, 1, 1, 1]) (.row [5, 1])) = true := by kernel_rfl
set_option maxRecDepth 100000 in
theorem r15_33 : Go.Eng.isTrue (Go.Eng.twoRun Try.prog Go.Eng.noSums (⟨14, 16, 31, 37, 40⟩ : Go.Eng.Fns) 1000 60 12 (.row [2, 1, 1, 1, 1]) (.row [6])) = true := by kernel_rfl
theorem r15 : Go.Eng.AllL (fun c => Go.Eng.isTrue (Go.Eng.twoRun Try.prog Go.Eng.noSums (⟨14, 16, 31, 37, 40⟩ : Go.Eng.Fns) 1000 60 12 (.row [2, 1, 1, 1, 1]) c) = true) Go.Eng.classes := by
  unfold Go.Eng.classes
  rw [Go.Eng.shares_eq]
  exact ⟨r15_0, r15_1, r15_2, r15_3, r15_4, r15_5, r15_6, r15_7, r15_8, r15_9, r15_10, r15_11, r15_12, r15_13, r15_14, r15_15, r15_16, r15_17, r15_18, r15_19, r15_20, r15_21, r15_22, r15_23, r15_24, r15_25, r15_26, r15_27, r15_28, r15_29, r15_30, r15_31, r15_32, r15_33, trivial⟩
set_option maxRecDepth 100000 in
theorem r18_0 : Go.Eng.isTrue (Go.Eng.twoRun Try.prog Go.Eng.noSums (⟨14, 16, 31, 37, 40⟩ : Go.Eng.Fns) 1000 60 12 (.row [2, 2, 1, 1]) .nil) = true := by kernel_rfl
set_option maxRecDepth 100000 in
theorem r18_1 : Go.Eng.isTrue (Go.Eng.twoRun Try.prog Go.Eng.noSums (⟨14, 16, 31, 37, 40⟩ : Go.Eng.Fns) 1000 60 12 (.row [2, 2, 1, 1]) .zero) = true := by kernel_rfl
set_option maxRecDepth 100000 in
theorem r18_2 : Go.Eng.isTrue (Go.Eng.twoRun Try.prog Go.Eng.noSums (⟨14, 16, 31, 37, 40⟩ : Go.Eng.Fns) 1000 60 12 (.row [2, 2, 1, 1]) .no) = true := by kernel_rfl
set_option maxRecDepth 100000 in
theorem r18_3 : Go.Eng.isTrue (Go.Eng.twoRun Try.prog Go.Eng.noSums (⟨14, 16, 31, 37, 40⟩ : Go.Eng.Fns) 1000 60 12 (.row [2, 2, 1, 1]) .long) = true := by kernel_rfl
set_option maxRecDepth 100000 in
theorem r18_4 : Go.Eng.isTrue (Go.Eng.twoRun Try.prog Go.Eng.noSums (⟨14, 16, 31, 37, 40⟩ : Go.Eng.Fns) 1000 60 12 (.row [2, 2, 1, 1]) (.row [])) = true := by kernel_rfl
set_option maxRecDepth 100000 in
theorem r18_5 : Go.Eng.isTrue (Go.Eng.twoRun Try.prog Go.Eng.noSums (⟨14, 16, 31, 37, 40⟩ : Go.Eng.Fns) 1000 60 12 (.row [2, 2, 1, 1]) (.row [1])) = true := by kernel_rfl
set_option maxRecDepth 100000 in
theorem r18_6 : Go.Eng.isTrue (Go.Eng.twoRun Try.prog Go.Eng.noSums (⟨14, 16, 31, 37, 40⟩ : Go.Eng.Fns) 1000 60 12 (.row [2, 2, 1, 1]) (.row [1, 1])) = true := by kernel_rfl
set_option maxRecDepth 100000 in
theorem r18_7 : Go.Eng.isTrue (Go.Eng.twoRun Try.prog Go.Eng.noSums (⟨14, 16, 31, 37, 40⟩ : Go.Eng.Fns) 1000 60 12 (.row [2, 2, 1, 1]) (.row [1, 1, 1])) = true := by kernel_rfl
set_option maxRecDepth 100000 in
theorem r18_8 : Go.Eng.isTrue (Go.Eng.twoRun Try.prog Go.Eng.noSums (⟨14, 16, 31, 37, 40⟩ : Go.Eng.Fns) 1000 60 12 (.row [2, 2, 1, 1]) (.row [1, 1, 1, 1])) = true := by kernel_rfl
set_option maxRecDepth 100000 in
theorem r18_9 : Go.Eng.isTrue (Go.Eng.twoRun Try.prog Go.Eng.noSums (⟨14, 16, 31, 37, 40⟩ : Go.Eng.Fns) 1000 60 12 (.row [2, 2, 1, 1]) (.row [1, 1, 1, 1, 1])) = true := by kernel_rfl
set_option maxRecDepth 100000 in
theorem r18_10 : Go.Eng.isTrue (Go.Eng.twoRun Try.prog Go.Eng.noSums (⟨14, 16, 31, 37, 40⟩ : Go.Eng.Fns) 1000 60 12 (.row [2, 2, 1, 1]) (.row [1, 1, 1, 1, 1, 1])) = true := by kernel_rfl
set_option maxRecDepth 100000 in
theorem r18_11 : Go.Eng.isTrue (Go.Eng.twoRun Try.prog Go.Eng.noSums (⟨14, 16, 31, 37, 40⟩ : Go.Eng.Fns) 1000 60 12 (.row [2, 2, 1, 1]) (.row [2])) = true := by kernel_rfl
set_option maxRecDepth 100000 in
theorem r18_12 : Go.Eng.isTrue (Go.Eng.twoRun Try.prog Go.Eng.noSums (⟨14, 16, 31, 37, 40⟩ : Go.Eng.Fns) 1000 60 12 (.row [2, 2, 1, 1]) (.row [2, 1])) = true := by kernel_rfl
set_option maxRecDepth 100000 in
theorem r18_13 : Go.Eng.isTrue (Go.Eng.twoRun Try.prog Go.Eng.noSums (⟨14, 16, 31, 37, 40⟩ : Go.Eng.Fns) 1000 60 12 (.row [2, 2, 1, 1]) (.row [2, 1, 1])) = true := by kernel_rfl
set_option maxRecDepth 100000 in
theorem r18_14 : Go.Eng.isTrue (Go.Eng.twoRun Try.prog Go.Eng.noSums (⟨14, 16, 31, 37, 40⟩ : Go.Eng.Fns) 1000 60 12 (.row [2, 2, 1, 1]) (.row [2, 1, 1, 1])) = true := by kernel_rfl
set_option maxRecDepth 100000 in
theorem r18_15 : Go.Eng.isTrue (Go.Eng.twoRun Try.prog Go.Eng.noSums (⟨14, 16, 31, 37, 40⟩ : Go.Eng.Fns) 1000 60 12 (.row [2, 2, 1, 1]) (.row [2, 1, 1, 1, 1])) = true := by kernel_rfl
set_option maxRecDepth 100000 in
theorem r18_16 : Go.Eng.isTrue (Go.Eng.twoRun Try.prog Go.Eng.noSums (⟨14, 16, 31, 37, 40⟩ : Go.Eng.Fns) 1000 60 12 (.row [2, 2, 1, 1]) (.row [2, 2])) = true := by kernel_rfl
set_option maxRecDepth 100000 in
theorem r18_17 : Go.Eng.isTrue (Go.Eng.twoRun Try.prog Go.Eng.noSums (⟨14, 16, 31, 37, 40⟩ : Go.Eng.Fns) 1000 60 12 (.row [2, 2, 1, 1]) (.row [2, 2, 1])) = true := by kernel_rfl
set_option maxRecDepth 100000 in
theorem r18_18 : Go.Eng.isTrue (Go.Eng.twoRun Try.prog Go.Eng.noSums (⟨14, 16, 31, 37, 40⟩ : Go.Eng.Fns) 1000 60 12 (.row [2, 2, 1, 1]) (.row [2, 2, 1, 1])) = true := by kernel_rfl
set_option maxRecDepth 100000 in
theorem r18_19 : Go.Eng.isTrue (Go.Eng.twoRun Try.prog Go.Eng.noSums (⟨14, 16, 31, 37, 40⟩ : Go.Eng.Fns) 1000 60 12 (.row [2, 2, 1, 1]) (.row [2, 2, 2])) = true := by kernel_rfl
set_option maxRecDepth 100000 in
theorem r18_20 : Go.Eng.isTrue (Go.Eng.twoRun Try.prog Go.Eng.noSums (⟨14, 16, 31, 37, 40⟩ : Go.Eng.Fns) 1000 60 12 (.row [2, 2, 1, 1]) (.row [3])) = true := by kernel_rfl
set_option maxRecDepth 100000 in
theorem r18_21 : Go.Eng.isTrue (Go.Eng.twoRun Try.prog Go.Eng.noSums (⟨14, 16, 31, 37, 40⟩ : Go.Eng.Fns) 1000 60 12 (.row [2, 2, 1, 1]) (.row [3, 1])) = true := by kernel_rfl
set_option maxRecDepth 100000 in
theorem r18_22 : Go.Eng.isTrue (Go.Eng.twoRun Try.prog Go.Eng.noSums (⟨14, 16, 31, 37, 40⟩ : Go.Eng.Fns) 1000 60 12 (.row [2, 2, 1, 1]) (.row [3, 1, 1])) = true := by kernel_rfl
set_option maxRecDepth 100000 in
theorem r18_23 : Go.Eng.isTrue (Go.Eng.twoRun Try.prog Go.Eng.noSums (⟨14, 16, 31, 37, 40⟩ : Go.Eng.Fns) 1000 60 12 (.row [2, 2, 1, 1]) (.row [3, 1, 1, 1])) = true := by kernel_rfl
set_option maxRecDepth 100000 in
theorem r18_24 : Go.Eng.isTrue (Go.Eng.twoRun Try.prog Go.Eng.noSums (⟨14, 16, 31, 37, 40⟩ : Go.Eng.Fns) 1000 60 12 (.row [2, 2, 1, 1]) (.row [3, 2])) = true := by kernel_rfl
set_option maxRecDepth 100000 in
theorem r18_25 : Go.Eng.isTrue (Go.Eng.twoRun Try.prog Go.Eng.noSums (⟨14, 16, 31, 37, 40⟩ : Go.Eng.Fns) 1000 60 12 (.row [2, 2, 1, 1]) (.row [3, 2, 1])) = true := by kernel_rfl
set_option maxRecDepth 100000 in
theorem r18_26 : Go.Eng.isTrue (Go.Eng.twoRun Try.prog Go.Eng.noSums (⟨14, 16, 31, 37, 40⟩ : Go.Eng.Fns) 1000 60 12 (.row [2, 2, 1, 1]) (.row [3, 3])) = true := by kernel_rfl
set_option maxRecDepth 100000 in
theorem r18_27 : Go.Eng.isTrue (Go.Eng.twoRun Try.prog Go.Eng.noSums (⟨14, 16, 31, 37, 40⟩ : Go.Eng.Fns) 1000 60 12 (.row [2, 2, 1, 1]) (.row [4])) = true := by kernel_rfl
set_option maxRecDepth 100000 in
theorem r18_28 : Go.Eng.isTrue (Go.Eng.twoRun Try.prog Go.Eng.noSums (⟨14, 16, 31, 37, 40⟩ : Go.Eng.Fns) 1000 60 12 (.row [2, 2, 1, 1]) (.row [4, 1])) = true := by kernel_rfl
set_option maxRecDepth 100000 in
theorem r18_29 : Go.Eng.isTrue (Go.Eng.twoRun Try.prog Go.Eng.noSums (⟨14, 16, 31, 37, 40⟩ : Go.Eng.Fns) 1000 60 12 (.row [2, 2, 1, 1]) (.row [4, 1, 1])) = true := by kernel_rfl
set_option maxRecDepth 100000 in
theorem r18_30 : Go.Eng.isTrue (Go.Eng.twoRun Try.prog Go.Eng.noSums (⟨14, 16, 31, 37, 40⟩ : Go.Eng.Fns) 1000 60 12 (.row [2, 2, 1, 1]) (.row [4, 2])) = true := by kernel_rfl
set_option maxRecDepth 100000 in
theorem r18_31 : Go.Eng.isTrue (Go.Eng.twoRun Try.prog Go.Eng.noSums (⟨14, 16, 31, 37, 40⟩ : Go.Eng.Fns) 1000 60 12 (.row [2, 2, 1, 1]) (.row [5])) = true := by kernel_rfl
set_option maxRecDepth 100000 in
theorem r18_32 : Go.Eng.isTrue (Go.Eng.twoRun Try.prog Go.Eng.noSums (⟨14, 16, 31, 37, 40⟩ : Go.Eng.Fns) 1000 60 12 (.row [2, 2, 1, 1]) (.row [5, 1])) = true := by kernel_rfl
set_option maxRecDepth 100000 in
theorem r18_33 : Go.Eng.isTrue (Go.Eng.twoRun Try.prog Go.Eng.noSums (⟨14, 16, 31, 37, 40⟩ : Go.Eng.Fns) 1000 60 12 (.row [2, 2, 1, 1]) (.row [6])) = true := by kernel_rfl
theorem r18 : Go.Eng.AllL (fun c => Go.Eng.isTrue (Go.Eng.twoRun Try.prog Go.Eng.noSums (⟨14, 16, 31, 37, 40⟩ : Go.Eng.Fns) 1000 60 12 (.row [2, 2, 1, 1]) c) = true) Go.Eng.classes := by
  unfold Go.Eng.classes
  rw [Go.Eng.shares_eq]
  exact ⟨r18_0, r18_1, r18_2, r18_3, r18_4, r18_5, r18_6, r18_7, r18_8, r18_9, r18_10, r18_11, r18_12, r18_13, r18_14, r18_15, r18_16, r18_17, r18_18, r18_19, r18_20, r18_21, r18_22, r18_23, r18_24, r18_25, r18_26, r18_27, r18_28, r18_29, r18_30, r18_31, r18_32, r18_33, trivial⟩
set_option maxRecDepth 100000 in
theorem r21_0 : Go.Eng.isTrue (Go.Eng.twoRun Try.prog Go.Eng.noSums (⟨14, 16, 31, 37, 40⟩ : Go.Eng.Fns) 1000 60 12 (.row [3, 1]) .nil) = true := by kernel_rfl
set_option maxRecDepth 100000 in
theorem r21_1 : Go.Eng.isTrue (Go.Eng.twoRun Try.prog Go.Eng.noSums (⟨14, 16, 31, 37, 40⟩ : Go.Eng.Fns) 1000 60 12 (.row [3, 1]) .zero) = true := by kernel_rfl
set_option maxRecDepth 100000 in
theorem r21_2 : Go.Eng.isTrue (Go.Eng.twoRun Try.prog Go.Eng.noSums (⟨14, 16, 31, 37, 40⟩ : Go.Eng.Fns) 1000 60 12 (.row [3, 1]) .no) = true := by kernel_rfl
set_option maxRecDepth 100000 in
theorem r21_3 : Go.Eng.isTrue (Go.Eng.twoRun Try.prog Go.Eng.noSums (⟨14, 16, 31, 37, 40⟩ : Go.Eng.Fns) 1000 60 12 (.row [3, 1]) .long) = true := by kernel_rfl
set_option maxRecDepth 100000 in
theorem r21_4 : Go.Eng.isTrue (Go.Eng.twoRun Try.prog Go.Eng.noSums (⟨14, 16, 31, 37, 40⟩ : Go.Eng.Fns) 1000 60 12 (.row [3, 1]) (.row [])) = true := by kernel_rfl
set_option maxRecDepth 100000 in
theorem r21_5 : Go.Eng.isTrue (Go.Eng.twoRun Try.prog Go.Eng.noSums (⟨14, 16, 31, 37, 40⟩ : Go.Eng.Fns) 1000 60 12 (.row [3, 1]) (.row [1])) = true := by kernel_rfl
set_option maxRecDepth 100000 in
theorem r21_6 : Go.Eng.isTrue (Go.Eng.twoRun Try.prog Go.Eng.noSums (⟨14, 16, 31, 37, 40⟩ : Go.Eng.Fns) 1000 60 12 (.row [3, 1]) (.row [1, 1])) = true := by kernel_rfl
set_option maxRecDepth 100000 in
theorem r21_7 : Go.Eng.isTrue (Go.Eng.twoRun Try.prog Go.Eng.noSums (⟨14, 16, 31, 37, 40⟩ : Go.Eng.Fns) 1000 60 12 (.row [3, 1]) (.row [1, 1, 1])) = true := by kernel_rfl
set_option maxRecDepth 100000 in
theorem r21_8 : Go.Eng.isTrue (Go.Eng.twoRun Try.prog Go.Eng.noSums (⟨14, 16, 31, 37, 40⟩ : Go.Eng.Fns) 1000 60 12 (.row [3, 1]) (.row [1, 1, 1, 1])) = true := by kernel_rfl
set_option maxRecDepth 100000 in
theorem r21_9 : Go.Eng.isTrue (Go.Eng.twoRun Try.prog Go.Eng.noSums (⟨14, 16, 31, 37, 40⟩ : Go.Eng.Fns) 1000 60 12 (.row [3, 1]) (.row [1, 1, 1, 1, 1])) = true := by kernel_rfl
set_option maxRecDepth 100000 in
theorem r21_10 : Go.Eng.isTrue (Go.Eng.twoRun Try.prog Go.Eng.noSums (⟨14, 16, 31, 37, 40⟩ : Go.Eng.Fns) 1000 60 12 (.row [3, 1]) (.row [1, 1, 1, 1, 1, 1])) = true := by kernel_rfl
set_option maxRecDepth 100000 in
theorem r21_11 : Go.Eng.isTrue (Go.Eng.twoRun Try.prog Go.Eng.noSums (⟨14, 16, 31, 37, 40⟩ : Go.Eng.Fns) 1000 60 12 (.row [3, 1]) (.row [2])) = true := by kernel_rfl
set_option maxRecDepth 100000 in
theorem r21_12 : Go.Eng.isTrue (Go.Eng.twoRun Try.prog Go.Eng.noSums (⟨14, 16, 31, 37, 40⟩ : Go.Eng.Fns) 1000 60 12 (.row [3, 1]) (.row [2, 1])) = true := by kernel_rfl
set_option maxRecDepth 100000 in
theorem r21_13 : Go.Eng.isTrue (Go.Eng.twoRun Try.prog Go.Eng.noSums (⟨14, 16, 31, 37, 40⟩ : Go.Eng.Fns) 1000 60 12 (.row [3, 1]) (.row [2, 1, 1])) = true := by kernel_rfl
set_option maxRecDepth 100000 in
theorem r21_14 : Go.Eng.isTrue (Go.Eng.twoRun Try.prog Go.Eng.noSums (⟨14, 16, 31, 37, 40⟩ : Go.Eng.Fns) 1000 60 12 (.row [3, 1]) (.row [2, 1, 1, 1])) = true := by kernel_rfl
set_option maxRecDepth 100000 in
theorem r21_15 : Go.Eng.isTrue (Go.Eng.twoRun Try.prog Go.Eng.noSums (⟨14, 16, 31, 37, 40⟩ : Go.Eng.Fns) 1000 60 12 (.row [3, 1]) (.row [2, 1, 1, 1, 1])) = true := by kernel_rfl
set_option maxRecDepth 100000 in
theorem r21_16 : Go.Eng.isTrue (Go.Eng.twoRun Try.prog Go.Eng.noSums (⟨14, 16, 31, 37, 40⟩ : Go.Eng.Fns) 1000 60 12 (.row [3, 1]) (.row [2, 2])) = true := by kernel_rfl
set_option maxRecDepth 100000 in
theorem r21_17 : Go.Eng.isTrue (Go.Eng.twoRun Try.prog Go.Eng.noSums (⟨14, 16, 31, 37, 40⟩ : Go.Eng.Fns) 1000 60 12 (.row [3, 1]) (.row [2, 2, 1])) = true := by kernel_rfl
set_option maxRecDepth 100000 in
theorem r21_18 : Go.Eng.isTrue (Go.Eng.twoRun Try.prog Go.Eng.noSums (⟨14, 16, 31, 37, 40⟩ : Go.Eng.Fns) 1000 60 12 (.row [3, 1]) (.row [2, 2, 1, 1])) = true := by kernel_rfl
set_option maxRecDepth 100000 in
theorem r21_19 : Go.Eng.isTrue (Go.Eng.twoRun Try.prog Go.Eng.noSums (⟨14, 16, 31, 37, 40⟩ : Go.Eng.Fns) 1000 60 12 (.row [3, 1]) (.row [2, 2, 2])) = true := by kernel_rfl
set_option maxRecDepth 100000 in
theorem r21_20 : Go.Eng.isTrue (Go.Eng.twoRun Try.prog Go.Eng.noSums (⟨14, 16, 31, 37, 40⟩ : Go.Eng.Fns) 1000 60 12 (.row [3, 1]) (.row [3])) = true := by kernel_rfl
set_option maxRecDepth 100000 in
theorem r21_21 : Go.Eng.isTrue (Go.Eng.twoRun Try.prog Go.Eng.noSums (⟨14, 16, 31, 37, 40⟩ : Go.Eng.Fns) 1000 60 12 (.row [3, 1]) (.row [3, 1])) = true := by kernel_rfl
set_option maxRecDepth 100000 in
theorem r21_22 : Go.Eng.isTrue (Go.Eng.twoRun Try.prog Go.Eng.noSums (⟨14, 16, 31, 37, 40⟩ : Go.Eng.Fns) 1000 60 12 (.row [3, 1]) (.row [3, 1, 1])) = true := by kernel_rfl
set_option maxRecDepth 100000 in
theorem r21_23 : Go.Eng.isTrue (Go.Eng.twoRun Try.prog Go.Eng.noSums (⟨14, 16, 31, 37, 40⟩ : Go.Eng.Fns) 1000 60 12 (.row [3, 1]) (.row [3, 1, 1, 1])) = true := by kernel_rfl
set_option maxRecDepth 100000 in
theorem r21_24 : Go.Eng.isTrue (Go.Eng.twoRun Try.prog Go.Eng.noSums (⟨14, 16, 31, 37, 40⟩ : Go.Eng.Fns) 1000 60 12 (.row [3, 1]) (.row [3, 2])) = true := by kernel_rfl
set_option maxRecDepth 100000 in
theorem r21_25 : Go.Eng.isTrue (Go.Eng.twoRun Try.prog Go.Eng.noSums (⟨14, 16, 31, 37, 40⟩ : Go.Eng.Fns) 1000 60 12 (.row [3, 1]) (.row [3, 2, 1])) = true := by kernel_rfl
set_option maxRecDepth 100000 in
theorem r21_26 : Go.Eng.isTrue (Go.Eng.twoRun Try.prog Go.Eng.noSums (⟨14, 16, 31, 37, 40⟩ : Go.Eng.Fns) 1000 60 12 (.row [3, 1]) (.row [3, 3])) = true := by kernel_rfl
set_option maxRecDepth 100000 in
theorem r21_27 : Go.Eng.isTrue (Go.Eng.twoRun Try.prog Go.Eng.noSums (⟨14, 16, 31, 37, 40⟩ : Go.Eng.Fns) 1000 60 12 (.row [3, 1]) (.row [4])) = true := by kernel_rfl
set_option maxRecDepth 100000 in
theorem r21_28 : Go.Eng.isTrue (Go.Eng.twoRun Try.prog Go.Eng.noSums (⟨14, 16, 31, 37, 40⟩ : Go.Eng.Fns) 1000 60 12 (.row [3, 1]) (.row [4, 1])) = true := by kernel_rfl
set_option maxRecDepth 100000 in
theorem r21_29 : Go.Eng.isTrue (Go.Eng.twoRun Try.prog Go.Eng.noSums (⟨14, 16, 31, 37, 40⟩ : Go.Eng.Fns) 1000 60 12 (.row [3, 1]) (.row [4, 1, 1])) = true := by kernel_rfl
set_option maxRecDepth 100000 in
theorem r21_30 : Go.Eng.isTrue (Go.Eng.twoRun Try.prog Go.Eng.noSums (⟨14, 16, 31, 37, 40⟩ : Go.Eng.Fns) 1000 60 12 (.row [3, 1]) (.row [4, 2])) = true := by kernel_rfl
set_option maxRecDepth 100000 in
theorem r21_31 : Go.Eng.isTrue (Go.Eng.twoRun Try.prog Go.Eng.noSums (⟨14, 16, 31, 37, 40⟩ : Go.Eng.Fns) 1000 60 12 (.row [3, 1]) (.row [5])) = true := by kernel_rfl
set_option maxRecDepth 100000 in
theorem r21_32 : Go.Eng.isTrue (Go.Eng.twoRun Try.prog Go.Eng.noSums (⟨14, 16, 31, 37, 40⟩ : Go.Eng.Fns) 1000 60 12 (.row [3, 1]) (.row [5, 1])) = true := by kernel_rfl
set_option maxRecDepth 100000 in
theorem r21_33 : Go.Eng.isTrue (Go.Eng.twoRun Try.prog Go.Eng.noSums (⟨14, 16, 31, 37, 40⟩ : Go.Eng.Fns) 1000 60 12 (.row [3, 1]) (.row [6])) = true := by kernel_rfl
theorem r21 : Go.Eng.AllL (fun c => Go.Eng.isTrue (Go.Eng.twoRun Try.prog Go.Eng.noSums (⟨14, 16, 31, 37, 40⟩ : Go.Eng.Fns) 1000 60 12 (.row [3, 1]) c) = true) Go.Eng.classes := by
  unfold Go.Eng.classes
  rw [Go.Eng.shares_eq]
  exact ⟨r21_0, r21_1, r21_2, r21_3, r21_4, r21_5, r21_6, r21_7, r21_8, r21_9, r21_10, r21_11, r21_12, r21_13, r21_14, r21_15, r21_16, r21_17, r21_18, r21_19, r21_20, r21_21, r21_22, r21_23, r21_24, r21_25, r21_26, r21_27, r21_28, r21_29, r21_30, r21_31, r21_32, r21_33, trivial⟩
set_option maxRecDepth 100000 in
theorem r24_0 : Go.Eng.isTrue (Go.Eng.twoRun Try.prog Go.Eng.noSums (⟨14, 16, 31, 37, 40⟩ : Go.Eng.Fns) 1000 60 12 (.row [3, 2]) .nil) = true := by kernel_rfl
set_option maxRecDepth 100000 in
theorem r24_1 : Go.Eng.isTrue (Go.Eng.twoRun Try.prog Go.Eng.noSums (⟨14, 16, 31, 37, 40⟩ : Go.Eng.Fns) 1000 60 12 (.row [3, 2]) .zero) = true := by kernel_rfl
set_option maxRecDepth 100000 in
theorem r24_2 : Go.Eng.isTrue (Go.Eng.twoRun Try.prog Go.Eng.noSums (⟨14, 16, 31, 37, 40⟩ : Go.Eng.Fns) 1000 60 12 (.row [3, 2]) .no) = true := by kernel_rfl
set_option maxRecDepth 100000 in
theorem r24_3 : Go.Eng.isTrue (Go.Eng.twoRun Try.prog Go.Eng.noSums (⟨14, 16, 31, 37, 40⟩ : Go.Eng.Fns) 1000 60 12 (.row [3, 2]) .long) = true := by kernel_rfl
set_option maxRecDepth 100000 in
theorem r24_4 : Go.Eng.isTrue (Go.Eng.twoRun Try.prog Go.Eng.noSums (⟨14, 16, 31, 37, 40⟩ : Go.Eng.Fns) 1000 60 12 (.row [3, 2]) (.row [])) = true := by kernel_rfl
set_option maxRecDepth 100000 in
theorem r24_5 : Go.Eng.isTrue (Go.Eng.twoRun Try.prog Go.Eng.noSums (⟨14, 16, 31, 37, 40⟩ : Go.Eng.Fns) 1000 60 12 (.row [3, 2]) (.row [1])) = true := by kernel_rfl
set_option maxRecDepth 100000 in
theorem r24_6 : Go.Eng.isTrue (Go.Eng.twoRun Try.prog Go.Eng.noSums (⟨14, 16, 31, 37, 40⟩ : Go.Eng.Fns) 1000 60 12 (.row [3, 2]) (.row [1, 1])) = true := by kernel_rfl
set_option maxRecDepth 100000 in
theorem r24_7 : Go.Eng.isTrue (Go.Eng.twoRun Try.prog Go.Eng.noSums (⟨14, 16, 31, 37, 40⟩ : Go.Eng.Fns) 1000 60 12 (.row [3, 2]) (.row [1, 1, 1])) = true := by kernel_rfl
set_option maxRecDepth 100000 in
theorem r24_8 : Go.Eng.isTrue (Go.Eng.twoRun Try.prog Go.Eng.noSums (⟨14, 16, 31, 37, 40⟩ : Go.Eng.Fns) 1000 60 12 (.row [3, 2]) (.row [1, 1, 1, 1])) = true := by kernel_rfl
set_option maxRecDepth 100000 in
theorem r24_9 : Go.Eng.isTrue (Go.Eng.twoRun Try.prog Go.Eng.noSums (⟨14, 16, 31, 37, 40⟩ : Go.Eng.Fns) 1000 60 12 (.row [3, 2]) (.row [1, 1, 1, 1, 1])) = true := by kernel_rfl
set_option maxRecDepth 100000 in
theorem r24_10 : Go.Eng.isTrue (Go.Eng.twoRun Try.prog Go.Eng.noSums (⟨14, 16, 31, 37, 40⟩ : Go.Eng.Fns) 1000 60 12 (.row [3, 2]) (.row [1, 1, 1, 1, 1, 1])) = true := by kernel_rfl
set_option maxRecDepth 100000 in
theorem r24_11 : Go.Eng.isTrue (Go.Eng.twoRun Try.prog Go.Eng.noSums (⟨14, 16, 31, 37, 40⟩ : Go.Eng.Fns) 1000 60 12 (.row [3, 2]) (.row [2])) = true := by kernel_rfl
set_option maxRecDepth 100000 in
theorem r24_12 : Go.Eng.isTrue (Go.Eng.twoRun Try.prog Go.Eng.noSums (⟨14, 16, 31, 37, 40⟩ : Go.Eng.Fns) 1000 60 12 (.row [3, 2]) (.row [2, 1])) = true := by kernel_rfl
set_option maxRecDepth 100000 in
theorem r24_13 : Go.Eng.isTrue (Go.Eng.twoRun Try.prog Go.Eng.noSums (⟨14, 16, 31, 37, 40⟩ : Go.Eng.Fns) 1000 60 12 (.row [3, 2]) (.row [2, 1, 1])) = true := by kernel_rfl
set_option maxRecDepth 100000 in
theorem r24_14 : Go.Eng.isTrue (Go.Eng.twoRun Try.prog Go.Eng.noSums (⟨14, 16, 31, 37, 40⟩ : Go.Eng.Fns) 1000 60 12 (.row [3, 2]) (.row [2, 1, 1, 1])) = true := by kernel_rfl
set_option maxRecDepth 100000 in
theorem r24_15 : Go.Eng.isTrue (Go.Eng.twoRun Try.prog Go.Eng.noSums (⟨14, 16, 31, 37, 40⟩ : Go.Eng.Fns) 1000 60 12 (.row [3, 2]) (.row [2, 1, 1, 1, 1])) = true := by kernel_rfl
set_option maxRecDepth 100000 in
theorem r24_16 : Go.Eng.isTrue (Go.Eng.twoRun Try.prog Go.Eng.noSums (⟨14, 16, 31, 37, 40⟩ : Go.Eng.Fns) 1000 60 12 (.row [3, 2]) (.row [2, 2])) = true := by kernel_rfl
set_option maxRecDepth 100000 in
theorem r24_17 : Go.Eng.isTrue (Go.Eng.twoRun Try.prog Go.Eng.noSums (⟨14, 16, 31, 37, 40⟩ : Go.Eng.Fns) 1000 60 12 (.row [3, 2]) (.row [2, 2, 1])) = true := by kernel_rfl
set_option maxRecDepth 100000 in
theorem r24_18 : Go.Eng.isTrue (Go.Eng.twoRun Try.prog Go.Eng.noSums (⟨14, 16, 31, 37, 40⟩ : Go.Eng.Fns) 1000 60 12 (.row [3, 2]) (.row [2, 2, 1, 1])) = true := by kernel_rfl
set_option maxRecDepth 100000 in
theorem r24_19 : Go.Eng.isTrue (Go.Eng.twoRun Try.prog Go.Eng.noSums (⟨14, 16, 31, 37, 40⟩ : Go.Eng.Fns) 1000 60 12 (.row [3, 2]) (.row [2, 2, 2])) = true := by kernel_rfl
set_option maxRecDepth 100000 in
theorem r24_20 : Go.Eng.isTrue (Go.Eng.twoRun Try.prog Go.Eng.noSums (⟨14, 16, 31, 37, 40⟩ : Go.Eng.Fns) 1000 60 12 (.row [3, 2]) (.row [3])) = true := by kernel_rfl
set_option maxRecDepth 100000 in
theorem r24_21 : Go.Eng.isTrue (Go.Eng.twoRun Try.prog Go.Eng.noSums (⟨14, 16, 31, 37, 40⟩ : Go.Eng.Fns) 1000 60 12 (.row [3, 2]) (.row [3, 1])) = true := by kernel_rfl
set_option maxRecDepth 100000 in
theorem r24_22 : Go.Eng.isTrue (Go.Eng.twoRun Try.prog Go.Eng.noSums (⟨14, 16, 31, 37, 40⟩ : Go.Eng.Fns) 1000 60 12 (.row [3, 2]) (.row [3, 1, 1])) = true := by kernel_rfl
set_option maxRecDepth 100000 in
theorem r24_23 : Go.Eng.isTrue (Go.Eng.twoRun Try.prog Go.Eng.noSums (⟨14, 16, 31, 37, 40⟩ : Go.Eng.Fns) 1000 60 12 (.row [3, 2]) (.row [3, 1, 1, 1])) = true := by kernel_rfl
set_option maxRecDepth 100000 in
theorem r24_24 : Go.Eng.isTrue (Go.Eng.twoRun Try.prog Go.Eng.noSums (⟨14, 16, 31, 37, 40⟩ : Go.Eng.Fns) 1000 60 12 (.row [3, 2]) (.row [3, 2])) = true := by kernel_rfl
set_option maxRecDepth 100000 in
theorem r24_25 : Go.Eng.isTrue (Go.Eng.twoRun Try.prog Go.Eng.noSums (⟨14, 16, 31, 37, 40⟩ : Go.Eng.Fns) 1000 60 12 (.row [3, 2]) (.row [3, 2, 1])) = true := by kernel_rfl
set_option maxRecDepth 100000 in
theorem r24_26 : Go.Eng.isTrue (Go.Eng.twoRun Try.prog Go.Eng.noSums (⟨14, 16, 31, 37, 40⟩ : Go.Eng.Fns) 1000 60 12 (.row [3, 2]) (.row [3, 3])) = true := by kernel_rfl
set_option maxRecDepth 100000 in
theorem r24_27 : Go.Eng.isTrue (Go.Eng.twoRun Try.prog Go.Eng.noSums (⟨14, 16, 31, 37, 40⟩ : Go.Eng.Fns) 1000 60 12 (.row [3, 2]) (.row [4])) = true := by kernel_rfl
set_option maxRecDepth 100000 in
theorem r24_28 : Go.Eng.isTrue (Go.Eng.twoRun Try.prog Go.Eng.noSums (⟨14, 16, 31, 37, 40⟩ : Go.Eng.Fns) 1000 60 12 (.row [3, 2]) (.row [4, 1])) = true := by kernel_rfl
set_option maxRecDepth 100000 in
theorem r24_29 : Go.Eng.isTrue (Go.Eng.twoRun Try.prog Go.Eng.noSums (⟨14, 16, 31, 37, 40⟩ : Go.Eng.Fns) 1000 60 12 (.row [3, 2]) (.row [4, 1, 1])) = true := by kernel_rfl
set_option maxRecDepth 100000 in
theorem r24_30 : Go.Eng.isTrue (Go.Eng.twoRun Try.prog Go.Eng.noSums (⟨14, 16, 31, 37, 40⟩ : Go.Eng.Fns) 1000 60 12 (.row [3, 2]) (.row [4, 2])) = true := by kernel_rfl
set_option maxRecDepth 100000 in
theorem r24_31 : Go.Eng.isTrue (Go.Eng.twoRun Try.prog Go.Eng.noSums (⟨14, 16, 31, 37, 40⟩ : Go.Eng.Fns) 1000 60 12 (.row [3, 2]) (.row [5])) = true := by kernel_rfl
set_option maxRecDepth 100000 in
theorem r24_32 : Go.Eng.isTrue (Go.Eng.twoRun Try.prog Go.Eng.noSums (⟨14, 16, 31, 37, 40⟩ : Go.Eng.Fns) 1000 60 12 (.row [3, 2]) (.row [5, 1])) = true := by kernel_rfl
set_option maxRecDepth 100000 in
theorem r24_33 : Go.Eng.isTrue (Go.Eng.twoRun Try.prog Go.Eng.noSums (⟨14, 16, 31, 37, 40⟩ : Go.Eng.Fns) 1000 60 12 (.row [3, 2]) (.row [6])) = true := by kernel_rfl
theorem r24 : Go.Eng.AllL (fun c => Go.Eng.isTrue (Go.Eng.twoRun Try.prog Go.Eng.noSums (⟨14, 16, 31, 37, 40⟩ : Go.Eng.Fns) 1000 60 12 (.row [3, 2]) c) = true) Go.Eng.classes := by
  unfold Go.Eng.classes
  rw [Go.Eng.shares_eq]
  exact ⟨r24_0, r24_1, r24_2, r24_3, r24_4, r24_5, r24_6, r24_7, r24_8, r24_9, r24_10, r24_11, r24_12, r24_13, r24_14, r24_15, r24_16, r24_17, r24_18, r24_19, r24_20, r24_21, r24_22, r24_23, r24_24, r24_25, r24_26, r24_27, r24_28, r24_29, r24_30, r24_31, r24_32, r24_33, trivial⟩
set_option maxRecDepth 100000 in
theorem r27_0 : Go.Eng.isTrue (Go.Eng.twoRun Try.prog Go.Eng.noSums (⟨14, 16, 31, 37, 40⟩ : Go.Eng.Fns) 1000 60 12 (.row [4]) .nil) = true := by kernel_rfl
set_option maxRecDepth 100000 in
theorem r27_1 : Go.Eng.isTrue (Go.Eng.twoRun Try.prog Go.Eng.noSums (⟨14, 16, 31, 37, 40⟩ : Go.Eng.Fns) 1000 60 12 (.row [4]) .zero) = true := by kernel_rfl
set_option maxRecDepth 100000 in
theorem r27_2 : Go.Eng.isTrue (Go.Eng.twoRun Try.prog Go.Eng.noSums (⟨14, 16, 31, 37, 40⟩ : Go.Eng.Fns) 1000 60 12 (.row [4]) .no) = true := by kernel_rfl
set_option maxRecDepth 100000 in
theorem r27_3 : Go.Eng.isTrue (Go.Eng.twoRun Try.prog Go.Eng.noSums (⟨14, 16, 31, 37, 40⟩ : Go.Eng.Fns) 1000 60 12 (.row [4]) .long) = true := by kernel_rfl
set_option maxRecDepth 100000 in
theorem r27_4 : Go.Eng.isTrue (Go.Eng.twoRun Try.prog Go.Eng.noSums (⟨14, 16, 31, 37, 40⟩ : Go.Eng.Fns) 1000 60 12 (.row [4]) (.row [])) = true := by kernel_rfl
set_option maxRecDepth 100000 in
theorem r27_5 : Go.Eng.isTrue (Go.Eng.twoRun Try.prog Go.Eng.noSums (⟨14, 16, 31, 37, 40⟩ : Go.Eng.Fns) 1000 60 12 (.row [4]) (.row [1])) = true := by kernel_rfl
set_option maxRecDepth 100000 in
theorem r27_6 : Go.Eng.isTrue (Go.Eng.twoRun Try.prog Go.Eng.noSums (⟨14, 16, 31, 37, 40⟩ : Go.Eng.Fns) 1000 60 12 (.row [4]) (.row [1, 1])) = true := by kernel_rfl
set_option maxRecDepth 100000 in
theorem r27_7 : Go.Eng.isTrue (Go.Eng.twoRun Try.prog Go.Eng.noSums (⟨14, 16, 31, 37, 40⟩ : Go.Eng.Fns) 1000 60 12 (.row [4]) (.row [1, 1, 1])) = true := by kernel_rfl
set_option maxRecDepth 100000 in
theorem r27_8 : Go.Eng.isTrue (Go.Eng.twoRun Try.prog Go.Eng.noSums (⟨14, 16, 31, 37, 40⟩ : Go.Eng.Fns) 1000 60 12 (.row [4]) (.row [1, 1, 1, 1])) = true := by kernel_rfl
set_option maxRecDepth 100000 in
theorem r27_9 : Go.Eng.isTrue (Go.Eng.twoRun Try.prog Go.Eng.noSums (⟨14, 16, 31, 37, 40⟩ : Go.Eng.Fns) 1000 60 12 (.row [4]) (.row [1, 1, 1, 1, 1])) = true := by kernel_rfl
set_option maxRecDepth 100000 in
theorem r27_10 : Go.Eng.isTrue (Go.Eng.twoRun Try.prog Go.Eng.noSums (⟨14, 16, 31, 37, 40⟩ : Go.Eng.Fns) 1000 60 12 (.row [4]) (.row [1, 1, 1, 1, 1, 1])) = true := by kernel_rfl
set_option maxRecDepth 100000 in
theorem r27_11 : Go.Eng.isTrue (Go.Eng.twoRun Try.prog Go.Eng.noSums (⟨14, 16, 31, 37, 40⟩ : Go.Eng.Fns) 1000 60 12 (.row [4]) (.row [2])) = true := by kernel_rfl
set_option maxRecDepth 100000 in
theorem r27_12 : Go.Eng.isTrue (Go.Eng.twoRun Try.prog Go.Eng.noSums (⟨14, 16, 31, 37, 40⟩ : Go.Eng.Fns) 1000 60 12 (.row [4]) (.row [2, 1])) = true := by kernel_rfl
set_option maxRecDepth 100000 in
theorem r27_13 : Go.Eng.isTrue (Go.Eng.twoRun Try.prog Go.Eng.noSums (⟨14, 16, 31, 37, 40⟩ : Go.Eng.Fns) 1000 60 12 (.row [4]) (.row [2, 1, 1])) = true := by kernel_rfl
set_option maxRecDepth 100000 in
theorem r27_14 : Go.Eng.isTrue (Go.Eng.twoRun Try.prog Go.Eng.noSums (⟨14, 16, 31, 37, 40⟩ : Go.Eng.Fns) 1000 60 12 (.row [4]) (.row [2, 1, 1, 1])) = true := by kernel_rfl
set_option maxRecDepth 100000 in
theorem r27_15 : Go.Eng.isTrue (Go.Eng.twoRun Try.prog Go.Eng.noSums (⟨14, 16, 31, 37, 40⟩ : Go.Eng.Fns) 1000 60 12 (.row [4]) (.row [2, 1, 1, 1, 1])) = true := by kernel_rfl
set_option maxRecDepth 100000 in
theorem r27_16 : Go.Eng.isTrue (Go.Eng.twoRun Try.prog Go.Eng.noSums (⟨14, 16, 31, 37, 40⟩ : Go.Eng.Fns) 1000 60 12 (.row [4]) (.row [2, 2])) = true := by kernel_rfl
set_option maxRecDepth 100000 in
theorem r27_17 : Go.Eng.isTrue (Go.Eng.twoRun Try.prog Go.Eng.noSums (⟨14, 16, 31, 37, 40⟩ : Go.Eng.Fns) 1000 60 12 (.row [4]) (.row [2, 2, 1])) = true := by kernel_rfl
set_option maxRecDepth 100000 in
theorem r27_18 : Go.Eng.isTrue (Go.Eng.twoRun Try.prog Go.Eng.noSums (⟨14, 16, 31, 37, 40⟩ : Go.Eng.Fns) 1000 60 12 (.row [4]) (.row [2, 2, 1, 1])) = true := by kernel_rfl
set_option maxRecDepth 100000 in
theorem r27_19 : Go.Eng.isTrue (Go.Eng.twoRun Try.prog Go.Eng.noSums (⟨14, 16, 31, 37, 40⟩ : Go.Eng.Fns) 1000 60 12 (.row [4]) (.row [2, 2, 2])) = true := by kernel_rfl
set_option maxRecDepth 100000 in
theorem r27_20 : Go.Eng.isTrue (Go.Eng.twoRun Try.prog Go.Eng.noSums (⟨14, 16, 31, 37, 40⟩ : Go.Eng.Fns) 1000 60 12 (.row [4]) (.row [3])) = true := by kernel_rfl
set_option maxRecDepth 100000 in
theorem r27_21 : Go.Eng.isTrue (Go.Eng.twoRun Try.prog Go.Eng.noSums (⟨14, 16, 31, 37, 40⟩ : Go.Eng.Fns) 1000 60 12 (.row [4]) (.row [3, 1])) = true := by kernel_rfl
set_option maxRecDepth 100000 in
theorem r27_22 : Go.Eng.isTrue (Go.Eng.twoRun Try.prog Go.Eng.noSums (⟨14, 16, 31, 37, 40⟩ : Go.Eng.Fns) 1000 60 12 (.row [4]) (.row [3, 1, 1])) = true := by kernel_rfl
set_option maxRecDepth 100000 in
theorem r27_23 : Go.Eng.isTrue (Go.Eng.twoRun Try.prog Go.Eng.noSums (⟨14, 16, 31, 37, 40⟩ : Go.Eng.Fns) 1000 60 12 (.row [4]) (.row [3, 1, 1, 1])) = true := by kernel_rfl
set_option maxRecDepth 100000 in
theorem r27_24 : Go.Eng.isTrue (Go.Eng.twoRun Try.prog Go.Eng.noSums (⟨14, 16, 31, 37, 40⟩ : Go.Eng.Fns) 1000 60 12 (.row [4]) (.row [3, 2])) = true := by kernel_rfl
set_option maxRecDepth 100000 in
theorem r27_25 : Go.Eng.isTrue (Go.Eng.twoRun Try.prog Go.Eng.noSums (⟨14, 16, 31, 37, 40⟩ : Go.Eng.Fns) 1000 60 12 (.row [4]) (.row [3, 2, 1])) = true := by kernel_rfl
set_option maxRecDepth 100000 in
theorem r27_26 : Go.Eng.isTrue (Go.Eng.twoRun Try.prog Go.Eng.noSums (⟨14, 16, 31, 37, 40⟩ : Go.Eng.Fns) 1000 60 12 (.row [4]) (.row [3, 3])) = true := by kernel_rfl
set_option maxRecDepth 100000 in
theorem r27_27 : Go.Eng.isTrue (Go.Eng.twoRun Try.prog Go.Eng.noSums (⟨14, 16, 31, 37, 40⟩ : Go.Eng.Fns) 1000 60 12 (.row [4]) (.row [4])) = true := by kernel_rfl
set_option maxRecDepth 100000 in
theorem r27_28 : Go.Eng.isTrue (Go.Eng.twoRun Try.prog Go.Eng.noSums (⟨14, 16, 31, 37, 40⟩ : Go.Eng.Fns) 1000 60 12 (.row [4]) (.row [4, 1])) = true := by kernel_rfl
set_option maxRecDepth 100000 in
theorem r27_29 : Go.Eng.isTrue (Go.Eng.twoRun Try.prog Go.Eng.noSums (⟨14, 16, 31, 37, 40⟩ : Go.Eng.Fns) 1000 60 12 (.row [4]) (.row [4, 1, 1])) = true := by kernel_rfl
set_option maxRecDepth 100000 in
theorem r27_30 : Go.Eng.isTrue (Go.Eng.twoRun Try.prog Go.Eng.noSums (⟨14, 16, 31, 37, 40⟩ : Go.Eng.Fns) 1000 60 12 (.row [4]) (.row [4, 2])) = true := by kernel_rfl
set_option maxRecDepth 100000 in
theorem r27_31 : Go.Eng.isTrue (Go.Eng.twoRun Try.prog Go.Eng.noSums (⟨14, 16, 31, 37, 40⟩ : Go.Eng.Fns) 1000 60 12 (.row [4]) (.row [5])) = true := by kernel_rfl
set_option maxRecDepth 100000 in
theorem r27_32 : Go.Eng.isTrue (Go.Eng.twoRun Try.prog Go.Eng.noSums (⟨14, 16, 31, 37, 40⟩ : Go.Eng.Fns) 1000 60 12 (.row [4]) (.row [5, 1])) = true := by kernel_rfl
set_option maxRecDepth 100000 in
theorem r27_33 : Go.Eng.isTrue (Go.Eng.twoRun Try.prog Go.Eng.noSums (⟨14, 16, 31, 37, 40⟩ : Go.Eng.Fns) 1000 60 12 (.row [4]) (.row [6])) = true := by kernel_rfl
theorem r27 : Go.Eng.AllL (fun c => Go.Eng.isTrue (Go.Eng.twoRun Try.prog Go.Eng.noSums (⟨14, 16, 31, 37, 40⟩ : Go.Eng.Fns) 1000 60 12 (.row [4]) c) = true) Go.Eng.classes := by
  unfold Go.Eng.classes
  rw [Go.Eng.shares_eq]
  exact ⟨r27_0, r27_1, r27_2, r27_3, r27_4, r27_5, r27_6, r27_7, r27_8, r27_9, r27_10, r27_11, r27_12, r27_13, r27_14, r27_15, r27_16, r27_17, r27_18, r27_19, r27_20, r27_21, r27_22, r27_23, r27_24, r27_25, r27_26, r27_27, r27_28, r27_29, r27_30, r27_31, r27_32, r27_33, trivial⟩
set_option maxRecDepth 100000 in
theorem r30_0 : Go.Eng.isTrue (Go.Eng.twoRun Try.prog Go.Eng.noSums (⟨14, 16, 31, 37, 40⟩ : Go.Eng.Fns) 1000 60 12 (.row [4, 2]) .nil) = true := by kernel_rfl
set_option maxRecDepth 100000 in
theorem r30_1 : Go.Eng.isTrue (Go.Eng.twoRun Try.prog Go.Eng.noSums (⟨14, 16, 31, 37, 40⟩ : Go.Eng.Fns) 1000 60 12 (.row [4, 2]) .zero) = true := by kernel_rfl
set_option maxRecDepth 100000 in
theorem r30_2 : Go.Eng.isTrue (Go.Eng.twoRun Try.prog Go.Eng.noSums (⟨14, 16, 31, 37, 40⟩ : Go.Eng.Fns) 1000 60 12 (.row [4, 2]) .no) = true := by kernel_rfl
set_option maxRecDepth 100000 in
theorem r30_3 : Go.Eng.isTrue (Go.Eng.twoRun Try.prog Go.Eng.noSums (⟨14, 16, 31, 37, 40⟩ : Go.Eng.Fns) 1000 60 12 (.row [4, 2]) .long) = true := by kernel_rfl
set_option maxRecDepth 100000 in
theorem r30_4 : Go.Eng.isTrue (Go.Eng.twoRun Try.prog Go.Eng.noSums (⟨14, 16, 31, 37, 40⟩ : Go.Eng.Fns) 1000 60 12 (.row [4, 2]) (.row [])) = true := by kernel_rfl
set_option maxRecDepth 100000 in
theorem r30_5 : Go.Eng.isTrue (Go.Eng.twoRun Try.prog Go.Eng.noSums (⟨14, 16, 31, 37, 40⟩ : Go.Eng.Fns) 1000 60 12 (.row [4, 2]) (.row [1])) = true := by kernel_rfl
set_option maxRecDepth 100000 in
theorem r30_6 : Go.Eng.isTrue (Go.Eng.twoRun Try.prog Go.Eng.noSums (⟨14, 16, 31, 37, 40⟩ : Go.Eng.Fns) 1000 60 12 (.row [4, 2]) (.row [1, 1])) = true := by kernel_rfl
set_option maxRecDepth 100000 in
theorem r30_7 : Go.Eng.isTrue (Go.Eng.twoRun Try.prog Go.Eng.noSums (⟨14, 16, 31, 37, 40⟩ : Go.Eng.Fns) 1000 60 12 (.row [4, 2]) (.row [1, 1, 1])) = true := by kernel_rfl
set_option maxRecDepth 100000 in
theorem r30_8 : Go.Eng.isTrue (Go.Eng.twoRun Try.prog Go.Eng.noSums (⟨14, 16, 31, 37, 40⟩ : Go.Eng.Fns) 1000 60 12 (.row [4, 2]) (.row [1, 1, 1, 1])) = true := by kernel_rfl
set_option maxRecDepth 100000 in
theorem r30_9 : Go.Eng.isTrue (Go.Eng.twoRun Try.prog Go.Eng.noSums (⟨14, 16, 31, 37, 40⟩ : Go.Eng.Fns) 1000 60 12 (.row [4, 2]) (.row [1, 1, 1, 1, 1])) = true := by kernel_rfl
set_option maxRecDepth 100000 in
theorem r30_10 : Go.Eng.isTrue (Go.Eng.twoRun Try.prog Go.Eng.noSums (⟨14, 16, 31, 37, 40⟩ : Go.Eng.Fns) 1000 60 12 (.row [4, 2]) (.row [1, 1, 1, 1, 1, 1])) = true := by kernel_rfl
set_option maxRecDepth 100000 in
theorem r30_11 : Go.Eng.isTrue (Go.Eng.twoRun Try.prog Go.Eng.noSums (⟨14, 16, 31, 37, 40⟩ : Go.Eng.Fns) 1000 60 12 (.row [4, 2]) (.row [2])) = true := by kernel_rfl
set_option maxRecDepth 100000 in
theorem r30_12 : Go.Eng.isTrue (Go.Eng.twoRun Try.prog Go.Eng.noSums (⟨14, 16, 31, 37, 40⟩ : Go.Eng.Fns) 1000 60 12 (.row [4, 2]) (.row [2, 1])) = true := by kernel_rfl
set_option maxRecDepth 100000 in
theorem r30_13 : Go.Eng.isTrue (Go.Eng.twoRun Try.prog Go.Eng.noSums (⟨14, 16, 31, 37, 40⟩ : Go.Eng.Fns) 1000 60 12 (.row [4, 2]) (.row [2, 1, 1])) = true := by kernel_rfl
set_option maxRecDepth 100000 in
theorem r30_14 : Go.Eng.isTrue (Go.Eng.twoRun Try.prog Go.Eng.noSums (⟨14, 16, 31, 37, 40⟩ : Go.Eng.Fns) 1000 60 12 (.row [4, 2]) (.row [2, 1, 1, 1])) = true := by kernel_rfl
set_option maxRecDepth 100000 in
theorem r30_15 : Go.Eng.isTrue (Go.Eng.twoRun Try.prog Go.Eng.noSums (⟨14, 16, 31, 37, 40⟩ : Go.Eng.Fns) 1000 60 12 (.row [4, 2]) (.row [2, 1, 1, 1, 1])) = true := by kernel_rfl
set_option maxRecDepth 100000 in
theorem r30_16 : Go.Eng.isTrue (Go.Eng.twoRun Try.prog Go.Eng.noSums (⟨14, 16, 31, 37, 40⟩ : Go.Eng.Fns) 1000 60 12 (.row [4, 2]) (.row [2, 2])) = true := by kernel_rfl
set_option maxRecDepth 100000 in
theorem r30_17 : Go.Eng.isTrue (Go.Eng.twoRun Try.prog Go.Eng.noSums (⟨14, 16, 31, 37, 40⟩ : Go.Eng.Fns) 1000 60 12 (.row [4, 2]) (.row [2, 2, 1])) = true := by kernel_rfl
set_option maxRecDepth 100000 in
theorem r30_18 : Go.Eng.isTrue (Go.Eng.twoRun Try.prog Go.Eng.noSums (⟨14, 16, 31, 37, 40⟩ : Go.Eng.Fns) 1000 60 12 (.row [4, 2]) (.row [2, 2, 1, 1])) = true := by kernel_rfl
set_option maxRecDepth 100000 in
theorem r30_19 : Go.Eng.isTrue (Go.Eng.twoRun Try.prog Go.Eng.noSums (⟨14, 16, 31, 37, 40⟩ : Go.Eng.Fns) 1000 60 12 (.row [4, 2]) (.row [2, 2, 2])) = true := by kernel_rfl
set_option maxRecDepth 100000 in
theorem r30_20 : Go.Eng.isTrue (Go.Eng.twoRun Try.prog Go.Eng.noSums (⟨14, 16, 31, 37, 40⟩ : Go.Eng.Fns) 1000 60 12 (.row [4, 2]) (.row [3])) = true := by kernel_rfl
set_option maxRecDepth 100000 in
theorem r30_21 : Go.Eng.isTrue (Go.Eng.twoRun Try.prog Go.Eng.noSums (⟨14, 16, 31, 37, 40⟩ : Go.Eng.Fns) 1000 60 12 (.row [4, 2]) (.row [3, 1])) = true := by kernel_rfl
set_option maxRecDepth 100000 in
theorem r30_22 : Go.Eng.isTrue (Go.Eng.twoRun Try.prog Go.Eng.noSums (⟨14, 16, 31, 37, 40⟩ : Go.Eng.Fns) 1000 60 12 (.row [4, 2]) (.row [3, 1, 1])) = true := by kernel_rfl
set_option maxRecDepth 100000 in
theorem r30_23 : Go.Eng.isTrue (Go.Eng.twoRun Try.prog Go.Eng.noSums (⟨14, 16, 31, 37, 40⟩ : Go.Eng.Fns) 1000 60 12 (.row [4, 2]) (.row [3, 1, 1, 1])) = true := by kernel_rfl
set_option maxRecDepth 100000 in
theorem r30_24 : Go.Eng.isTrue (Go.Eng.twoRun Try.prog Go.Eng.noSums (⟨14, 16, 31, 37, 40⟩ : Go.Eng.Fns) 1000 60 12 (.row [4, 2]) (.row [3, 2])) = true := by kernel_rfl
set_option maxRecDepth 100000 in
theorem r30_25 : Go.Eng.isTrue (Go.Eng.twoRun Try.prog Go.Eng.noSums (⟨14, 16, 31, 37, 40⟩ : Go.Eng.Fns) 1000 60 12 (.row [4, 2]) (.row [3, 2, 1])) = true := by kernel_rfl
set_option maxRecDepth 100000 in
theorem r30_26 : Go.Eng.isTrue (Go.Eng.twoRun Try.prog Go.Eng.noSums (⟨14, 16, 31, 37, 40⟩ : Go.Eng.Fns) 1000 60 12 (.row [4, 2]) (.row [3, 3])) = true := by kernel_rfl
set_option maxRecDepth 100000 in
theorem r30_27 : Go.Eng.isTrue (Go.Eng.twoRun Try.prog Go.Eng.noSums (⟨14, 16, 31, 37, 40⟩ : Go.Eng.Fns) 1000 60 12 (.row [4, 2]) (.row [4])) = true := by kernel_rfl
set_option maxRecDepth 100000 in
theorem r30_28 : Go.Eng.isTrue (Go.Eng.twoRun Try.prog Go.Eng.noSums (⟨14, 16, 31, 37, 40⟩ : Go.Eng.Fns) 1000 60 12 (.row [4, 2]) (.row [4, 1])) = true := by kernel_rfl
set_option maxRecDepth 100000 in
theorem r30_29 : Go.Eng.isTrue (Go.Eng.twoRun Try.prog Go.Eng.noSums (⟨14, 16, 31, 37, 40⟩ : Go.Eng.Fns) 1000 60 12 (.row [4, 2]) (.row [4, 1, 1])) = true := by kernel_rfl
set_option maxRecDepth 100000 in
theorem r30_30 : Go.Eng.isTrue (Go.Eng.twoRun Try.prog Go.Eng.noSums (⟨14, 16, 31, 37, 40⟩ : Go.Eng.Fns) 1000 60 12 (.row [4, 2]) (.row [4, 2])) = true := by kernel_rfl
set_option maxRecDepth 100000 in
theorem r30_31 : Go.Eng.isTrue (Go.Eng.twoRun Try.prog Go.Eng.noSums (⟨14, 16, 31, 37, 40⟩ : Go.Eng.Fns) 1000 60 12 (.row [4, 2]) (.row [5])) = true := by kernel_rfl
set_option maxRecDepth 100000 in
theorem r30_32 : Go.Eng.isTrue (Go.Eng.twoRun Try.prog Go.Eng.noSums (⟨14, 16, 31, 37, 40⟩ : Go.Eng.Fns) 1000 60 12 (.row [4, 2]) (.row [5, 1])) = true := by kernel_rfl
set_option maxRecDepth 100000 in
theorem r30_33 : Go.Eng.isTrue (Go.Eng.twoRun Try.prog Go.Eng.noSums (⟨14, 16, 31, 37, 40⟩ : Go.Eng.Fns) 1000 60 12 (.row [4, 2]) (.row [6])) = true := by kernel_rfl
theorem r30 : Go.Eng.AllL (fun c => Go.Eng.isTrue (Go.Eng.twoRun Try.prog Go.Eng.noSums (⟨14, 16, 31, 37, 40⟩ : Go.Eng.Fns) 1000 60 12 (.row [4, 2]) c) = true) Go.Eng.classes := by
  unfold Go.Eng.classes
  rw [Go.Eng.shares_eq]
  exact ⟨r30_0, r30_1, r30_2, r30_3, r30_4, r30_5, r30_6, r30_7, r30_8, r30_9, r30_10, r30_11, r30_12, r30_13, r30_14, r30_15, r30_16, r30_17, r30_18, r30_19, r30_20, r30_21, r30_22, r30_23, r30_24, r30_25, r30_26, r30_27, r30_28, r30_29, r30_30, r30_31, r30_32, r30_33, trivial⟩
set_option maxRecDepth 100000 in
theorem r33_0 : Go.Eng.isTrue (Go.Eng.twoRun Try.prog Go.Eng.noSums (⟨14, 16, 31, 37, 40⟩ : Go.Eng.Fns) 1000 60 12 (.row [6]) .nil) = true := by kernel_rfl
set_option maxRecDepth 100000 in
theorem r33_1 : Go.Eng.isTrue (Go.Eng.twoRun Try.prog Go.Eng.noSums (⟨14, 16, 31, 37, 40⟩ : Go.Eng.Fns) 1000 60 12 (.row [6]) .zero) = true := by kernel_rfl
set_option maxRecDepth 100000 in
theorem r33_2 : Go.Eng.isTrue (Go.Eng.twoRun Try.prog Go.Eng.noSums (⟨14, 16, 31, 37, 40⟩ : Go.Eng.Fns) 1000 60 12 (.row [6]) .no) = true := by kernel_rfl
set_option maxRecDepth 100000 in
theorem r33_3 : Go.Eng.isTrue (Go.Eng.twoRun Try.prog Go.Eng.noSums (⟨14, 16, 31, 37, 40⟩ : Go.Eng.Fns) 1000 60 12 (.row [6]) .long) = true := by kernel_rfl
set_option maxRecDepth 100000 in
theorem r33_4 : Go.Eng.isTrue (Go.Eng.twoRun Try.prog Go.Eng.noSums (⟨14, 16, 31, 37, 40⟩ : Go.Eng.Fns) 1000 60 12 (.row [6]) (.row [])) = true := by kernel_rfl
set_option maxRecDepth 100000 in
theorem r33_5 : Go.Eng.isTrue (Go.Eng.twoRun Try.prog Go.Eng.noSums (⟨14, 16, 31, 37, 40⟩ : Go.Eng.Fns) 1000 60 12 (.row [6]) (.row [1])) = true := by kernel_rfl
set_option maxRecDepth 100000 in
theorem r33_6 : Go.Eng.isTrue (Go.Eng.twoRun Try.prog Go.Eng.noSums (⟨14, 16, 31, 37, 40⟩ : Go.Eng.Fns) 1000 60 12 (.row [6]) (.row [1, 1])) = true := by kernel_rfl
set_option maxRecDepth 100000 in
theorem r33_7 : Go.Eng.isTrue (Go.Eng.twoRun Try.prog Go.Eng.noSums (⟨14, 16, 31, 37, 40⟩ : Go.Eng.Fns) 1000 60 12 (.row [6]) (.row [1, 1, 1])) = true := by kernel_rfl
set_option maxRecDepth 100000 in
theorem r33_8 : Go.Eng.isTrue (Go.Eng.twoRun Try.prog Go.Eng.noSums (⟨14, 16, 31, 37, 40⟩ : Go.Eng.Fns) 1000 60 12 (.row [6]) (.row [1, 1, 1, 1])) = true := by kernel_rfl
set_option maxRecDepth 100000 in
theorem r33_9 : Go.Eng.isTrue (Go.Eng.twoRun Try.prog Go.Eng.noSums (⟨14, 16, 31, 37, 40⟩ : Go.Eng.Fns) 1000 60 12 (.row [6]) (.row [1, 1, 1, 1, 1])) = true := by kernel_rfl
set_option maxRecDepth 100000 in
theorem r33_10 : Go.Eng.isTrue (Go.Eng.twoRun Try.prog Go.Eng.noSums (⟨14, 16, 31, 37, 40⟩ : Go.Eng.Fns) 1000 60 12 (.row [6]) (.row [1, 1, 1, 1, 1, 1])) = true := by kernel_rfl
set_option maxRecDepth 100000 in
theorem r33_11 : Go.Eng.isTrue (Go.Eng.twoRun Try.prog Go.Eng.noSums (⟨14, 16, 31, 37, 40⟩ : Go.Eng.Fns) 1000 60 12 (.row [6]) (.row [2])) = true := by kernel_rfl
set_option maxRecDepth 100000 in
theorem r33_12 : Go.Eng.isTrue (Go.Eng.twoRun Try.prog Go.Eng.noSums (⟨14, 16, 31, 37, 40⟩ : Go.Eng.Fns) 1000 60 12 (.row [6]) (.row [2, 1])) = true := by kernel_rfl
set_option maxRecDepth 100000 in
theorem r33_13 : Go.Eng.isTrue (Go.Eng.twoRun Try.prog Go.Eng.noSums (⟨14, 16, 31, 37, 40⟩ : Go.Eng.Fns) 1000 60 12 (.row [6]) (.row [2, 1, 1])) = true := by kernel_rfl
set_option maxRecDepth 100000 in
theorem r33_14 : Go.Eng.isTrue (Go.Eng.twoRun Try.prog Go.Eng.noSums (⟨14, 16, 31, 37, 40⟩ : Go.Eng.Fns) 1000 60 12 (.row [6]) (.row [2, 1, 1, 1])) = true := by kernel_rfl
set_option maxRecDepth 100000 in
theorem r33_15 : Go.Eng.isTrue (Go.Eng.twoRun Try.prog Go.Eng.noSums (⟨14, 16, 31, 37, 40⟩ : Go.Eng.Fns) 1000 60 12 (.row [6]) (.row [2, 1, 1, 1, 1])) = true := by kernel_rfl
set_option maxRecDepth 100000 in
theorem r33_16 : Go.Eng.isTrue (Go.Eng.twoRun Try.prog Go.Eng.noSums (⟨14, 16, 31, 37, 40⟩ : Go.Eng.Fns) 1000 60 12 (.row [6]) (.row [2, 2])) = true := by kernel_rfl
set_option maxRecDepth 100000 in
theorem r33_17 : Go.Eng.isTrue (Go.Eng.twoRun Try.prog Go.Eng.noSums (⟨14, 16, 31, 37, 40⟩ : Go.Eng.Fns) 1000 60 12 (.row [6]) (.row [2, 2, 1])) = true := by kernel_rfl
set_option maxRecDepth 100000 in
theorem r33_18 : Go.Eng.isTrue (Go.Eng.twoRun Try.prog Go.Eng.noSums (⟨14, 16, 31, 37, 40⟩ : Go.Eng.Fns) 1000 60 12 (.row [6]) (.row [2, 2, 1, 1])) = true := by kernel_rfl
set_option maxRecDepth 100000 in
theorem r33_19 : Go.Eng.isTrue (Go.Eng.twoRun Try.prog Go.Eng.noSums (⟨14, 16, 31, 37, 40⟩ : Go.Eng.Fns) 1000 60 12 (.row [6]) (.row [2, 2, 2])) = true := by kernel_rfl
set_option maxRecDepth 100000 in
theorem r33_20 : Go.Eng.isTrue (Go.Eng.twoRun Try.prog Go.Eng.noSums (⟨14, 16, 31, 37, 40⟩ : Go.Eng.Fns) 1000 60 12 (.row [6]) (.row [3])) = true := by kernel_rfl
set_option maxRecDepth 100000 in
theorem r33_21 : Go.Eng.isTrue (Go.Eng.twoRun Try.prog Go.Eng.noSums (⟨14, 16, 31, 37, 40⟩ : Go.Eng.Fns) 1000 60 12 (.row [6]) (.row [3, 1])) = true := by kernel_rfl
set_option maxRecDepth 100000 in
theorem r33_22 : Go.Eng.isTrue (Go.Eng.twoRun Try.prog Go.Eng.noSums (⟨14, 16, 31, 37, 40⟩ : Go.Eng.Fns) 1000 60 12 (.row [6]) (.row [3, 1, 1])) = true := by kernel_rfl
set_option maxRecDepth 100000 in
theorem r33_23 : Go.Eng.isTrue (Go.Eng.twoRun Try.prog Go.Eng.noSums (⟨14, 16, 31, 37, 40⟩ : Go.Eng.Fns) 1000 60 12 (.row [6]) (.row [3, 1, 1, 1])) = true := by kernel_rfl
set_option maxRecDepth 100000 in
theorem r33_24 : Go.Eng.isTrue (Go.Eng.twoRun Try.prog Go.Eng.noSums (⟨14, 16, 31, 37, 40⟩ : Go.Eng.Fns) 1000 60 12 (.row [6]) (.row [3, 2])) = true := by kernel_rfl
set_option maxRecDepth 100000 in
theorem r33_25 : Go.Eng.isTrue (Go.Eng.twoRun Try.prog Go.Eng.noSums (⟨14, 16, 31, 37, 40⟩ : Go.Eng.Fns) 1000 60 12 (.row [6]) (.row [3, 2, 1])) = true := by kernel_rfl
set_option maxRecDepth 100000 in
theorem r33_26 : Go.Eng.isTrue (Go.Eng.twoRun Try.prog Go.Eng.noSums (⟨14, 16, 31, 37, 40⟩ : Go.Eng.Fns) 1000 60 12 (.row [6]) (.row [3, 3])) = true := by kernel_rfl
set_option maxRecDepth 100000 in
theorem r33_27 : Go.Eng.isTrue (Go.Eng.twoRun Try.prog Go.Eng.noSums (⟨14, 16, 31, 37, 40⟩ : Go.Eng.Fns) 1000 60 12 (.row [6]) (.row [4])) = true := by kernel_rfl
set_option maxRecDepth 100000 in
theorem r33_28 : Go.Eng.isTrue (Go.Eng.twoRun Try.prog Go.Eng.noSums (⟨14, 16, 31, 37, 40⟩ : Go.Eng.Fns) 1000 60 12 (.row [6]) (.row [4, 1])) = true := by kernel_rfl
set_option maxRecDepth 100000 in
theorem r33_29 : Go.Eng.isTrue (Go.Eng.twoRun Try.prog Go.Eng.noSums (⟨14, 16, 31, 37, 40⟩ : Go.Eng.Fns) 1000 60 12 (.row [6]) (.row [4, 1, 1])) = true := by kernel_rfl
set_option maxRecDepth 100000 in
theorem r33_30 : Go.Eng.isTrue (Go.Eng.twoRun Try.prog Go.Eng.noSums (⟨14, 16, 31, 37, 40⟩ : Go.Eng.Fns) 1000 60 12 (.row [6]) (.row [4, 2])) = true := by kernel_rfl
set_option maxRecDepth 100000 in
theorem r33_31 : Go.Eng.isTrue (Go.Eng.twoRun Try.prog Go.Eng.noSums (⟨14, 16, 31, 37, 40⟩ : Go.Eng.Fns) 1000 60 12 (.row [6]) (.row [5])) = true := by kernel_rfl
set_option maxRecDepth 100000 in
theorem r33_32 : Go.Eng.isTrue (Go.Eng.twoRun Try.prog Go.Eng.noSums (⟨14, 16, 31, 37, 40⟩ : Go.Eng.Fns) 1000 60 12 (.row [6]) (.row [5, 1])) = true := by kernel_rfl
set_option maxRecDepth 100000 in
theorem r33_33 : Go.Eng.isTrue (Go.Eng.twoRun Try.prog Go.Eng.noSums (⟨14, 16, 31, 37, 40⟩ : Go.Eng.Fns) 1000 60 12 (.row [6]) (.row [6])) = true := by kernel_rfl
theorem r33 : Go.Eng.AllL (fun c => Go.Eng.isTrue (Go.Eng.twoRun Try.prog Go.Eng.noSums (⟨14, 16, 31, 37, 40⟩ : Go.Eng.Fns) 1000 60 12 (.row [6]) c) = true) Go.Eng.classes := by
  unfold Go.Eng.classes
  rw [Go.Eng.shares_eq]
  exact ⟨r33_0, r33_1, r33_2, r33_3, r33_4, r33_5, r33_6, r33_7, r33_8, r33_9, r33_10, r33_11, r33_12, r33_13, r33_14, r33_15, r33_16, r33_17, r33_18, r33_19, r33_20, r33_21, r33_22, r33_23, r33_24, r33_25, r33_26, r33_27, r33_28, r33_29, r33_30, r33_31, r33_32, r33_33, trivial⟩
end Go.Proofs.Ytnglbchhlpbgkaa.fnExactProductWaysRuns
