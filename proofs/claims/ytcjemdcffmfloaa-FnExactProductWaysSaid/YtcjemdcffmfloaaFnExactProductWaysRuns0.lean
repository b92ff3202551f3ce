/- The runs of FnExactProductWays, part 0. -/
import Derived.Test.YtcjemdcffmfloaaEngZb
import Derived.Test.YtcjemdcffmfloaaProg
namespace Go.Proofs.Ytcjemdcffmfloaa.fnExactProductWaysRuns
set_option linter.unusedVariables false
set_option linter.unusedSectionVars false
set_option linter.unusedSimpArgs false
set_option maxRecDepth 100000 in
theorem r0_0 : Go.Eng.isTrue (Go.Eng.twoRun Try.prog Go.Eng.noSums (⟨14, 16, 17, 43, 58⟩ : Go.Eng.Fns) 1000 60 10 .nil .nil) = true := by kernel_rfl
set_option maxRecDepth 100000 in
theorem r0_1 : Go.Eng.isTrue (Go.Eng.twoRun Try.prog Go.Eng.noSums (⟨14, 16, 17, 43, 58⟩ : Go.Eng.Fns) 1000 60 10 .nil .zero) = true := by kernel_rfl
set_option maxRecDepth 100000 in
theorem r0_2 : Go.Eng.isTrue (Go.Eng.twoRun Try.prog Go.Eng.noSums (⟨14, 16, 17, 43, 58⟩ : Go.Eng.Fns) 1000 60 10 .nil .no) = true := by kernel_rfl
set_option maxRecDepth 100000 in
theorem r0_3 : Go.Eng.isTrue (Go.Eng.twoRun Try.prog Go.Eng.noSums (⟨14, 16, 17, 43, 58⟩ : Go.Eng.Fns) 1000 60 10 .nil .long) = true := by kernel_rfl
set_option maxRecDepth 100000 in
theorem r0_4 : Go.Eng.isTrue (Go.Eng.twoRun Try.prog Go.Eng.noSums (⟨14, 16, 17, 43, 58⟩ : Go.Eng.Fns) 1000 60 10 .nil (.row [])) = true := by kernel_rfl
set_option maxRecDepth 100000 in
theorem r0_5 : Go.Eng.isTrue (Go.Eng.twoRun Try.prog Go.Eng.noSums (⟨14, 16, 17, 43, 58⟩ : Go.Eng.Fns) 1000 60 10 .nil (.row [1])) = true := by kernel_rfl
set_option maxRecDepth 100000 in
theorem r0_6 : Go.Eng.isTrue (Go.Eng.twoRun Try.prog Go.Eng.noSums (⟨14, 16, 17, 43, 58⟩ : Go.Eng.Fns) 1000 60 10 .nil (.row [1, 1])) = true := by kernel_rfl
set_option maxRecDepth 100000 in
theorem r0_7 : Go.Eng.isTrue (Go.Eng.twoRun Try.prog Go.Eng.noSums (⟨14, 16, 17, 43, 58⟩ : Go.Eng.Fns) 1000 60 10 .nil (.row [1, 1, 1])) = true := by kernel_rfl
set_option maxRecDepth 100000 in
theorem r0_8 : Go.Eng.isTrue (Go.Eng.twoRun Try.prog Go.Eng.noSums (⟨14, 16, 17, 43, 58⟩ : Go.Eng.Fns) 1000 60 10 .nil (.row [1, 1, 1, 1])) = true := by kernel_rfl
set_option maxRecDepth 100000 in
theorem r0_9 : Go.Eng.isTrue (Go.Eng.twoRun Try.prog Go.Eng.noSums (⟨14, 16, 17, 43, 58⟩ : Go.Eng.Fns) 1000 60 10 .nil (.row [1, 1, 1, 1, 1])) = true := by kernel_rfl
set_option maxRecDepth 100000 in
theorem r0_10 : Go.Eng.isTrue (Go.Eng.twoRun Try.prog Go.Eng.noSums (⟨14, 16, 17, 43, 58⟩ : Go.Eng.Fns) 1000 60 10 .nil (.row [1, 1, 1, 1, 1, 1])) = true := by kernel_rfl
set_option maxRecDepth 100000 in
theorem r0_11 : Go.Eng.isTrue (Go.Eng.twoRun Try.prog Go.Eng.noSums (⟨14, 16, 17, 43, 58⟩ : Go.Eng.Fns) 1000 60 10 .nil (.row [2])) = true := by kernel_rfl
set_option maxRecDepth 100000 in
theorem r0_12 : Go.Eng.isTrue (Go.Eng.twoRun Try.prog Go.Eng.noSums (⟨14, 16, 17, 43, 58⟩ : Go.Eng.Fns) 1000 60 10 .nil (.row [2, 1])) = true := by kernel_rfl
set_option maxRecDepth 100000 in
theorem r0_13 : Go.Eng.isTrue (Go.Eng.twoRun Try.prog Go.Eng.noSums (⟨14, 16, 17, 43, 58⟩ : Go.Eng.Fns) 1000 60 10 .nil (.row [2, 1, 1])) = true := by kernel_rfl
set_option maxRecDepth 100000 in
theorem r0_14 : Go.Eng.isTrue (Go.Eng.twoRun Try.prog Go.Eng.noSums (⟨14, 16, 17, 43, 58⟩ : Go.Eng.Fns) 1000 60 10 .nil (.row [2, 1, 1, 1])) = true := by kernel_rfl
set_option maxRecDepth 100000 in
theorem r0_15 : Go.Eng.isTrue (Go.Eng.twoRun Try.prog Go.Eng.noSums (⟨14, 16, 17, 43, 58⟩ : Go.Eng.Fns) 1000 60 10 .nil (.row [2, 1, 1, 1, 1])) = true := by kernel_rfl
set_option maxRecDepth 100000 in
theorem r0_16 : Go.Eng.isTrue (Go.Eng.twoRun Try.prog Go.Eng.noSums (⟨14, 16, 17, 43, 58⟩ : Go.Eng.Fns) 1000 60 10 .nil (.row [2, 2])) = true := by kernel_rfl
set_option maxRecDepth 100000 in
theorem r0_17 : Go.Eng.isTrue (Go.Eng.twoRun Try.prog Go.Eng.noSums (⟨14, 16, 17, 43, 58⟩ : Go.Eng.Fns) 1000 60 10 .nil (.row [2, 2, 1])) = true := by kernel_rfl
set_option maxRecDepth 100000 in
theorem r0_18 : Go.Eng.isTrue (Go.Eng.twoRun Try.prog Go.Eng.noSums (⟨14, 16, 17, 43, 58⟩ : Go.Eng.Fns) 1000 60 10 .nil (.row [2, 2, 1, 1])) = true := by kernel_rfl
set_option maxRecDepth 100000 in
theorem r0_19 : Go.Eng.isTrue (Go.Eng.twoRun Try.prog Go.Eng.noSums (⟨14, 16, 17, 43, 58⟩ : Go.Eng.Fns) 1000 60 10 .nil (.row [2, 2, 2])) = true := by kernel_rfl
set_option maxRecDepth 100000 in
theorem r0_20 : Go.Eng.isTrue (Go.Eng.twoRun Try.prog Go.Eng.noSums (⟨14, 16, 17, 43, 58⟩ : Go.Eng.Fns) 1000 60 10 .nil (.row [3])) = true := by kernel_rfl
set_option maxRecDepth 100000 in
theorem r0_21 : Go.Eng.isTrue (Go.Eng.twoRun Try.prog Go.Eng.noSums (⟨14, 16, 17, 43, 58⟩ : Go.Eng.Fns) 1000 60 10 .nil (.row [3, 1])) = true := by kernel_rfl
set_option maxRecDepth 100000 in
theorem r0_22 : Go.Eng.isTrue (Go.Eng.twoRun Try.prog Go.Eng.noSums (⟨14, 16, 17, 43, 58⟩ : Go.Eng.Fns) 1000 60 10 .nil (.row [3, 1, 1])) = true := by kernel_rfl
set_option maxRecDepth 100000 in
theorem r0_23 : Go.Eng.isTrue (Go.Eng.twoRun Try.prog Go.Eng.noSums (⟨14, 16, 17, 43, 58⟩ : Go.Eng.Fns) 1000 60 10 .nil (.row [3, 1, 1, 1])) = true := by kernel_rfl
set_option maxRecDepth 100000 in
theorem r0_24 : Go.Eng.isTrue (Go.Eng.twoRun Try.prog Go.Eng.noSums (⟨14, 16, 17, 43, 58⟩ : Go.Eng.Fns) 1000 60 10 .nil (.row [3, 2])) = true := by kernel_rfl
set_option maxRecDepth 100000 in
theorem r0_25 : Go.Eng.isTrue (Go.Eng.twoRun Try.prog Go.Eng.noSums (⟨14, 16, 17, 43, 58⟩ : Go.Eng.Fns) 1000 60 10 .nil (.row [3, 2, 1])) = true := by kernel_rfl
set_option maxRecDepth 100000 in
theorem r0_26 : Go.Eng.isTrue (Go.Eng.twoRun Try.prog Go.Eng.noSums (⟨14, 16, 17, 43, 58⟩ : Go.Eng.Fns) 1000 60 10 .nil (.row [3, 3])) = true := by kernel_rfl
set_option maxRecDepth 100000 in
theorem r0_27 : Go.Eng.isTrue (Go.Eng.twoRun Try.prog Go.Eng.noSums (⟨14, 16, 17, 43, 58⟩ : Go.Eng.Fns) 1000 60 10 .nil (.row [4])) = true := by kernel_rfl
set_option maxRecDepth 100000 in
theorem r0_28 : Go.Eng.isTrue (Go.Eng.twoRun Try.prog Go.Eng.noSums (⟨14, 16, 17, 43, 58⟩ : Go.Eng.Fns) 1000 60 10 .nil (.row [4, 1])) = true := by kernel_rfl
set_option maxRecDepth 100000 in
theorem r0_29 : Go.Eng.isTrue (Go.Eng.twoRun Try.prog Go.Eng.noSums (⟨14, 16, 17, 43, 58⟩ : Go.Eng.Fns) 1000 60 10 .nil (.row [4, 1, 1])) = true := by kernel_rfl
set_option maxRecDepth 100000 in
theorem r0_30 : Go.Eng.isTrue (Go.Eng.twoRun Try.prog Go.Eng.noSums (⟨14, 16, 17, 43, 58⟩ : Go.Eng.Fns) 1000 60 10 .nil (.row [4, 2])) = true := by kernel_rfl
set_option maxRecDepth 100000 in
theorem r0_31 : Go.Eng.isTrue (Go.Eng.twoRun Try.prog Go.Eng.noSums (⟨14, 16, 17, 43, 58⟩ : Go.Eng.Fns) 1000 60 10 .nil (.row [5])) = true := by kernel_rfl
set_option maxRecDepth 100000 in
theorem r0_32 : Go.Eng.isTrue (Go.Eng.twoRun Try.prog Go.Eng.noSums (⟨14, 16, 17, 43, 58⟩ : Go.Eng.Fns) 1000 60 10 .nil (.row [5, 1])) = true := by kernel_rfl
set_option maxRecDepth 100000 in
theorem r0_33 : Go.Eng.isTrue (Go.Eng.twoRun Try.prog Go.Eng.noSums (⟨14, 16, 17, 43, 58⟩ : Go.Eng.Fns) 1000 60 10 .nil (.row [6])) = true := by kernel_rfl
theorem r0 : Go.Eng.AllL (fun c => Go.Eng.isTrue (Go.Eng.twoRun Try.prog Go.Eng.noSums (⟨14, 16, 17, 43, 58⟩ : Go.Eng.Fns) 1000 60 10 .nil c) = true) Go.Eng.classes := by
  unfold Go.Eng.classes
  rw [Go.Eng.shares_eq]
  exact ⟨r0_0, r0_1, r0_2, r0_3, r0_4, r0_5, r0_6, r0_7, r0_8, r0_9, r0_10, r0_11, r0_12, r0_13, r0_14, r0_15, r0_16, r0_17, r0_18, r0_19, r0_20, r0_21, r0_22, r0_23, r0_24, r0_25, r0_26, r0_27, r0_28, r0_29, r0_30, r0_31, r0_32, r0_33, trivial⟩
set_option maxRecDepth 100000 in
theorem r4_0 : Go.Eng.isTrue (Go.Eng.twoRun Try.prog Go.Eng.noSums (⟨14, 16, 17, 43, 58⟩ : Go.Eng.Fns) 1000 60 10 (.row []) .nil) = true := by kernel_rfl
set_option maxRecDepth 100000 in
theorem r4_1 : Go.Eng.isTrue (Go.Eng.twoRun Try.prog Go.Eng.noSums (⟨14, 16, 17, 43, 58⟩ : Go.Eng.Fns) 1000 60 10 (.row []) .zero) = true := by kernel_rfl
set_option maxRecDepth 100000 in
theorem r4_2 : Go.Eng.isTrue (Go.Eng.twoRun Try.prog Go.Eng.noSums (⟨14, 16, 17, 43, 58⟩ : Go.Eng.Fns) 1000 60 10 (.row []) .no) = true := by kernel_rfl
set_option maxRecDepth 100000 in
theorem r4_3 : Go.Eng.isTrue (Go.Eng.twoRun Try.prog Go.Eng.noSums (⟨14, 16, 17, 43, 58⟩ : Go.Eng.Fns) 1000 60 10 (.row []) .long) = true := by kernel_rfl
set_option maxRecDepth 100000 in
theorem r4_4 : Go.Eng.isTrue (Go.Eng.twoRun Try.prog Go.Eng.noSums (⟨14, 16, 17, 43, 58⟩ : Go.Eng.Fns) 1000 60 10 (.row []) (.row [])) = true := by kernel_rfl
set_option maxRecDepth 100000 in
theorem r4_5 : Go.Eng.isTrue (Go.Eng.twoRun Try.prog Go.Eng.noSums (⟨14, 16, 17, 43, 58⟩ : Go.Eng.Fns) 1000 60 10 (.row []) (.row [1])) = true := by kernel_rfl
set_option maxRecDepth 100000 in
theorem r4_6 : Go.Eng.isTrue (Go.Eng.twoRun Try.prog Go.Eng.noSums (⟨14, 16, 17, 43, 58⟩ : Go.Eng.Fns) 1000 60 10 (.row []) (.row [1, 1])) = true := by kernel_rfl
set_option maxRecDepth 100000 in
theorem r4_7 : Go.Eng.isTrue (Go.Eng.twoRun Try.prog Go.Eng.noSums (⟨14, 16, 17, 43, 58⟩ : Go.Eng.Fns) 1000 60 10 (.row []) (.row [1, 1, 1])) = true := by kernel_rfl
set_option maxRecDepth 100000 in
theorem r4_8 : Go.Eng.isTrue (Go.Eng.twoRun Try.prog Go.Eng.noSums (⟨14, 16, 17, 43, 58⟩ : Go.Eng.Fns) 1000 60 10 (.row []) (.row [1, 1, 1, 1])) = true := by kernel_rfl
set_option maxRecDepth 100000 in
theorem r4_9 : Go.Eng.isTrue (Go.Eng.twoRun Try.prog Go.Eng.noSums (⟨14, 16, 17, 43, 58⟩ : Go.Eng.Fns) 1000 60 10 (.row []) (.row [1, 1, 1, 1, 1])) = true := by kernel_rfl
set_option maxRecDepth 100000 in
theorem r4_10 : Go.Eng.isTrue (Go.Eng.twoRun Try.prog Go.Eng.noSums (⟨14, 16, 17, 43, 58⟩ : Go.Eng.Fns) 1000 60 10 (.row []) (.row [1, 1, 1, 1, 1, 1])) = true := by kernel_rfl
set_option maxRecDepth 100000 in
theorem r4_11 : Go.Eng.isTrue (Go.Eng.twoRun Try.prog Go.Eng.noSums (⟨14, 16, 17, 43, 58⟩ : Go.Eng.Fns) 1000 60 10 (.row []) (.row [2])) = true := by kernel_rfl
set_option maxRecDepth 100000 in
theorem r4_12 : Go.Eng.isTrue (Go.Eng.twoRun Try.prog Go.Eng.noSums (⟨14, 16, 17, 43, 58⟩ : Go.Eng.Fns) 1000 60 10 (.row []) (.row [2, 1])) = true := by kernel_rfl
set_option maxRecDepth 100000 in
theorem r4_13 : Go.Eng.isTrue (Go.Eng.twoRun Try.prog Go.Eng.noSums (⟨14, 16, 17, 43, 58⟩ : Go.Eng.Fns) 1000 60 10 (.row []) (.row [2, 1, 1])) = true := by kernel_rfl
set_option maxRecDepth 100000 in
theorem r4_14 : Go.Eng.isTrue (Go.Eng.twoRun Try.prog Go.Eng.noSums (⟨14, 16, 17, 43, 58⟩ : Go.Eng.Fns) 1000 60 10 (.row []) (.row [2, 1, 1, 1])) = true := by kernel_rfl
set_option maxRecDepth 100000 in
theorem r4_15 : Go.Eng.isTrue (Go.Eng.twoRun Try.prog Go.Eng.noSums (⟨14, 16, 17, 43, 58⟩ : Go.Eng.Fns) 1000 60 10 (.row []) (.row [2, 1, 1, 1, 1])) = true := by kernel_rfl
set_option maxRecDepth 100000 in
theorem r4_16 : Go.Eng.isTrue (Go.Eng.twoRun Try.prog Go.Eng.noSums (⟨14, 16, 17, 43, 58⟩ : Go.Eng.Fns) 1000 60 10 (.row []) (.row [2, 2])) = true := by kernel_rfl
set_option maxRecDepth 100000 in
theorem r4_17 : Go.Eng.isTrue (Go.Eng.twoRun Try.prog Go.Eng.noSums (⟨14, 16, 17, 43, 58⟩ : Go.Eng.Fns) 1000 60 10 (.row []) (.row [2, 2, 1])) = true := by kernel_rfl
set_option maxRecDepth 100000 in
theorem r4_18 : Go.Eng.isTrue (Go.Eng.twoRun Try.prog Go.Eng.noSums (⟨14, 16, 17, 43, 58⟩ : Go.Eng.Fns) 1000 60 10 (.row []) (.row [2, 2, 1, 1])) = true := by kernel_rfl
set_option maxRecDepth 100000 in
theorem r4_19 : Go.Eng.isTrue (Go.Eng.twoRun Try.prog Go.Eng.noSums (⟨14, 16, 17, 43, 58⟩ : Go.Eng.Fns) 1000 60 10 (.row []) (.row [2, 2, 2])) = true := by kernel_rfl
set_option maxRecDepth 100000 in
theorem r4_20 : Go.Eng.isTrue (Go.Eng.twoRun Try.prog Go.Eng.noSums (⟨14, 16, 17, 43, 58⟩ : Go.Eng.Fns) 1000 60 10 (.row []) (.row [3])) = true := by kernel_rfl
set_option maxRecDepth 100000 in
theorem r4_21 : Go.Eng.isTrue (Go.Eng.twoRun Try.prog Go.Eng.noSums (⟨14, 16, 17, 43, 58⟩ : Go.Eng.Fns) 1000 60 10 (.row []) (.row [3, 1])) = true := by kernel_rfl
set_option maxRecDepth 100000 in
theorem r4_22 : Go.Eng.isTrue (Go.Eng.twoRun Try.prog Go.Eng.noSums (⟨14, 16, 17, 43, 58⟩ : Go.Eng.Fns) 1000 60 10 (.row []) (.row [3, 1, 1])) = true := by kernel_rfl
set_option maxRecDepth 100000 in
theorem r4_23 : Go.Eng.isTrue (Go.Eng.twoRun Try.prog Go.Eng.noSums (⟨14, 16, 17, 43, 58⟩ : Go.Eng.Fns) 1000 60 10 (.row []) (.row [3, 1, 1, 1])) = true := by kernel_rfl
set_option maxRecDepth 100000 in
theorem r4_24 : Go.Eng.isTrue (Go.Eng.twoRun Try.prog Go.Eng.noSums (⟨14, 16, 17, 43, 58⟩ : Go.Eng.Fns) 1000 60 10 (.row []) (.row [3, 2])) = true := by kernel_rfl
set_option maxRecDepth 100000 in
theorem r4_25 : Go.Eng.isTrue (Go.Eng.twoRun Try.prog Go.Eng.noSums (⟨14, 16, 17, 43, 58⟩ : Go.Eng.Fns) 1000 60 10 (.row []) (.row [3, 2, 1])) = true := by kernel_rfl
set_option maxRecDepth 100000 in
theorem r4_26 : Go.Eng.isTrue (Go.Eng.twoRun Try.prog Go.Eng.noSums (⟨14, 16, 17, 43, 58⟩ : Go.Eng.Fns) 1000 60 10 (.row []) (.row [3, 3])) = true := by kernel_rfl
set_option maxRecDepth 100000 in
theorem r4_27 : Go.Eng.isTrue (Go.Eng.twoRun Try.prog Go.Eng.noSums (⟨14, 16, 17, 43, 58⟩ : Go.Eng.Fns) 1000 60 10 (.row []) (.row [4])) = true := by kernel_rfl
set_option maxRecDepth 100000 in
theorem r4_28 : Go.Eng.isTrue (Go.Eng.twoRun Try.prog Go.Eng.noSums (⟨14, 16, 17, 43, 58⟩ : Go.Eng.Fns) 1000 60 10 (.row []) (.row [4, 1])) = true := by kernel_rfl
set_option maxRecDepth 100000 in
theorem r4_29 : Go.Eng.isTrue (Go.Eng.twoRun Try.prog Go.Eng.noSums (⟨14, 16, 17, 43, 58⟩ : Go.Eng.Fns) 1000 60 10 (.row []) (.row [4, 1, 1])) = true := by kernel_rfl
set_option maxRecDepth 100000 in
theorem r4_30 : Go.Eng.isTrue (Go.Eng.twoRun Try.prog Go.Eng.noSums (⟨14, 16, 17, 43, 58⟩ : Go.Eng.Fns) 1000 60 10 (.row []) (.row [4, 2])) = true := by kernel_rfl
set_option maxRecDepth 100000 in
theorem r4_31 : Go.Eng.isTrue (Go.Eng.twoRun Try.prog Go.Eng.noSums (⟨14, 16, 17, 43, 58⟩ : Go.Eng.Fns) 1000 60 10 (.row []) (.row [5])) = true := by kernel_rfl
set_option maxRecDepth 100000 in
theorem r4_32 : Go.Eng.isTrue (Go.Eng.twoRun Try.prog Go.Eng.noSums (⟨14, 16, 17, 43, 58⟩ : Go.Eng.Fns) 1000 60 10 (.row []) (.row [5, 1])) = true := by kernel_rfl
set_option maxRecDepth 100000 in
theorem r4_33 : Go.Eng.isTrue (Go.Eng.twoRun Try.prog Go.Eng.noSums (⟨14, 16, 17, 43, 58⟩ : Go.Eng.Fns) 1000 60 10 (.row []) (.row [6])) = true := by kernel_rfl
theorem r4 : Go.Eng.AllL (fun c => Go.Eng.isTrue (Go.Eng.twoRun Try.prog Go.Eng.noSums (⟨14, 16, 17, 43, 58⟩ : Go.Eng.Fns) 1000 60 10 (.row []) c) = true) Go.Eng.classes := by
  unfold Go.Eng.classes
  rw [Go.Eng.shares_eq]
  exact ⟨r4_0, r4_1, r4_2, r4_3, r4_4, r4_5, r4_6, r4_7, r4_8, r4_9, r4_10, r4_11, r4_12, r4_13, r4_14, r4_15, r4_16, r4_17, r4_18, r4_19, r4_20, r4_21, r4_22, r4_23, r4_24, r4_25, r4_26, r4_27, r4_28, r4_29, r4_30, r4_31, r4_32, r4_33, trivial⟩
set_option maxRecDepth 100000 in
theorem r8_0 : Go.Eng.isTrue (Go.Eng.twoRun Try.prog Go.Eng.noSums (⟨14, 16, 17, 43, 58⟩ : Go.Eng.Fns) 1000 60 10 (.row [1, 1, 1, 1]) .nil) = true := by kernel_rfl
set_option maxRecDepth 100000 in
theorem r8_1 : Go.Eng.isTrue (Go.Eng.twoRun Try.prog Go.Eng.noSums (⟨14, 16, 17, 43, 58⟩ : Go.Eng.Fns) 1000 60 10 (.row [1, 1, 1, 1]) .zero) = true := by kernel_rfl
set_option maxRecDepth 100000 in
theorem r8_2 : Go.Eng.isTrue (Go.Eng.twoRun Try.prog Go.Eng.noSums (⟨14, 16, 17, 43, 58⟩ : Go.Eng.Fns) 1000 60 10 (.row [1, 1, 1, 1]) .no) = true := by kernel_rfl
set_option maxRecDepth 100000 in
theorem r8_3 : Go.Eng.isTrue (Go.Eng.twoRun Try.prog Go.Eng.noSums (⟨14, 16, 17, 43, 58⟩ : Go.Eng.Fns) 1000 60 10 (.row [1, 1, 1, 1]) .long) = true := by kernel_rfl
set_option maxRecDepth 100000 in
theorem r8_4 : Go.Eng.isTrue (Go.Eng.twoRun Try.prog Go.Eng.noSums (⟨14, 16, 17, 43, 58⟩ : Go.Eng.Fns) 1000 60 10 (.row [1, 1, 1, 1]) (.row [])) = true := by kernel_rfl
set_option maxRecDepth 100000 in
theorem r8_5 : Go.Eng.isTrue (Go.Eng.twoRun Try.prog Go.Eng.noSums (⟨14, 16, 17, 43, 58⟩ : Go.Eng.Fns) 1000 60 10 (.row [1, 1, 1, 1]) (.row [1])) = true := by kernel_rfl
set_option maxRecDepth 100000 in
theorem r8_6 : Go.Eng.isTrue (Go.Eng.twoRun Try.prog Go.Eng.noSums (⟨14, 16, 17, 43, 58⟩ : Go.Eng.Fns) 1000 60 10 (.row [1, 1, 1, 1]) (.row [1, 1])) = true := by kernel_rfl
set_option maxRecDepth 100000 in
theorem r8_7 : Go.Eng.isTrue (Go.Eng.twoRun Try.prog Go.Eng.noSums (⟨14, 16, 17, 43, 58⟩ : Go.Eng.Fns) 1000 60 10 (.row [1, 1, 1, 1]) (.row [1, 1, 1])) = true := by kernel_rfl
set_option maxRecDepth 100000 in
theorem r8_8 : Go.Eng.isTrue (Go.Eng.twoRun Try.prog Go.Eng.noSums (⟨14, 16, 17, 43, 58⟩ : Go.Eng.Fns) 1000 60 10 (.row [1, 1, 1, 1]) (.row [1, 1, 1, 1])) = true := by kernel_rfl
set_option maxRecDepth 100000 in
theorem r8_9 : Go.Eng.isTrue (Go.Eng.twoRun Try.prog Go.Eng.noSums (⟨14, 16, 17, 43, 58⟩ : Go.Eng.Fns) 1000 60 10 (.row [1, 1, 1, 1]) (.row [1, 1, 1, 1, 1])) = true := by kernel_rfl
set_option maxRecDepth 100000 in
theorem r8_10 : Go.Eng.isTrue (Go.Eng.twoRun Try.prog Go.Eng.noSums (⟨14, 16, 17, 43, 58⟩ : Go.Eng.Fns) 1000 60 10 (.row [1, 1, 1, 1]) (.row [1, 1, 1, 1, 1, 1])) = true := by kernel_rfl
set_option maxRecDepth 100000 in
theorem r8_11 : Go.Eng.isTrue (Go.Eng.twoRun Try.prog Go.Eng.noSums (⟨14, 16, 17, 43, 58⟩ : Go.Eng.Fns) 1000 60 10 (.row [1, 1, 1, 1]) (.row [2])) = true := by kernel_rfl
set_option maxRecDepth 100000 in
theorem r8_12 : Go.Eng.isTrue (Go.Eng.twoRun Try.prog Go.Eng.noSums (⟨14, 16, 17, 43, 58⟩ : Go.Eng.Fns) 1000 60 10 (.row [1, 1, 1, 1]) (.row [2, 1])) = true := by kernel_rfl
set_option maxRecDepth 100000 in
theorem r8_13 : Go.Eng.isTrue (Go.Eng.twoRun Try.prog Go.Eng.noSums (⟨14, 16, 17, 43, 58⟩ : Go.Eng.Fns) 1000 60 10 (.row [1, 1, 1, 1]) (.row [2, 1, 1])) = true := by kernel_rfl
set_option maxRecDepth 100000 in
theorem r8_14 : Go.Eng.isTrue (Go.Eng.twoRun Try.prog Go.Eng.noSums (⟨14, 16, 17, 43, 58⟩ : Go.Eng.Fns) 1000 60 10 (.row [1, 1, 1, 1]) (.row [2, 1, 1, 1])) = true := by kernel_rfl
set_option maxRecDepth 100000 in
theorem r8_15 : Go.Eng.isTrue (Go.Eng.twoRun Try.prog Go.Eng.noSums (⟨14, 16, 17, 43, 58⟩ : Go.Eng.Fns) 1000 60 10 (.row [1, 1, 1, 1]) (.row [2, 1, 1, 1, 1])) = true := by kernel_rfl
set_option maxRecDepth 100000 in
theorem r8_16 : Go.Eng.isTrue (Go.Eng.twoRun Try.prog Go.Eng.noSums (⟨14, 16, 17, 43, 58⟩ : Go.Eng.Fns) 1000 60 10 (.row [1, 1, 1, 1]) (.row [2, 2])) = true := by kernel_rfl
set_option maxRecDepth 100000 in
theorem r8_17 : Go.Eng.isTrue (Go.Eng.twoRun Try.prog Go.Eng.noSums (⟨14, 16, 17, 43, 58⟩ : Go.Eng.Fns) 1000 60 10 (.row [1, 1, 1, 1]) (.row [2, 2, 1])) = true := by kernel_rfl
set_option maxRecDepth 100000 in
theorem r8_18 : Go.Eng.isTrue (Go.Eng.twoRun Try.prog Go.Eng.noSums (⟨14, 16, 17, 43, 58⟩ : Go.Eng.Fns) 1000 60 10 (.row [1, 1, 1, 1]) (.row [2, 2, 1, 1])) = true := by kernel_rfl
set_option maxRecDepth 100000 in
theorem r8_19 : Go.Eng.isTrue (Go.Eng.twoRun Try.prog Go.Eng.noSums (⟨14, 16, 17, 43, 58⟩ : Go.Eng.Fns) 1000 60 10 (.row [1, 1, 1, 1]) (.row [2, 2, 2])) = true := by kernel_rfl
set_option maxRecDepth 100000 in
theorem r8_20 : Go.Eng.isTrue (Go.Eng.twoRun Try.prog Go.Eng.noSums (⟨14, 16, 17, 43, 58⟩ : Go.Eng.Fns) 1000 60 10 (.row [1, 1, 1, 1]) (.row [3])) = true := by kernel_rfl
set_option maxRecDepth 100000 in
theorem r8_21 : Go.Eng.isTrue (Go.Eng.twoRun Try.prog Go.Eng.noSums (⟨14, 16, 17, 43, 58⟩ : Go.Eng.Fns) 1000 60 10 (.row [1, 1, 1, 1]) (.row [3, 1])) = true := by kernel_rfl
set_option maxRecDepth 100000 in
theorem r8_22 : Go.Eng.isTrue (Go.Eng.twoRun Try.prog Go.Eng.noSums (⟨14, 16, 17, 43, 58⟩ : Go.Eng.Fns) 1000 60 10 (.row [1, 1, 1, 1]) (.row [3, 1, 1])) = true := by kernel_rfl
set_option maxRecDepth 100000 in
theorem r8_23 : Go.Eng.isTrue (Go.Eng.twoRun Try.prog Go.Eng.noSums (⟨14, 16, 17, 43, 58⟩ : Go.Eng.Fns) 1000 60 10 (.row [1, 1, 1, 1]) (.row [3, 1, 1, 1])) = true := by kernel_rfl
set_option maxRecDepth 100000 in
theorem r8_24 : Go.Eng.isTrue (Go.Eng.twoRun Try.prog Go.Eng.noSums (⟨14, 16, 17, 43, 58⟩ : Go.Eng.Fns) 1000 60 10 (.row [1, 1, 1, 1]) (.row [3, 2])) = true := by kernel_rfl
set_option maxRecDepth 100000 in
theorem r8_25 : Go.Eng.isTrue (Go.Eng.twoRun Try.prog Go.Eng.noSums (⟨14, 16, 17, 43, 58⟩ : Go.Eng.Fns) 1000 60 10 (.row [1, 1, 1, 1]) (.row [3, 2, 1])) = true := by kernel_rfl
set_option maxRecDepth 100000 in
theorem r8_26 : Go.Eng.isTrue (Go.Eng.twoRun Try.prog Go.Eng.noSums (⟨14, 16, 17, 43, 58⟩ : Go.Eng.Fns) 1000 60 10 (.row [1, 1, 1, 1]) (.row [3, 3])) = true := by kernel_rfl
set_option maxRecDepth 100000 in
theorem r8_27 : Go.Eng.isTrue (Go.Eng.twoRun Try.prog Go.Eng.noSums (⟨14, 16, 17, 43, 58⟩ : Go.Eng.Fns) 1000 60 10 (.row [1, 1, 1, 1]) (.row [4])) = true := by kernel_rfl
set_option maxRecDepth 100000 in
theorem r8_28 : Go.Eng.isTrue (Go.Eng.twoRun Try.prog Go.Eng.noSums (⟨14, 16, 17, 43, 58⟩ : Go.Eng.Fns) 1000 60 10 (.row [1, 1, 1, 1]) (.row [4, 1])) = true := by kernel_rfl
set_option maxRecDepth 100000 in
theorem r8_29 : Go.Eng.isTrue (Go.Eng.twoRun Try.prog Go.Eng.noSums (⟨14, 16, 17, 43, 58⟩ : Go.Eng.Fns) 1000 60 10 (.row [1, 1, 1, 1]) (.row [4, 1, 1])) = true := by kernel_rfl
set_option maxRecDepth 100000 in
theorem r8_30 : Go.Eng.isTrue (Go.Eng.twoRun Try.prog Go.Eng.noSums (⟨14, 16, 17, 43, 58⟩ : Go.Eng.Fns) 1000 60 10 (.row [1, 1, 1, 1]) (.row [4, 2])) = true := by kernel_rfl
set_option maxRecDepth 100000 in
theorem r8_31 : Go.Eng.isTrue (Go.Eng.twoRun Try.prog Go.Eng.noSums (⟨14, 16, 17, 43, 58⟩ : Go.Eng.Fns) 1000 60 10 (.row [1, 1, 1, 1]) (.row [5])) = true := by kernel_rfl
set_option maxRecDepth 100000 in
theorem r8_32 : Go.Eng.isTrue (Go.Eng.twoRun Try.prog Go.Eng.noSums (⟨14, 16, 17, 43, 58⟩ : Go.Eng.Fns) 1000 60 10 (.row [1, 1, 1, 1]) (.row [5, 1])) = true := by kernel_rfl
set_option maxRecDepth 100000 in
theorem r8_33 : Go.Eng.isTrue (Go.Eng.twoRun Try.prog Go.Eng.noSums (⟨14, 16, 17, 43, 58⟩ : Go.Eng.Fns) 1000 60 10 (.row [1, 1, 1, 1]) (.row [6])) = true := by kernel_rfl
theorem r8 : Go.Eng.AllL (fun c => Go.Eng.isTrue (Go.Eng.twoRun Try.prog Go.Eng.noSums (⟨14, 16, 17, 43, 58⟩ : Go.Eng.Fns) 1000 60 10 (.row [1, 1, 1, 1]) c) = true) Go.Eng.classes := by
  unfold Go.Eng.classes
  rw [Go.Eng.shares_eq]
  exact ⟨r8_0, r8_1, r8_2, r8_3, r8_4, r8_5, r8_6, r8_7, r8_8, r8_9, r8_10, r8_11, r8_12, r8_13, r8_14, r8_15, r8_16, r8_17, r8_18, r8_19, r8_20, r8_21, r8_22, r8_23, r8_24, r8_25, r8_26, r8_27, r8_28, r8_29, r8_30, r8_31, r8_32, r8_33, trivial⟩
set_option maxRecDepth 100000 in
theorem r12_0 : Go.Eng.isTrue (Go.Eng.twoRun Try.prog Go.Eng.noSums (⟨14, 16, 17, 43, 58⟩ : Go.Eng.Fns) 1000 60 10 (.row [2, 1]) .nil) = true := by kernel_rfl
set_option maxRecDepth 100000 in
theorem r12_1 : Go.Eng.isTrue (Go.Eng.twoRun Try.prog Go.Eng.noSums (⟨14, 16, 17, 43, 58⟩ : Go.Eng.Fns) 1000 60 10 (.row [2, 1]) .zero) = true := by kernel_rfl
set_option maxRecDepth 100000 in
theorem r12_2 : Go.Eng.isTrue (Go.Eng.twoRun Try.prog Go.Eng.noSums (⟨14, 16, 17, 43, 58⟩ : Go.Eng.Fns) 1000 60 10 (.row [2, 1]) .no) = true := by kernel_rfl
set_option maxRecDepth 100000 in
theorem r12_3 : Go.Eng.isTrue (Go.Eng.twoRun Try.prog Go.Eng.noSums (⟨14, 16, 17, 43, 58⟩ : Go.Eng.Fns) 1000 60 10 (.row [2, 1]) .long) = true := by kernel_rfl
set_option maxRecDepth 100000 in
theorem r12_4 : Go.Eng.isTrue (Go.Eng.twoRun Try.prog Go.Eng.noSums (⟨14, 16, 17, 43, 58⟩ : Go.Eng.Fns) 1000 60 10 (.row [2, 1]) (.row [])) = true := by kernel_rfl
set_option maxRecDepth 100000 in
theorem r12_5 : Go.Eng.isTrue (Go.Eng.twoRun Try.prog Go.Eng.noSums (⟨14, 16, 17, 43, 58⟩ : Go.Eng.Fns) 1000 60 10 (.row [2, 1]) (.row [1])) = true := by kernel_rfl
set_option maxRecDepth 100000 in
theorem r12_6 : Go.Eng.isTrue (Go.Eng.twoRun Try.prog Go.Eng.noSums (⟨14, 16, 17, 43, 58⟩ : Go.Eng.Fns) 1000 60 10 (.row [2, 1]) (.row [1, 1])) = true := by kernel_rfl
set_option maxRecDepth 100000 in
theorem r12_7 : Go.Eng.isTrue (Go.Eng.twoRun Try.prog Go.Eng.noSums (⟨14, 16, 17, 43, 58⟩ : Go.Eng.Fns) 1000 60 10 (.row [2, 1]) (.row [1, 1, 1])) = true := by kernel_rfl
set_option maxRecDepth 100000 in
theorem r12_8 : Go.Eng.isTrue (Go.Eng.twoRun Try.prog Go.Eng.noSums (⟨14, 16, 17, 43, 58⟩ : Go.Eng.Fns) 1000 60 10 (.row [2, 1]) (.row [1, 1, 1, 1])) = true := by kernel_rfl
set_option maxRecDepth 100000 in
theorem r12_9 : Go.Eng.isTrue (Go.Eng.twoRun Try.prog Go.Eng.noSums (⟨14, 16, 17, 43, 58⟩ : Go.Eng.Fns) 1000 60 10 (.row [2, 1]) (.row [1, 1, 1, 1, 1])) = true := by kernel_rfl
set_option maxRecDepth 100000 in
theorem r12_10 : Go.Eng.isTrue (Go.Eng.twoRun Try.prog Go.Eng.noSums (⟨14, 16, 17, 43, 58⟩ : Go.Eng.Fns) 1000 60 10 (.row [2, 1]) (.row [1, 1, 1, 1, 1, 1])) = true := by kernel_rfl
set_option maxRecDepth 100000 in
theorem r12_11 : Go.Eng.isTrue (Go.Eng.twoRun Try.prog Go.Eng.noSums (⟨14, 16, 17, 43, 58⟩ : Go.Eng.Fns) 1000 60 10 (.row [2, 1]) (.row [2])) = true := by kernel_rfl
set_option maxRecDepth 100000 in
theorem r12_12 : Go.Eng.isTrue (Go.Eng.twoRun Try.prog Go.Eng.noSums (⟨14, 16, 17, 43, 58⟩ : Go.Eng.Fns) 1000 60 10 (.row [2, 1]) (.row [2, 1])) = true := by kernel_rfl
set_option maxRecDepth 100000 in
theorem r12_13 : Go.Eng.isTrue (Go.Eng.twoRun Try.prog Go.Eng.noSums (⟨14, 16, 17, 43, 58⟩ : Go.Eng.Fns) 1000 60 10 (.row [2, 1]) (.row [2, 1, 1])) = true := by kernel_rfl
set_option maxRecDepth 100000 in
theorem r12_14 : Go.Eng.isTrue (Go.Eng.twoRun Try.prog Go.Eng.noSums (⟨14, 16, 17, 43, 58⟩ : Go.Eng.Fns) 1000 60 10 (.row [2, 1]) (.row [2, 1, 1, 1])) = true := by kernel_rfl
set_option maxRecDepth 100000 in
theorem r12_15 : Go.Eng.isTrue (Go.Eng.twoRun Try.prog Go.Eng.noSums (⟨14, 16, 17, 43, 58⟩ : Go.Eng.Fns) 1000 60 10 (.row [2, 1]) (.row [2, 1, 1, 1, 1])) = true := by kernel_rfl
set_option maxRecDepth 100000 in
theorem r12_16 : Go.Eng.isTrue (Go.Eng.twoRun Try.prog Go.Eng.noSums (⟨14, 16, 17, 43, 58⟩ : Go.Eng.Fns) 1000 60 10 (.row [2, 1]) (.row [2, 2])) = true := by kernel_rfl
set_option maxRecDepth 100000 in
theorem r12_17 : Go.Eng.isTrue (Go.Eng.twoRun Try.prog Go.Eng.noSums (⟨14, 16, 17, 43, 58⟩ : Go.Eng.Fns) 1000 60 10 (.row [2, 1]) (.row [2, 2, 1])) = true := by kernel_rfl
set_option maxRecDepth 100000 in
theorem r12_18 : Go.Eng.isTrue (Go.Eng.twoRun Try.prog Go.Eng.noSums (⟨14, 16, 17, 43, 58⟩ : Go.Eng.Fns) 1000 60 10 (.row [2, 1]) (.row [2, 2, 1, 1])) = true := by kernel_rfl
set_option maxRecDepth 100000 in
theorem r12_19 : Go.Eng.isTrue (Go.Eng.twoRun Try.prog Go.Eng.noSums (⟨14, 16, 17, 43, 58⟩ : Go.Eng.Fns) 1000 60 10 (.row [2, 1]) (.row [2, 2, 2])) = true := by kernel_rfl
set_option maxRecDepth 100000 in
theorem r12_20 : Go.Eng.isTrue (Go.Eng.twoRun Try.prog Go.Eng.noSums (⟨14, 16, 17, 43, 58⟩ : Go.Eng.Fns) 1000 60 10 (.row [2, 1]) (.row [3])) = true := by kernel_rfl
set_option maxRecDepth 100000 in
theorem r12_21 : Go.Eng.isTrue (Go.Eng.twoRun Try.prog Go.Eng.noSums (⟨14, 16, 17, 43, 58⟩ : Go.Eng.Fns) 1000 60 10 (.row [2, 1]) (.row [3, 1])) = true := by kernel_rfl
set_option maxRecDepth 100000 in
theorem r12_22 : Go.Eng.isTrue (Go.Eng.twoRun Try.prog Go.Eng.noSums (⟨14, 16, 17, 43, 58⟩ : Go.Eng.Fns) 1000 60 10 (.row [2, 1]) (.row [3, 1, 1])) = true := by kernel_rfl
set_option maxRecDepth 100000 in
theorem r12_23 : Go.Eng.isTrue (Go.Eng.twoRun Try.prog Go.Eng.noSums (⟨14, 16, 17, 43, 58⟩ : Go.Eng.Fns) 1000 60 10 (.row [2, 1]) (.row [3, 1, 1, 1])) = true := by kernel_rfl
set_option maxRecDepth 100000 in
theorem r12_24 : Go.Eng.isTrue (Go.Eng.twoRun Try.prog Go.Eng.noSums (⟨14, 16, 17, 43, 58⟩ : Go.Eng.Fns) 1000 60 10 (.row [2, 1]) (.row [3, 2])) = true := by kernel_rfl
set_option maxRecDepth 100000 in
theorem r12_25 : Go.Eng.isTrue (Go.Eng.twoRun Try.prog Go.Eng.noSums (⟨14, 16, 17, 43, 58⟩ : Go.Eng.Fns) 1000 60 10 (.row [2, 1]) (.row [3, 2, 1])) = true := by kernel_rfl
set_option maxRecDepth 100000 in
theorem r12_26 : Go.Eng.isTrue (Go.Eng.twoRun Try.prog Go.Eng.noSums (⟨14, 16, 17, 43, 58⟩ : Go.Eng.Fns) 1000 60 10 (.row [2, 1]) (.row [3, 3])) = true := by kernel_rfl
set_option maxRecDepth 100000 in
theorem r12_27 : Go.Eng.isTrue (Go.Eng.twoRun Try.prog Go.Eng.noSums (⟨14, 16, 17, 43, 58⟩ : Go.Eng.Fns) 1000 60 10 (.row [2, 1]) (.row [4])) = true := by kernel_rfl
set_option maxRecDepth 100000 in
theorem r12_28 : Go.Eng.isTrue (Go.Eng.twoRun Try.prog Go.Eng.noSums (⟨14, 16, 17, 43, 58⟩ : Go.Eng.Fns) 1000 60 10 (.row [2, 1]) (.row [4, 1])) = true := by kernel_rfl
set_option maxRecDepth 100000 in
theorem r12_29 : Go.Eng.isTrue (Go.Eng.twoRun Try.prog Go.Eng.noSums (⟨14, 16, 17, 43, 58⟩ : Go.Eng.Fns) 1000 60 10 (.row [2, 1]) (.row [4, 1, 1])) = true := by kernel_rfl
set_option maxRecDepth 100000 in
theorem r12_30 : Go.Eng.isTrue (Go.Eng.twoRun Try.prog Go.Eng.noSums (⟨14, 16, 17, 43, 58⟩ : Go.Eng.Fns) 1000 60 10 (.row [2, 1]) (.row [4, 2])) = true := by kernel_rfl
set_option maxRecDepth 100000 in
theorem r12_31 : Go.Eng.isTrue (Go.Eng.twoRun Try.prog Go.Eng.noSums (⟨14, 16, 17, 43, 58⟩ : Go.Eng.Fns) 1000 60 10 (.row [2, 1]) (.row [5])) = true := by kernel_rfl
set_option maxRecDepth 100000 in
theorem r12_32 : Go.Eng.isTrue (Go.Eng.twoRun Try.prog Go.Eng.noSums (⟨14, 16, 17, 43, 58⟩ : Go.Eng.Fns) 1000 60 10 (.row [2, 1]) (.row [5, 1])) = true := by kernel_rfl
set_option maxRecDepth 100000 in
theorem r12_33 : Go.Eng.isTrue (Go.Eng.twoRun Try.prog Go.Eng.noSums (⟨14, 16, 17, 43, 58⟩ : Go.Eng.Fns) 1000 60 10 (.row [2, 1]) (.row [6])) = true := by kernel_rfl
theorem r12 : Go.Eng.AllL (fun c => Go.Eng.isTrue (Go.Eng.twoRun Try.prog Go.Eng.noSums (⟨14, 16, 17, 43, 58⟩ : Go.Eng.Fns) 1000 60 10 (.row [2, 1]) c) = true) Go.Eng.classes := by
  unfold Go.Eng.classes
  rw [Go.Eng.shares_eq]
  exact ⟨r12_0, r12_1, r12_2, r12_3, r12_4, r12_5, r12_6, r12_7, r12_8, r12_9, r12_10, r12_11, r12_12, r12_13, r12_14, r12_15, r12_16, r12_17, r12_18, r12_19, r12_20, r12_21, r12_22, r12_23, r12_24, r12_25, r12_26, r12_27, r12_28, r12_29, r12_30, r12_31, r12_32, r12_33, trivial⟩
set_option maxRecDepth 100000 in
theorem r16_0 : Go.Eng.isTrue (Go.Eng.twoRun Try.prog Go.Eng.noSums (⟨14, 16, 17, 43, 58⟩ : Go.Eng.Fns) 1000 60 10 (.row [2, 2]) .nil) = true := by kernel_rfl
set_option maxRecDepth 100000 in
theorem r16_1 : Go.Eng.isTrue (Go.Eng.twoRun Try.prog Go.Eng.noSums (⟨14, 16, 17, 43, 58⟩ : Go.Eng.Fns) 1000 60 10 (.row [2, 2]) .zero) = true := by kernel_rfl
set_option maxRecDepth 100000 in
theorem r16_2 : Go.Eng.isTrue (Go.Eng.twoRun Try.prog Go.Eng.noSums (⟨14, 16, 17, 43, 58⟩ : Go.Eng.Fns) 1000 60 10 (.row [2, 2]) .no) = true := by kernel_rfl
set_option maxRecDepth 100000 in
theorem r16_3 : Go.Eng.isTrue (Go.Eng.twoRun Try.prog Go.Eng.noSums (⟨14, 16, 17, 43, 58⟩ : Go.Eng.Fns) 1000 60 10 (.row [2, 2]) .long) = true := by kernel_rfl
set_option maxRecDepth 100000 in
theorem r16_4 : Go.Eng.isTrue (Go.Eng.twoRun Try.prog Go.Eng.noSums (⟨14, 16, 17, 43, 58⟩ : Go.Eng.Fns) 1000 60 10 (.row [2, 2]) (.row [])) = true := by kernel_rfl
set_option maxRecDepth 100000 in
theorem r16_5 : Go.Eng.isTrue (Go.Eng.twoRun Try.prog Go.Eng.noSums (⟨14, 16, 17, 43, 58⟩ : Go.Eng.Fns) 1000 60 10 (.row [2, 2]) (.row [1])) = true := by kernel_rfl
set_option maxRecDepth 100000 in
theorem r16_6 : Go.Eng.isTrue (Go.Eng.twoRun Try.prog Go.Eng.noSums (⟨14, 16, 17, 43, 58⟩ : Go.Eng.Fns) 1000 60 10 (.row [2, 2]) (.row [1, 1])) = true := by kernel_rfl
set_option maxRecDepth 100000 in
theorem r16_7 : Go.Eng.isTrue (Go.Eng.twoRun Try.prog Go.Eng.noSums (⟨14, 16, 17, 43, 58⟩ : Go.Eng.Fns) 1000 60 10 (.row [2, 2]) (.row [1, 1, 1])) = true := by kernel_rfl
set_option maxRecDepth 100000 in
theorem r16_8 : Go.Eng.isTrue (Go.Eng.twoRun Try.prog Go.Eng.noSums (⟨14, 16, 17, 43, 58⟩ : Go.Eng.Fns) 1000 60 10 (.row [2, 2]) (.row [1, 1, 1, 1])) = true := by kernel_rfl
set_option maxRecDepth 100000 in
theorem r16_9 : Go.Eng.isTrue (Go.Eng.twoRun Try.prog Go.Eng.noSums (⟨14, 16, 17, 43, 58⟩ : Go.Eng.Fns) 1000 60 10 (.row [2, 2]) (.row [1, 1, 1, 1, 1])) = true := by kernel_rfl
set_option maxRecDepth 100000 in
theorem r16_10 : Go.Eng.isTrue (Go.Eng.twoRun Try.prog Go.Eng.noSums (⟨14, 16, 17, 43, 58⟩ : Go.Eng.Fns) 1000 60 10 (.row [2, 2]) (.row [1, 1, 1, 1, 1, 1])) = true := by kernel_rfl
set_option maxRecDepth 100000 in
theorem r16_11 : Go.Eng.isTrue (Go.Eng.twoRun Try.prog Go.Eng.noSums (⟨14, 16, 17, 43, 58⟩ : Go.Eng.Fns) 1000 60 10 (.row [2, 2]) (.row [2])) = true := by kernel_rfl
set_option maxRecDepth 100000 in
theorem r16_12 : Go.Eng.isTrue (Go.Eng.twoRun Try.prog Go.Eng.noSums (⟨14, 16, 17, 43, 58⟩ : Go.Eng.Fns) 1000 60 10 (.row [2, 2]) (.row [2, 1])) = true := by kernel_rfl
set_option maxRecDepth 100000 in
theorem r16_13 : Go.Eng.isTrue (Go.Eng.twoRun Try.prog Go.Eng.noSums (⟨14, 16, 17, 43, 58⟩ : Go.Eng.Fns) 1000 60 10 (.row [2, 2]) (.row [2, 1, 1])) = true := by kernel_rfl
set_option maxRecDepth 100000 in
theorem r16_14 : Go.Eng.isTrue (Go.Eng.twoRun Try.prog Go.Eng.noSums (⟨14, 16, 17, 43, 58⟩ : Go.Eng.Fns) 1000 60 10 (.row [2, 2]) (.row [2, 1, 1, 1])) = true := by kernel_rfl
set_option maxRecDepth 100000 in
theorem r16_15 : Go.Eng.isTrue (Go.Eng.twoRun Try.prog Go.Eng.noSums (⟨14, 16, 17, 43, 58⟩ : Go.Eng.Fns) 1000 60 10 (.row [2, 2]) (.row [2, 1, 1, 1, 1])) = true := by kernel_rfl
set_option maxRecDepth 100000 in
theorem r16_16 : Go.Eng.isTrue (Go.Eng.twoRun Try.prog Go.Eng.noSums (⟨14, 16, 17, 43, 58⟩ : Go.Eng.Fns) 1000 60 10 (.row [2, 2]) (.row [2, 2])) = true := by kernel_rfl
set_option maxRecDepth 100000 in
theorem r16_17 : Go.Eng.isTrue (Go.Eng.twoRun Try.prog Go.Eng.noSums (⟨14, 16, 17, 43, 58⟩ : Go.Eng.Fns) 1000 60 10 (.row [2, 2]) (.row [2, 2, 1])) = true := by kernel_rfl
set_option maxRecDepth 100000 in
theorem r16_18 : Go.Eng.isTrue (Go.Eng.twoRun Try.prog Go.Eng.noSums (⟨14, 16, 17, 43, 58⟩ : Go.Eng.Fns) 1000 60 10 (.row [2, 2]) (.row [2, 2, 1, 1])) = true := by kernel_rfl
set_option maxRecDepth 100000 in
theorem r16_19 : Go.Eng.isTrue (Go.Eng.twoRun Try.prog Go.Eng.noSums (⟨14, 16, 17, 43, 58⟩ : Go.Eng.Fns) 1000 60 10 (.row [2, 2]) (.row [2, 2, 2])) = true := by kernel_rfl
set_option maxRecDepth 100000 in
theorem r16_20 : Go.Eng.isTrue (Go.Eng.twoRun Try.prog Go.Eng.noSums (⟨14, 16, 17, 43, 58⟩ : Go.Eng.Fns) 1000 60 10 (.row [2, 2]) (.row [3])) = true := by kernel_rfl
set_option maxRecDepth 100000 in
theorem r16_21 : Go.Eng.isTrue (Go.Eng.twoRun Try.prog Go.Eng.noSums (⟨14, 16, 17, 43, 58⟩ : Go.Eng.Fns) 1000 60 10 (.row [2, 2]) (.row [3, 1])) = true := by kernel_rfl
set_option maxRecDepth 100000 in
theorem r16_22 : Go.Eng.isTrue (Go.Eng.twoRun Try.prog Go.Eng.noSums (⟨14, 16, 17, 43, 58⟩ : Go.Eng.Fns) 1000 60 10 (.row [2, 2]) (.row [3, 1, 1])) = true := by kernel_rfl
set_option maxRecDepth 100000 in
theorem r16_23 : Go.Eng.isTrue (Go.Eng.twoRun Try.prog Go.Eng.noSums (⟨14, 16, 17, 43, 58⟩ : Go.Eng.Fns) 1000 60 10 (.row [2, 2]) (.row [3, 1, 1, 1])) = true := by kernel_rfl
set_option maxRecDepth 100000 in
theorem r16_24 : Go.Eng.isTrue (Go.Eng.twoRun Try.prog Go.Eng.noSums (⟨14, 16, 17, 43, 58⟩ : Go.Eng.Fns) 1000 60 10 (.row [2, 2]) (.row [3, 2])) = true := by kernel_rfl
set_option maxRecDepth 100000 in
theorem r16_25 : Go.Eng.isTrue (Go.Eng.twoRun Try.prog Go.Eng.noSums (⟨14, 16, 17, 43, 58⟩ : Go.Eng.Fns) 1000 60 10 (.row [2, 2]) (.row [3, 2, 1])) = true := by kernel_rfl
set_option maxRecDepth 100000 in
theorem r16_26 : Go.Eng.isTrue (Go.Eng.twoRun Try.prog Go.Eng.noSums (⟨14, 16, 17, 43, 58⟩ : Go.Eng.Fns) 1000 60 10 (.row [2, 2]) (.row [3, 3])) = true := by kernel_rfl
set_option maxRecDepth 100000 in
theorem r16_27 : Go.Eng.isTrue (Go.Eng.twoRun Try.prog Go.Eng.noSums (⟨14, 16, 17, 43, 58⟩ : Go.Eng.Fns) 1000 60 10 (.row [2, 2]) (.row [4])) = true := by kernel_rfl
set_option maxRecDepth 100000 in
theorem r16_28 : Go.Eng.isTrue (Go.Eng.twoRun Try.prog Go.Eng.noSums (⟨14, 16, 17, 43, 58⟩ : Go.Eng.Fns) 1000 60 10 (.row [2, 2]) (.row [4, 1])) = true := by kernel_rfl
set_option maxRecDepth 100000 in
theorem r16_29 : Go.Eng.isTrue (Go.Eng.twoRun Try.prog Go.Eng.noSums (⟨14, 16, 17, 43, 58⟩ : Go.Eng.Fns) 1000 60 10 (.row [2, 2]) (.row [4, 1, 1])) = true := by kernel_rfl
set_option maxRecDepth 100000 in
theorem r16_30 : Go.Eng.isTrue (Go.Eng.twoRun Try.prog Go.Eng.noSums (⟨14, 16, 17, 43, 58⟩ : Go.Eng.Fns) 1000 60 10 (.row [2, 2]) (.row [4, 2])) = true := by kernel_rfl
set_option maxRecDepth 100000 in
theorem r16_31 : Go.Eng.isTrue (Go.Eng.twoRun Try.prog Go.Eng.noSums (⟨14, 16, 17, 43, 58⟩ : Go.Eng.Fns) 1000 60 10 (.row [2, 2]) (.row [5])) = true := by kernel_rfl
set_option maxRecDepth 100000 in
theorem r16_32 : Go.Eng.isTrue (Go.Eng.twoRun Try.prog Go.Eng.noSums (⟨14, 16, 17, 43, 58⟩ : Go.Eng.Fns) 1000 60 10 (.row [2, 2]) (.row [5, 1])) = true := by kernel_rfl
set_option maxRecDepth 100000 in
theorem r16_33 : Go.Eng.isTrue (Go.Eng.twoRun Try.prog Go.Eng.noSums (⟨14, 16, 17, 43, 58⟩ : Go.Eng.Fns) 1000 60 10 (.row [2, 2]) (.row [6])) = true := by kernel_rfl
theorem r16 : Go.Eng.AllL (fun c => Go.Eng.isTrue (Go.Eng.twoRun Try.prog Go.Eng.noSums (⟨14, 16, 17, 43, 58⟩ : Go.Eng.Fns) 1000 60 10 (.row [2, 2]) c) = true) Go.Eng.classes := by
  unfold Go.Eng.classes
  rw [Go.Eng.shares_eq]
  exact ⟨r16_0, r16_1, r16_2, r16_3, r16_4, r16_5, r16_6, r16_7, r16_8, r16_9, r16_10, r16_11, r16_12, r16_13, r16_14, r16_15, r16_16, r16_17, r16_18, r16_19, r16_20, r16_21, r16_22, r16_23, r16_24, r16_25, r16_26, r16_27, r16_28, r16_29, r16_30, r16_31, r16_32, r16_33, trivial⟩
set_option maxRecDepth 100000 in
theorem r20_0 : Go.Eng.isTrue (Go.Eng.twoRun Try.prog Go.Eng.noSums (⟨14, 16, 17, 43, 58⟩ : Go.Eng.Fns) 1000 60 10 (.row [3]) .nil) = true := by kernel_rfl
set_option maxRecDepth 100000 in
theorem r20_1 : Go.Eng.isTrue (Go.Eng.twoRun Try.prog Go.Eng.noSums (⟨14, 16, 17, 43, 58⟩ : Go.Eng.Fns) 1000 60 10 (.row [3]) .zero) = true := by kernel_rfl
set_option maxRecDepth 100000 in
theorem r20_2 : Go.Eng.isTrue (Go.Eng.twoRun Try.prog Go.Eng.noSums (⟨14, 16, 17, 43, 58⟩ : Go.Eng.Fns) 1000 60 10 (.row [3]) .no) = true := by kernel_rfl
set_option maxRecDepth 100000 in
theorem r20_3 : Go.Eng.isTrue (Go.Eng.twoRun Try.prog Go.Eng.noSums (⟨14, 16, 17, 43, 58⟩ : Go.Eng.Fns) 1000 60 10 (.row [3]) .long) = true := by kernel_rfl
set_option maxRecDepth 100000 in
theorem r20_4 : Go.Eng.isTrue (Go.Eng.twoRun Try.prog Go.Eng.noSums (⟨14, 16, 17, 43, 58⟩ : Go.Eng.Fns) 1000 60 10 (.row [3]) (.row [])) = true := by kernel_rfl
set_option maxRecDepth 100000 in
theorem r20_5 : Go.Eng.isTrue (Go.Eng.twoRun Try.prog Go.Eng.noSums (⟨14, 16, 17, 43, 58⟩ : Go.Eng.Fns) 1000 60 10 (.row [3]) (.row [1])) = true := by kernel_rfl
set_option maxRecDepth 100000 in
theorem r20_6 : Go.Eng.isTrue (Go.Eng.twoRun Try.prog Go.Eng.noSums (⟨14, 16, 17, 43, 58⟩ : Go.Eng.Fns) 1000 60 10 (.row [3]) (.row [1, 1])) = true := by kernel_rfl
set_option maxRecDepth 100000 in
theorem r20_7 : Go.Eng.isTrue (Go.Eng.twoRun Try.prog Go.Eng.noSums (⟨14, 16, 17, 43, 58⟩ : Go.Eng.Fns) 1000 60 10 (.row [3]) (.row [1, 1, 1])) = true := by kernel_rfl
set_option maxRecDepth 100000 in
theorem r20_8 : Go.Eng.isTrue (Go.Eng.twoRun Try.prog Go.Eng.noSums (⟨14, 16, 17, 43, 58⟩ : Go.Eng.Fns) 1000 60 10 (.row [3]) (.row [1, 1, 1, 1])) = true := by kernel_rfl
set_option maxRecDepth 100000 in
theorem r20_9 : Go.Eng.isTrue (Go.Eng.twoRun Try.prog Go.Eng.noSums (⟨14, 16, 17, 43, 58⟩ : Go.Eng.Fns) 1000 60 10 (.row [3]) (.row [1, 1, 1, 1, 1])) = true := by kernel_rfl
set_option maxRecDepth 100000 in
theorem r20_10 : Go.Eng.isTrue (Go.Eng.twoRun Try.prog Go.Eng.noSums (⟨14, 16, 17, 43, 58⟩ : Go.Eng.Fns) 1000 60 10 (.row [3]) (.row [1, 1, 1, 1, 1, 1])) = true := by kernel_rfl
set_option maxRecDepth 100000 in
theorem r20_11 : Go.Eng.isTrue (Go.Eng.twoRun Try.prog Go.Eng.noSums (⟨14, 16, 17, 43, 58⟩ : Go.Eng.Fns) 1000 60 10 (.row [3]) (.row [2])) = true := by kernel_rfl
set_option maxRecDepth 100000 in
theorem r20_12 : Go.Eng.isTrue (Go.Eng.twoRun Try.prog Go.Eng.noSums (⟨14, 16, 17, 43, 58⟩ : Go.Eng.Fns) 1000 60 10 (.row [3]) (.row [2, 1])) = true := by kernel_rfl
set_option maxRecDepth 100000 in
theorem r20_13 : Go.Eng.isTrue (Go.Eng.twoRun Try.prog Go.Eng.noSums (⟨14, 16, 17, 43, 58⟩ : Go.Eng.Fns) 1000 60 10 (.row [3]) (.row [2, 1, 1])) = true := by kernel_rfl
set_option maxRecDepth 100000 in
theorem r20_14 : Go.Eng.isTrue (Go.Eng.twoRun Try.prog Go.Eng.noSums (⟨14, 16, 17, 43, 58⟩ : Go.Eng.Fns) 1000 60 10 (.row [3]) (.row [2, 1, 1, 1])) = true := by kernel_rfl
set_option maxRecDepth 100000 in
theorem r20_15 : Go.Eng.isTrue (Go.Eng.twoRun Try.prog Go.Eng.noSums (⟨14, 16, 17, 43, 58⟩ : Go.Eng.Fns) 1000 60 10 (.row [3]) (.row [2, 1, 1, 1, 1])) = true := by kernel_rfl
set_option maxRecDepth 100000 in
theorem r20_16 : Go.Eng.isTrue (Go.Eng.twoRun Try.prog Go.Eng.noSums (⟨14, 16, 17, 43, 58⟩ : Go.Eng.Fns) 1000 60 10 (.row [3]) (.row [2, 2])) = true := by kernel_rfl
set_option maxRecDepth 100000 in
theorem r20_17 : Go.Eng.isTrue (Go.Eng.twoRun Try.prog Go.Eng.noSums (⟨14, 16, 17, 43, 58⟩ : Go.Eng.Fns) 1000 60 10 (.row [3]) (.row [2, 2, 1])) = true := by kernel_rfl
set_option maxRecDepth 100000 in
theorem r20_18 : Go.Eng.isTrue (Go.Eng.twoRun Try.prog Go.Eng.noSums (⟨14, 16, 17, 43, 58⟩ : Go.Eng.Fns) 1000 60 10 (.row [3]) (.row [2, 2, 1, 1])) = true := by kernel_rfl
set_option maxRecDepth 100000 in
theorem r20_19 : Go.Eng.isTrue (Go.Eng.twoRun Try.prog Go.Eng.noSums (⟨14, 16, 17, 43, 58⟩ : Go.Eng.Fns) 1000 60 10 (.row [3]) (.row [2, 2, 2])) = true := by kernel_rfl
set_option maxRecDepth 100000 in
theorem r20_20 : Go.Eng.isTrue (Go.Eng.twoRun Try.prog Go.Eng.noSums (⟨14, 16, 17, 43, 58⟩ : Go.Eng.Fns) 1000 60 10 (.row [3]) (.row [3])) = true := by kernel_rfl
set_option maxRecDepth 100000 in
theorem r20_21 : Go.Eng.isTrue (Go.Eng.twoRun Try.prog Go.Eng.noSums (⟨14, 16, 17, 43, 58⟩ : Go.Eng.Fns) 1000 60 10 (.row [3]) (.row [3, 1])) = true := by kernel_rfl
set_option maxRecDepth 100000 in
theorem r20_22 : Go.Eng.isTrue (Go.Eng.twoRun Try.prog Go.Eng.noSums (⟨14, 16, 17, 43, 58⟩ : Go.Eng.Fns) 1000 60 10 (.row [3]) (.row [3, 1, 1])) = true := by kernel_rfl
set_option maxRecDepth 100000 in
theorem r20_23 : Go.Eng.isTrue (Go.Eng.twoRun Try.prog Go.Eng.noSums (⟨14, 16, 17, 43, 58⟩ : Go.Eng.Fns) 1000 60 10 (.row [3]) (.row [3, 1, 1, 1])) = true := by kernel_rfl
set_option maxRecDepth 100000 in
theorem r20_24 : Go.Eng.isTrue (Go.Eng.twoRun Try.prog Go.Eng.noSums (⟨14, 16, 17, 43, 58⟩ : Go.Eng.Fns) 1000 60 10 (.row [3]) (.row [3, 2])) = true := by kernel_rfl
set_option maxRecDepth 100000 in
theorem r20_25 : Go.Eng.isTrue (Go.Eng.twoRun Try.prog Go.Eng.noSums (⟨14, 16, 17, 43, 58⟩ : Go.Eng.Fns) 1000 60 10 (.row [3]) (.row [3, 2, 1])) = true := by kernel_rfl
set_option maxRecDepth 100000 in
theorem r20_26 : Go.Eng.isTrue (Go.Eng.twoRun Try.prog Go.Eng.noSums (⟨14, 16, 17, 43, 58⟩ : Go.Eng.Fns) 1000 60 10 (.row [3]) (.row [3, 3])) = true := by kernel_rfl
set_option maxRecDepth 100000 in
theorem r20_27 : Go.Eng.isTrue (Go.Eng.twoRun Try.prog Go.Eng.noSums (⟨14, 16, 17, 43, 58⟩ : Go.Eng.Fns) 1000 60 10 (.row [3]) (.row [4])) = true := by kernel_rfl
set_option maxRecDepth 100000 in
theorem r20_28 : Go.Eng.isTrue (Go.Eng.twoRun Try.prog Go.Eng.noSums (⟨14, 16, 17, 43, 58⟩ : Go.Eng.Fns) 1000 60 10 (.row [3]) (.row [4, 1])) = true := by kernel_rfl
set_option maxRecDepth 100000 in
theorem r20_29 : Go.Eng.isTrue (Go.Eng.twoRun Try.prog Go.Eng.noSums (⟨14, 16, 17, 43, 58⟩ : Go.Eng.Fns) 1000 60 10 (.row [3]) (.row [4, 1, 1])) = true := by kernel_rfl
set_option maxRecDepth 100000 in
theorem r20_30 : Go.Eng.isTrue (Go.Eng.twoRun Try.prog Go.Eng.noSums (⟨14, 16, 17, 43, 58⟩ : Go.Eng.Fns) 1000 60 10 (.row [3]) (.row [4, 2])) = true := by kernel_rfl
set_option maxRecDepth 100000 in
theorem r20_31 : Go.Eng.isTrue (Go.Eng.twoRun Try.prog Go.Eng.noSums (⟨14, 16, 17, 43, 58⟩ : Go.Eng.Fns) 1000 60 10 (.row [3]) (.row [5])) = true := by kernel_rfl
set_option maxRecDepth 100000 in
theorem r20_32 : Go.Eng.isTrue (Go.Eng.twoRun Try.prog Go.Eng.noSums (⟨14, 16, 17, 43, 58⟩ : Go.Eng.Fns) 1000 60 10 (.row [3]) (.row [5, 1])) = true := by kernel_rfl
set_option maxRecDepth 100000 in
theorem r20_33 : Go.Eng.isTrue (Go.Eng.twoRun Try.prog Go.Eng.noSums (⟨14, 16, 17, 43, 58⟩ : Go.Eng.Fns) 1000 60 10 (.row [3]) (.row [6])) = true := by kernel_rfl
theorem r20 : Go.Eng.AllL (fun c => Go.Eng.isTrue (Go.Eng.twoRun Try.prog Go.Eng.noSums (⟨14, 16, 17, 43, 58⟩ : Go.Eng.Fns) 1000 60 10 (.row [3]) c) = true) Go.Eng.classes := by
  unfold Go.Eng.classes
  rw [Go.Eng.shares_eq]
  exact ⟨r20_0, r20_1, r20_2, r20_3, r20_4, r20_5, r20_6, r20_7, r20_8, r20_9, r20_10, r20_11, r20_12, r20_13, r20_14, r20_15, r20_16, r20_17, r20_18, r20_19, r20_20, r20_21, r20_22, r20_23, r20_24, r20_25, r20_26, r20_27, r20_28, r20_29, r20_30, r20_31, r20_32, r20_33, trivial⟩
set_option maxRecDepth 100000 in
theorem r24_0 : Go.Eng.isTrue (Go.Eng.twoRun Try.prog Go.Eng.noSums (⟨14, 16, 17, 43, 58⟩ : Go.Eng.Fns) 1000 60 10 (.row [3, 2]) .nil) = true := by kernel_rfl
set_option maxRecDepth 100000 in
theorem r24_1 : Go.Eng.isTrue (Go.Eng.twoRun Try.prog Go.Eng.noSums (⟨14, 16, 17, 43, 58⟩ : Go.Eng.Fns) 1000 60 10 (.row [3, 2]) .zero) = true := by kernel_rfl
set_option maxRecDepth 100000 in
theorem r24_2 : Go.Eng.isTrue (Go.Eng.twoRun Try.prog Go.Eng.noSums (⟨14, 16, 17, 43, 58⟩ : Go.Eng.Fns) 1000 60 10 (.row [3, 2]) .no) = true := by kernel_rfl
set_option maxRecDepth 100000 in
theorem r24_3 : Go.Eng.isTrue (Go.Eng.twoRun Try.prog Go.Eng.noSums (⟨14, 16, 17, 43, 58⟩ : Go.Eng.Fns) 1000 60 10 (.row [3, 2]) .long) = true := by kernel_rfl
set_option maxRecDepth 100000 in
theorem r24_4 : Go.Eng.isTrue (Go.Eng.twoRun Try.prog Go.Eng.noSums (⟨14, 16, 17, 43, 58⟩ : Go.Eng.Fns) 1000 60 10 (.row [3, 2]) (.row [])) = true := by kernel_rfl
set_option maxRecDepth 100000 in
theorem r24_5 : Go.Eng.isTrue (Go.Eng.twoRun Try.prog Go.Eng.noSums (⟨14, 16, 17, 43, 58⟩ : Go.Eng.Fns) 1000 60 10 (.row [3, 2]) (.row [1])) = true := by kernel_rfl
set_option maxRecDepth 100000 in
theorem r24_6 : Go.Eng.isTrue (Go.Eng.twoRun Try.prog Go.Eng.noSums (⟨14, 16, 17, 43, 58⟩ : Go.Eng.Fns) 1000 60 10 (.row [3, 2]) (.row [1, 1])) = true := by kernel_rfl
set_option maxRecDepth 100000 in
theorem r24_7 : Go.Eng.isTrue (Go.Eng.twoRun Try.prog Go.Eng.noSums (⟨14, 16, 17, 43, 58⟩ : Go.Eng.Fns) 1000 60 10 (.row [3, 2]) (.row [1, 1, 1])) = true := by kernel_rfl
set_option maxRecDepth 100000 in
theorem r24_8 : Go.Eng.isTrue (Go.Eng.twoRun Try.prog Go.Eng.noSums (⟨14, 16, 17, 43, 58⟩ : Go.Eng.Fns) 1000 60 10 (.row [3, 2]) (.row [1, 1, 1, 1])) = true := by kernel_rfl
set_option maxRecDepth 100000 in
theorem r24_9 : Go.Eng.isTrue (Go.Eng.twoRun Try.prog Go.Eng.noSums (⟨14, 16, 17, 43, 58⟩ : Go.Eng.Fns) 1000 60 10 (.row [3, 2]) (.row [1, 1, 1, 1, 1])) = true := by kernel_rfl
set_option maxRecDepth 100000 in
theorem r24_10 : Go.Eng.isTrue (Go.Eng.twoRun Try.prog Go.Eng.noSums (⟨14, 16, 17, 43, 58⟩ : Go.Eng.Fns) 1000 60 10 (.row [3, 2]) (.row [1, 1, 1, 1, 1, 1])) = true := by kernel_rfl
set_option maxRecDepth 100000 in
theorem r24_11 : Go.Eng.isTrue (Go.Eng.twoRun Try.prog Go.Eng.noSums (⟨14, 16, 17, 43, 58⟩ : Go.Eng.Fns) 1000 60 10 (.row [3, 2]) (.row [2])) = true := by kernel_rfl
set_option maxRecDepth 100000 in
theorem r24_12 : Go.Eng.isTrue (Go.Eng.twoRun Try.prog Go.Eng.noSums (⟨14, 16, 17, 43, 58⟩ : Go.Eng.Fns) 1000 60 10 (.row [3, 2]) (.row [2, 1])) = true := by kernel_rfl
set_option maxRecDepth 100000 in
theorem r24_13 : Go.Eng.isTrue (Go.Eng.twoRun Try.prog Go.Eng.noSums (⟨14, 16, 17, 43, 58⟩ : Go.Eng.Fns) 1000 60 10 (.row [3, 2]) (.row [2, 1, 1])) = true := by kernel_rfl
set_option maxRecDepth 100000 in
theorem r24_14 : Go.Eng.isTrue (Go.Eng.twoRun Try.prog Go.Eng.noSums (⟨14, 16, 17, 43, 58⟩ : Go.Eng.Fns) 1000 60 10 (.row [3, 2]) (.row [2, 1, 1, 1])) = true := by kernel_rfl
set_option maxRecDepth 100000 in
theorem r24_15 : Go.Eng.isTrue (Go.Eng.twoRun Try.prog Go.Eng.noSums (⟨14, 16, 17, 43, 58⟩ : Go.Eng.Fns) 1000 60 10 (.row [3, 2]) (.row [2, 1, 1, 1, 1])) = true := by kernel_rfl
set_option maxRecDepth 100000 in
theorem r24_16 : Go.Eng.isTrue (Go.Eng.twoRun Try.prog Go.Eng.noSums (⟨14, 16, 17, 43, 58⟩ : Go.Eng.Fns) 1000 60 10 (.row [3, 2]) (.row [2, 2])) = true := by kernel_rfl
set_option maxRecDepth 100000 in
theorem r24_17 : Go.Eng.isTrue (Go.Eng.twoRun Try.prog Go.Eng.noSums (⟨14, 16, 17, 43, 58⟩ : Go.Eng.Fns) 1000 60 10 (.row [3, 2]) (.row [2, 2, 1])) = true := by kernel_rfl
set_option maxRecDepth 100000 in
theorem r24_18 : Go.Eng.isTrue (Go.Eng.twoRun Try.prog Go.Eng.noSums (⟨14, 16, 17, 43, 58⟩ : Go.Eng.Fns) 1000 60 10 (.row [3, 2]) (.row [2, 2, 1, 1])) = true := by kernel_rfl
set_option maxRecDepth 100000 in
theorem r24_19 : Go.Eng.isTrue (Go.Eng.twoRun Try.prog Go.Eng.noSums (⟨14, 16, 17, 43, 58⟩ : Go.Eng.Fns) 1000 60 10 (.row [3, 2]) (.row [2, 2, 2])) = true := by kernel_rfl
set_option maxRecDepth 100000 in
theorem r24_20 : Go.Eng.isTrue (Go.Eng.twoRun Try.prog Go.Eng.noSums (⟨14, 16, 17, 43, 58⟩ : Go.Eng.Fns) 1000 60 10 (.row [3, 2]) (.row [3])) = true := by kernel_rfl
set_option maxRecDepth 100000 in
theorem r24_21 : Go.Eng.isTrue (Go.Eng.twoRun Try.prog Go.Eng.noSums (⟨14, 16, 17, 43, 58⟩ : Go.Eng.Fns) 1000 60 10 (.row [3, 2]) (.row [3, 1])) = true := by kernel_rfl
set_option maxRecDepth 100000 in
theorem r24_22 : Go.Eng.isTrue (Go.Eng.twoRun Try.prog Go.Eng.noSums (⟨14, 16, 17, 43, 58⟩ : Go.Eng.Fns) 1000 60 10 (.row [3, 2]) (.row [3, 1, 1])) = true := by kernel_rfl
set_option maxRecDepth 100000 in
theorem r24_23 : Go.Eng.isTrue (Go.Eng.twoRun Try.prog Go.Eng.noSums (⟨14, 16, 17, 43, 58⟩ : Go.Eng.Fns) 1000 60 10 (.row [3, 2]) (.row [3, 1, 1, 1])) = true := by kernel_rfl
set_option maxRecDepth 100000 in
theorem r24_24 : Go.Eng.isTrue (Go.Eng.twoRun Try.prog Go.Eng.noSums (⟨14, 16, 17, 43, 58⟩ : Go.Eng.Fns) 1000 60 10 (.row [3, 2]) (.row [3, 2])) = true := by kernel_rfl
set_option maxRecDepth 100000 in
theorem r24_25 : Go.Eng.isTrue (Go.Eng.twoRun Try.prog Go.Eng.noSums (⟨14, 16, 17, 43, 58⟩ : Go.Eng.Fns) 1000 60 10 (.row [3, 2]) (.row [3, 2, 1])) = true := by kernel_rfl
set_option maxRecDepth 100000 in
theorem r24_26 : Go.Eng.isTrue (Go.Eng.twoRun Try.prog Go.Eng.noSums (⟨14, 16, 17, 43, 58⟩ : Go.Eng.Fns) 1000 60 10 (.row [3, 2]) (.row [3, 3])) = true := by kernel_rfl
set_option maxRecDepth 100000 in
theorem r24_27 : Go.Eng.isTrue (Go.Eng.twoRun Try.prog Go.Eng.noSums (⟨14, 16, 17, 43, 58⟩ : Go.Eng.Fns) 1000 60 10 (.row [3, 2]) (.row [4])) = true := by kernel_rfl
set_option maxRecDepth 100000 in
theorem r24_28 : Go.Eng.isTrue (Go.Eng.twoRun Try.prog Go.Eng.noSums (⟨14, 16, 17, 43, 58⟩ : Go.Eng.Fns) 1000 60 10 (.row [3, 2]) (.row [4, 1])) = true := by kernel_rfl
set_option maxRecDepth 100000 in
theorem r24_29 : Go.Eng.isTrue (Go.Eng.twoRun Try.prog Go.Eng.noSums (⟨14, 16, 17, 43, 58⟩ : Go.Eng.Fns) 1000 60 10 (.row [3, 2]) (.row [4, 1, 1])) = true := by kernel_rfl
set_option maxRecDepth 100000 in
theorem r24_30 : Go.Eng.isTrue (Go.Eng.twoRun Try.prog Go.Eng.noSums (⟨14, 16, 17, 43, 58⟩ : Go.Eng.Fns) 1000 60 10 (.row [3, 2]) (.row [4, 2])) = true := by kernel_rfl
set_option maxRecDepth 100000 in
theorem r24_31 : Go.Eng.isTrue (Go.Eng.twoRun Try.prog Go.Eng.noSums (⟨14, 16, 17, 43, 58⟩ : Go.Eng.Fns) 1000 60 10 (.row [3, 2]) (.row [5])) = true := by kernel_rfl
set_option maxRecDepth 100000 in
theorem r24_32 : Go.Eng.isTrue (Go.Eng.twoRun Try.prog Go.Eng.noSums (⟨14, 16, 17, 43, 58⟩ : Go.Eng.Fns) 1000 60 10 (.row [3, 2]) (.row [5, 1])) = true := by kernel_rfl
set_option maxRecDepth 100000 in
theorem r24_33 : Go.Eng.isTrue (Go.Eng.twoRun Try.prog Go.Eng.noSums (⟨14, 16, 17, 43, 58⟩ : Go.Eng.Fns) 1000 60 10 (.row [3, 2]) (.row [6])) = true := by kernel_rfl
theorem r24 : Go.Eng.AllL (fun c => Go.Eng.isTrue (Go.Eng.twoRun Try.prog Go.Eng.noSums (⟨14, 16, 17, 43, 58⟩ : Go.Eng.Fns) 1000 60 10 (.row [3, 2]) c) = true) Go.Eng.classes := by
  unfold Go.Eng.classes
  rw [Go.Eng.shares_eq]
  exact ⟨r24_0, r24_1, r24_2, r24_3, r24_4, r24_5, r24_6, r24_7, r24_8, r24_9, r24_10, r24_11, r24_12, r24_13, r24_14, r24_15, r24_16, r24_17, r24_18, r24_19, r24_20, r24_21, r24_22, r24_23, r24_24, r24_25, r24_26, r24_27, r24_28, r24_29, r24_30, r24_31, r24_32, r24_33, trivial⟩
set_option maxRecDepth 100000 in
theorem r28_0 : Go.Eng.isTrue (Go.Eng.twoRun Try.prog Go.Eng.noSums (⟨14, 16, 17, 43, 58⟩ : Go.Eng.Fns) 1000 60 10 (.row [4, 1]) .nil) = true := by kernel_rfl
set_option maxRecDepth 100000 in
theorem r28_1 : Go.Eng.isTrue (Go.Eng.twoRun Try.prog Go.Eng.noSums (⟨14, 16, 17, 43, 58⟩ : Go.Eng.Fns) 1000 60 10 (.row [4, 1]) .zero) = true := by kernel_rfl
set_option maxRecDepth 100000 in
theorem r28_2 : Go.Eng.isTrue (Go.Eng.twoRun Try.prog Go.Eng.noSums (⟨14, 16, 17, 43, 58⟩ : Go.Eng.Fns) 1000 60 10 (.row [4, 1]) .no) = true := by kernel_rfl
set_option maxRecDepth 100000 in
theorem r28_3 : Go.Eng.isTrue (Go.Eng.twoRun Try.prog Go.Eng.noSums (⟨14, 16, 17, 43, 58⟩ : Go.Eng.Fns) 1000 60 10 (.row [4, 1]) .long) = true := by kernel_rfl
set_option maxRecDepth 100000 in
theorem r28_4 : Go.Eng.isTrue (Go.Eng.twoRun Try.prog Go.Eng.noSums (⟨14, 16, 17, 43, 58⟩ : Go.Eng.Fns) 1000 60 10 (.row [4, 1]) (.row [])) = true := by kernel_rfl
set_option maxRecDepth 100000 in
theorem r28_5 : Go.Eng.isTrue (Go.Eng.twoRun Try.prog Go.Eng.noSums (⟨14, 16, 17, 43, 58⟩ : Go.Eng.Fns) 1000 60 10 (.row [4, 1]) (.row [1])) = true := by kernel_rfl
set_option maxRecDepth 100000 in
theorem r28_6 : Go.Eng.isTrue (Go.Eng.twoRun Try.prog Go.Eng.noSums (⟨14, 16, 17, 43, 58⟩ : Go.Eng.Fns) 1000 60 10 (.row [4, 1]) (.row [1, 1])) = true := by kernel_rfl
set_option maxRecDepth 100000 in
theorem r28_7 : Go.Eng.isTrue (Go.Eng.twoRun Try.prog Go.Eng.noSums (⟨14, 16, 17, 43, 58⟩ : Go.Eng.Fns) 1000 60 10 (.row [4, 1]) (.row [1, 1, 1])) = true := by kernel_rfl
set_option maxRecDepth 100000 in
theorem r28_8 : Go.Eng.isTrue (Go.Eng.twoRun Try.prog Go.Eng.noSums (⟨14, 16, 17, 43, 58⟩ : Go.Eng.Fns) 1000 60 10 (.row [4, 1]) (.row [1, 1, 1, 1])) = true := by kernel_rfl
set_option maxRecDepth 100000 in
theorem r28_9 : Go.Eng.isTrue (Go.Eng.twoRun Try.prog Go.Eng.noSums (⟨14, 16, 17, 43, 58⟩ : Go.Eng.Fns) 1000 60 10 (.row [4, 1]) (.row [1, 1, 1, 1, 1])) = true := by kernel_rfl
set_option maxRecDepth 100000 in
theorem r28_10 : Go.Eng.isTrue (Go.Eng.twoRun Try.prog Go.Eng.noSums (⟨14, 16, 17, 43, 58⟩ : Go.Eng.Fns) 1000 60 10 (.row [4, 1]) (.row [1, 1, 1, 1, 1, 1])) = true := by kernel_rfl
set_option maxRecDepth 100000 in
theorem r28_11 : Go.Eng.isTrue (Go.Eng.twoRun Try.prog Go.Eng.noSums (⟨14, 16, 17, 43, 58⟩ : Go.Eng.Fns) 1000 60 10 (.row [4, 1]) (.row [2])) = true := by kernel_rfl
set_option maxRecDepth 100000 in
theorem r28_12 : Go.Eng.isTrue (Go.Eng.twoRun Try.prog Go.Eng.noSums (⟨14, 16, 17, 43, 58⟩ : Go.Eng.Fns) 1000 60 10 (.row [4, 1]) (.row [2, 1])) = true := by kernel_rfl
set_option maxRecDepth 100000 in
theorem r28_13 : Go.Eng.isTrue (Go.Eng.twoRun Try.prog Go.Eng.noSums (⟨14, 16, 17, 43, 58⟩ : Go.Eng.Fns) 1000 60 10 (.row [4, 1]) (.row [2, 1, 1])) = true := by kernel_rfl
set_option maxRecDepth 100000 in
theorem r28_14 : Go.Eng.isTrue (Go.Eng.twoRun Try.prog Go.Eng.noSums (⟨14, 16, 17, 43, 58⟩ : Go.Eng.Fns) 1000 60 10 (.row [4, 1]) (.row [2, 1, 1, 1])) = true := by kernel_rfl
set_option maxRecDepth 100000 in
theorem r28_15 : Go.Eng.isTrue (Go.Eng.twoRun Try.prog Go.Eng.noSums (⟨14, 16, 17, 43, 58⟩ : Go.Eng.Fns) 1000 60 10 (.row [4, 1]) (.row [2, 1, 1, 1, 1])) = true := by kernel_rfl
set_option maxRecDepth 100000 in
theorem r28_16 : Go.Eng.isTrue (Go.Eng.twoRun Try.prog Go.Eng.noSums (⟨14, 16, 17, 43, 58⟩ : Go.Eng.Fns) 1000 60 10 (.row [4, 1]) (.row [2, 2])) = true := by kernel_rfl
set_option maxRecDepth 100000 in
theorem r28_17 : Go.Eng.isTrue (Go.Eng.twoRun Try.prog Go.Eng.noSums (⟨14, 16, 17, 43, 58⟩ : Go.Eng.Fns) 1000 60 10 (.row [4, 1]) (.row [2, 2, 1])) = true := by kernel_rfl
set_option maxRecDepth 100000 in
theorem r28_18 : Go.Eng.isTrue (Go.Eng.twoRun Try.prog Go.Eng.noSums (⟨14, 16, 17, 43, 58⟩ : Go.Eng.Fns) 1000 60 10 (.row [4, 1]) (.row [2, 2, 1, 1])) = true := by kernel_rfl
set_option maxRecDepth 100000 in
theorem r28_19 : Go.Eng.isTrue (Go.Eng.twoRun Try.prog Go.Eng.noSums (⟨14, 16, 17, 43, 58⟩ : Go.Eng.Fns) 1000 60 10 (.row [4, 1]) (.row [2, 2, 2])) = true := by kernel_rfl
set_option maxRecDepth 100000 in
theorem r28_20 : Go.Eng.isTrue (Go.Eng.twoRun Try.prog Go.Eng.noSums (⟨14, 16, 17, 43, 58⟩ : Go.Eng.Fns) 1000 60 10 (.row [4, 1]) (.row [3])) = true := by kernel_rfl
set_option maxRecDepth 100000 in
theorem r28_21 : Go.Eng.isTrue (Go.Eng.twoRun Try.prog Go.Eng.noSums (⟨14, 16, 17, 43, 58⟩ : Go.Eng.Fns) 1000 60 10 (.row [4, 1]) (.row [3, 1])) = true := by kernel_rfl
set_option maxRecDepth 100000 in
theorem r28_22 : Go.Eng.isTrue (Go.Eng.twoRun Try.prog Go.Eng.noSums (⟨14, 16, 17, 43, 58⟩ : Go.Eng.Fns) 1000 60 10 (.row [4, 1]) (.row [3, 1, 1])) = true := by kernel_rfl
set_option maxRecDepth 100000 in
theorem r28_23 : Go.Eng.isTrue (Go.Eng.twoRun Try.prog Go.Eng.noSums (⟨14, 16, 17, 43, 58⟩ : Go.Eng.Fns) 1000 60 10 (.row [4, 1]) (.row [3, 1, 1, 1])) = true := by kernel_rfl
set_option maxRecDepth 100000 in
theorem r28_24 : Go.Eng.isTrue (Go.Eng.twoRun Try.prog Go.Eng.noSums (⟨14, 16, 17, 43, 58⟩ : Go.Eng.Fns) 1000 60 10 (.row [4, 1]) (.row [3, 2])) = true := by kernel_rfl
set_option maxRecDepth 100000 in
theorem r28_25 : Go.Eng.isTrue (Go.Eng.twoRun Try.prog Go.Eng.noSums (⟨14, 16, 17, 43, 58⟩ : Go.Eng.Fns) 1000 60 10 (.row [4, 1]) (.row [3, 2, 1])) = true := by kernel_rfl
set_option maxRecDepth 100000 in
theorem r28_26 : Go.Eng.isTrue (Go.Eng.twoRun Try.prog Go.Eng.noSums (⟨14, 16, 17, 43, 58⟩ : Go.Eng.Fns) 1000 60 10 (.row [4, 1]) (.row [3, 3])) = true := by kernel_rfl
set_option maxRecDepth 100000 in
theorem r28_27 : Go.Eng.isTrue (Go.Eng.twoRun Try.prog Go.Eng.noSums (⟨14, 16, 17, 43, 58⟩ : Go.Eng.Fns) 1000 60 10 (.row [4, 1]) (.row [4])) = true := by kernel_rfl
set_option maxRecDepth 100000 in
theorem r28_28 : Go.Eng.isTrue (Go.Eng.twoRun Try.prog Go.Eng.noSums (⟨14, 16, 17, 43, 58⟩ : Go.Eng.Fns) 1000 60 10 (.row [4, 1]) (.row [4, 1])) = true := by kernel_rfl
set_option maxRecDepth 100000 in
theorem r28_29 : Go.Eng.isTrue (Go.Eng.twoRun Try.prog Go.Eng.noSums (⟨14, 16, 17, 43, 58⟩ : Go.Eng.Fns) 1000 60 10 (.row [4, 1]) (.row [4, 1, 1])) = true := by kernel_rfl
set_option maxRecDepth 100000 in
theorem r28_30 : Go.Eng.isTrue (Go.Eng.twoRun Try.prog Go.Eng.noSums (⟨14, 16, 17, 43, 58⟩ : Go.Eng.Fns) 1000 60 10 (.row [4, 1]) (.row [4, 2])) = true := by kernel_rfl
set_option maxRecDepth 100000 in
theorem r28_31 : Go.Eng.isTrue (Go.Eng.twoRun Try.prog Go.Eng.noSums (⟨14, 16, 17, 43, 58⟩ : Go.Eng.Fns) 1000 60 10 (.row [4, 1]) (.row [5])) = true := by kernel_rfl
set_option maxRecDepth 100000 in
theorem r28_32 : Go.Eng.isTrue (Go.Eng.twoRun Try.prog Go.Eng.noSums (⟨14, 16, 17, 43, 58⟩ : Go.Eng.Fns) 1000 60 10 (.row [4, 1]) (.row [5, 1])) = true := by kernel_rfl
set_option maxRecDepth 100000 in
theorem r28_33 : Go.Eng.isTrue (Go.Eng.twoRun Try.prog Go.Eng.noSums (⟨14, 16, 17, 43, 58⟩ : Go.Eng.Fns) 1000 60 10 (.row [4, 1]) (.row [6])) = true := by kernel_rfl
theorem r28 : Go.Eng.AllL (fun c => Go.Eng.isTrue (Go.Eng.twoRun Try.prog Go.Eng.noSums (⟨14, 16, 17, 43, 58⟩ : Go.Eng.Fns) 1000 60 10 (.row [4, 1]) c) = true) Go.Eng.classes := by
  unfold Go.Eng.classes
  rw [Go.Eng.shares_eq]
  exact ⟨r28_0, r28_1, r28_2, r28_3, r28_4, r28_5, r28_6, r28_7, r28_8, r28_9, r28_10, r28_11, r28_12, r28_13, r28_14, r28_15, r28_16, r28_17, r28_18, r28_19, r28_20, r28_21, r28_22, r28_23, r28_24, r28_25, r28_26, r28_27, r28_28, r28_29, r28_30, r28_31, r28_32, r28_33, trivial⟩
set_option maxRecDepth 100000 in
theorem r32_0 : Go.Eng.isTrue (Go.Eng.twoRun Try.prog Go.Eng.noSums (⟨14, 16, 17, 43, 58⟩ : Go.Eng.Fns) 1000 60 10 (.row [5, 1]) .nil) = true := by kernel_rfl
set_option maxRecDepth 100000 in
theorem r32_1 : Go.Eng.isTrue (Go.Eng.twoRun Try.prog Go.Eng.noSums (⟨14, 16, 17, 43, 58⟩ : Go.Eng.Fns) 1000 60 10 (.row [5, 1]) .zero) = true := by kernel_rfl
set_option maxRecDepth 100000 in
theorem r32_2 : Go.Eng.isTrue (Go.Eng.twoRun Try.prog Go.Eng.noSums (⟨14, 16, 17, 43, 58⟩ : Go.Eng.Fns) 1000 60 10 (.row [5, 1]) .no) = true := by kernel_rfl
set_option maxRecDepth 100000 in
theorem r32_3 : Go.Eng.isTrue (Go.Eng.twoRun Try.prog Go.Eng.noSums (⟨14, 16, 17, 43, 58⟩ : Go.Eng.Fns) 1000 60 10 (.row [5, 1]) .long) = true := by kernel_rfl
set_option maxRecDepth 100000 in
theorem r32_4 : Go.Eng.isTrue (Go.Eng.twoRun Try.prog Go.Eng.noSums (⟨14, 16, 17, 43, 58⟩ : Go.Eng.Fns) 1000 60 10 (.row [5, 1]) (.row [])) = true := by kernel_rfl
set_option maxRecDepth 100000 in
theorem r32_5 : Go.Eng.isTrue (Go.Eng.twoRun Try.prog Go.Eng.noSums (⟨14, 16, 17, 43, 58⟩ : Go.Eng.Fns) 1000 60 10 (.row [5, 1]) (.row [1])) = true := by kernel_rfl
set_option maxRecDepth 100000 in
theorem r32_6 : Go.Eng.isTrue (Go.Eng.twoRun Try.prog Go.Eng.noSums (⟨14, 16, 17, 43, 58⟩ : Go.Eng.Fns) 1000 60 10 (.row [5, 1]) (.row [1, 1])) = true := by kernel_rfl
set_option maxRecDepth 100000 in
theorem r32_7 : Go.Eng.isTrue (Go.Eng.twoRun Try.prog Go.Eng.noSums (⟨14, 16, 17, 43, 58⟩ : Go.Eng.Fns) 1000 60 10 (.row [5, 1]) (.row [1, 1, 1])) = true := by kernel_rfl
set_option maxRecDepth 100000 in
theorem r32_8 : Go.Eng.isTrue (Go.Eng.twoRun Try.prog Go.Eng.noSums (⟨14, 16, 17, 43, 58⟩ : Go.Eng.Fns) 1000 60 10 (.row [5, 1]) (.row [1, 1, 1, 1])) = true := by kernel_rfl
set_option maxRecDepth 100000 in
theorem r32_9 : Go.Eng.isTrue (Go.Eng.twoRun Try.prog Go.Eng.noSums (⟨14, 16, 17, 43, 58⟩ : Go.Eng.Fns) 1000 60 10 (.row [5, 1]) (.row [1, 1, 1, 1, 1])) = true := by kernel_rfl
set_option maxRecDepth 100000 in
theorem r32_10 : Go.Eng.isTrue (Go.Eng.twoRun Try.prog Go.Eng.noSums (⟨14, 16, 17, 43, 58⟩ : Go.Eng.Fns) 1000 60 10 (.row [5, 1]) (.row [1, 1, 1, 1, 1, 1])) = true := by kernel_rfl
set_option maxRecDepth 100000 in
theorem r32_11 : Go.Eng.isTrue (Go.Eng.twoRun Try.prog Go.Eng.noSums (⟨14, 16, 17, 43, 58⟩ : Go.Eng.Fns) 1000 60 10 (.row [5, 1]) (.row [2])) = true := by kernel_rfl
set_option maxRecDepth 100000 in
theorem r32_12 : Go.Eng.isTrue (Go.Eng.twoRun Try.prog Go.Eng.noSums (⟨14, 16, 17, 43, 58⟩ : Go.Eng.Fns) 1000 60 10 (.row [5, 1]) (.row [2, 1])) = true := by kernel_rfl
set_option maxRecDepth 100000 in
theorem r32_13 : Go.Eng.isTrue (Go.Eng.twoRun Try.prog Go.Eng.noSums (⟨14, 16, 17, 43, 58⟩ : Go.Eng.Fns) 1000 60 10 (.row [5, 1]) (.row [2, 1, 1])) = true := by kernel_rfl
set_option maxRecDepth 100000 in
theorem r32_14 : Go.Eng.isTrue (Go.Eng.twoRun Try.prog Go.Eng.noSums (⟨14, 16, 17, 43, 58⟩ : Go.Eng.Fns) 1000 60 10 (.row [5, 1]) (.row [2, 1, 1, 1])) = true := by kernel_rfl
set_option maxRecDepth 100000 in
theorem r32_15 : Go.Eng.isTrue (Go.Eng.twoRun Try.prog Go.Eng.noSums (⟨14, 16, 17, 43, 58⟩ : Go.Eng.Fns) 1000 60 10 (.row [5, 1]) (.row [2, 1, 1, 1, 1])) = true := by kernel_rfl
set_option maxRecDepth 100000 in
theorem r32_16 : Go.Eng.isTrue (Go.Eng.twoRun Try.prog Go.Eng.noSums (⟨14, 16, 17, 43, 58⟩ : Go.Eng.Fns) 1000 60 10 (.row [5, 1]) (.row [2, 2])) = true := by kernel_rfl
set_option maxRecDepth 100000 in
theorem r32_17 : Go.Eng.isTrue (Go.Eng.twoRun Try.prog Go.Eng.noSums (⟨14, 16, 17, 43, 58⟩ : Go.Eng.Fns) 1000 60 10 (.row [5, 1]) (.row [2, 2, 1])) = true := by kernel_rfl
set_option maxRecDepth 100000 in
theorem r32_18 : Go.Eng.isTrue (Go.Eng.twoRun Try.prog Go.Eng.noSums (⟨14, 16, 17, 43, 58⟩ : Go.Eng.Fns) 1000 60 10 (.row [5, 1]) (.row [2, 2, 1, 1])) = true := by kernel_rfl
set_option maxRecDepth 100000 in
theorem r32_19 : Go.Eng.isTrue (Go.Eng.twoRun Try.prog Go.Eng.noSums (⟨14, 16, 17, 43, 58⟩ : Go.Eng.Fns) 1000 60 10 (.row [5, 1]) (.row [2, 2, 2])) = true := by kernel_rfl
set_option maxRecDepth 100000 in
theorem r32_20 : Go.Eng.isTrue (Go.Eng.twoRun Try.prog Go.Eng.noSums (⟨14, 16, 17, 43, 58⟩ : Go.Eng.Fns) 1000 60 10 (.row [5, 1]) (.row [3])) = true := by kernel_rfl
set_option maxRecDepth 100000 in
theorem r32_21 : Go.Eng.isTrue (Go.Eng.twoRun Try.prog Go.Eng.noSums (⟨14, 16, 17, 43, 58⟩ : Go.Eng.Fns) 1000 60 10 (.row [5, 1]) (.row [3, 1])) = true := by kernel_rfl
set_option maxRecDepth 100000 in
theorem r32_22 : Go.Eng.isTrue (Go.Eng.twoRun Try.prog Go.Eng.noSums (⟨14, 16, 17, 43, 58⟩ : Go.Eng.Fns) 1000 60 10 (.row [5, 1]) (.row [3, 1, 1])) = true := by kernel_rfl
set_option maxRecDepth 100000 in
theorem r32_23 : Go.Eng.isTrue (Go.Eng.twoRun Try.prog Go.Eng.noSums (⟨14, 16, 17, 43, 58⟩ : Go.Eng.Fns) 1000 60 10 (.row [5, 1]) (.row [3, 1, 1, 1])) = true := by kernel_rfl
set_option maxRecDepth 100000 in
theorem r32_24 : Go.Eng.isTrue (Go.Eng.twoRun Try.prog Go.Eng.noSums (⟨14, 16, 17, 43, 58⟩ : Go.Eng.Fns) 1000 60 10 (.row [5, 1]) (.row [3, 2])) = true := by kernel_rfl
set_option maxRecDepth 100000 in
theorem r32_25 : Go.Eng.isTrue (Go.Eng.twoRun Try.prog Go.Eng.noSums (⟨14, 16, 17, 43, 58⟩ : Go.Eng.Fns) 1000 60 10 (.row [5, 1]) (.row [3, 2, 1])) = true := by kernel_rfl
set_option maxRecDepth 100000 in
theorem r32_26 : Go.Eng.isTrue (Go.Eng.twoRun Try.prog Go.Eng.noSums (⟨14, 16, 17, 43, 58⟩ : Go.Eng.Fns) 1000 60 10 (.row [5, 1]) (.row [3, 3])) = true := by kernel_rfl
set_option maxRecDepth 100000 in
theorem r32_27 : Go.Eng.isTrue (Go.Eng.twoRun Try.prog Go.Eng.noSums (⟨14, 16, 17, 43, 58⟩ : Go.Eng.Fns) 1000 60 10 (.row [5, 1]) (.row [4])) = true := by kernel_rfl
set_option maxRecDepth 100000 in
theorem r32_28 : Go.Eng.isTrue (Go.Eng.twoRun Try.prog Go.Eng.noSums (⟨14, 16, 17, 43, 58⟩ : Go.Eng.Fns) 1000 60 10 (.row [5, 1]) (.row [4, 1])) = true := by kernel_rfl
set_option maxRecDepth 100000 in
theorem r32_29 : Go.Eng.isTrue (Go.Eng.twoRun Try.prog Go.Eng.noSums (⟨14, 16, 17, 43, 58⟩ : Go.Eng.Fns) 1000 60 10 (.row [5, 1]) (.row [4, 1, 1])) = true := by kernel_rfl
set_option maxRecDepth 100000 in
theorem r32_30 : Go.Eng.isTrue (Go.Eng.twoRun Try.prog Go.Eng.noSums (⟨14, 16, 17, 43, 58⟩ : Go.Eng.Fns) 1000 60 10 (.row [5, 1]) (.row [4, 2])) = true := by kernel_rfl
set_option maxRecDepth 100000 in
theorem r32_31 : Go.Eng.isTrue (Go.Eng.twoRun Try.prog Go.Eng.noSums (⟨14, 16, 17, 43, 58⟩ : Go.Eng.Fns) 1000 60 10 (.row [5, 1]) (.row [5])) = true := by kernel_rfl
set_option maxRecDepth 100000 in
theorem r32_32 : Go.Eng.isTrue (Go.Eng.twoRun Try.prog Go.Eng.noSums (⟨14, 16, 17, 43, 58⟩ : Go.Eng.Fns) 1000 60 10 (.row [5, 1]) (.row [5, 1])) = true := by kernel_rfl
set_option maxRecDepth 100000 in
theorem r32_33 : Go.Eng.isTrue (Go.Eng.twoRun Try.prog Go.Eng.noSums (⟨14, 16, 17, 43, 58⟩ : Go.Eng.Fns) 1000 60 10 (.row [5, 1]) (.row [6])) = true := by kernel_rfl
theorem r32 : Go.Eng.AllL (fun c => Go.Eng.isTrue (Go.Eng.twoRun Try.prog Go.Eng.noSums (⟨14, 16, 17, 43, 58⟩ : Go.Eng.Fns) 1000 60 10 (.row [5, 1]) c) = true) Go.Eng.classes := by
  unfold Go.Eng.classes
  rw [Go.Eng.shares_eq]
  exact ⟨r32_0, r32_1, r32_2, r32_3, r32_4, r32_5, r32_6, r32_7, r32_8, r32_9, r32_10, r32_11, r32_12, r32_13, r32_14, r32_15, r32_16, r32_17, r32_18, r32_19, r32_20, r32_21, r32_22, r32_23, r32_24, r32_25, r32_26, r32_27, r32_28, r32_29, r32_30, r32_31, r32_32, r32_33, trivial⟩
end Go.Proofs.Ytcjemdcffmfloaa.fnExactProductWaysRuns
