/- The runs of FnExactRestSum, part 1. -/
import Derived.Test.YtcjemdcffmfloaaEngZb
import Derived.Test.YtcjemdcffmfloaaProg
namespace Go.Proofs.Ytcjemdcffmfloaa.fnExactRestSumRuns
set_option linter.unusedVariables false
set_option linter.unusedSectionVars false
set_option linter.unusedSimpArgs false
set_option maxRecDepth 100000 in
theorem r1_0 : Go.Eng.isTrue (Go.Eng.twoRun Try.prog Go.Eng.noSums (⟨14, 16, 17, 43, 58⟩ : Go.Eng.Fns) 1000 60 9 .zero .nil) = true := by kernel_rfl
set_option maxRecDepth 100000 in
theorem r1_1 : Go.Eng.isTrue (Go.Eng.twoRun Try.prog Go.Eng.noSums (⟨14, 16, 17, 43, 58⟩ : Go.Eng.Fns) 1000 60 9 .zero .zero) = true := by kernel_rfl
set_option maxRecDepth 100000 in
theorem r1_2 : Go.Eng.isTrue (Go.Eng.twoRun Try.prog Go.Eng.noSums (⟨14, 16, 17, 43, 58⟩ : Go.Eng.Fns) 1000 60 9 .zero .no) = true := by kernel_rfl
set_option maxRecDepth 100000 in
theorem r1_3 : Go.Eng.isTrue (Go.Eng.twoRun Try.prog Go.Eng.noSums (⟨14, 16, 17, 43, 58⟩ : Go.Eng.Fns) 1000 60 9 .zero .long) = true := by kernel_rfl
set_option maxRecDepth 100000 in
theorem r1_4 : Go.Eng.isTrue (Go.Eng.twoRun Try.prog Go.Eng.noSums (⟨14, 16, 17, 43, 58⟩ : Go.Eng.Fns) 1000 60 9 .zero (.row [])) = true := by kernel_rfl
set_option maxRecDepth 100000 in
theorem r1_5 : Go.Eng.isTrue (Go.Eng.twoRun Try.prog Go.Eng.noSums (⟨14, 16, 17, 43, 58⟩ : Go.Eng.Fns) 1000 60 9 .zero (.row [1])) = true := by kernel_rfl
set_option maxRecDepth 100000 in
theorem r1_6 : Go.Eng.isTrue (Go.Eng.twoRun Try.prog Go.Eng.noSums (⟨14, 16, 17, 43, 58⟩ : Go.Eng.Fns) 1000 60 9 .zero (.row [1, 1])) = true := by kernel_rfl
set_option maxRecDepth 100000 in
theorem r1_7 : Go.Eng.isTrue (Go.Eng.twoRun Try.prog Go.Eng.noSums (⟨14, 16, 17, 43, 58⟩ : Go.Eng.Fns) 1000 60 9 .zero (.row [1, 1, 1])) = true := by kernel_rfl
set_option maxRecDepth 100000 in
theorem r1_8 : Go.Eng.isTrue (Go.Eng.twoRun Try.prog Go.Eng.noSums (⟨14, 16, 17, 43, 58⟩ : Go.Eng.Fns) 1000 60 9 .zero (.row [1, 1, 1, 1])) = true := by kernel_rfl
set_option maxRecDepth 100000 in
theorem r1_9 : Go.Eng.isTrue (Go.Eng.twoRun Try.prog Go.Eng.noSums (⟨14, 16, 17, 43, 58⟩ : Go.Eng.Fns) 1000 60 9 .zero (.row [1, 1, 1, 1, 1])) = true := by kernel_rfl
set_option maxRecDepth 100000 in
theorem r1_10 : Go.Eng.isTrue (Go.Eng.twoRun Try.prog Go.Eng.noSums (⟨14, 16, 17, 43, 58⟩ : Go.Eng.Fns) 1000 60 9 .zero (.row [1, 1, 1, 1, 1, 1])) = true := by kernel_rfl
set_option maxRecDepth 100000 in
theorem r1_11 : Go.Eng.isTrue (Go.Eng.twoRun Try.prog Go.Eng.noSums (⟨14, 16, 17, 43, 58⟩ : Go.Eng.Fns) 1000 60 9 .zero (.row [2])) = true := by kernel_rfl
set_option maxRecDepth 100000 in
theorem r1_12 : Go.Eng.isTrue (Go.Eng.twoRun Try.prog Go.Eng.noSums (⟨14, 16, 17, 43, 58⟩ : Go.Eng.Fns) 1000 60 9 .zero (.row [2, 1])) = true := by kernel_rfl
set_option maxRecDepth 100000 in
theorem r1_13 : Go.Eng.isTrue (Go.Eng.twoRun Try.prog Go.Eng.noSums (⟨14, 16, 17, 43, 58⟩ : Go.Eng.Fns) 1000 60 9 .zero (.row [2, 1, 1])) = true := by kernel_rfl
set_option maxRecDepth 100000 in
theorem r1_14 : Go.Eng.isTrue (Go.Eng.twoRun Try.prog Go.Eng.noSums (⟨14, 16, 17, 43, 58⟩ : Go.Eng.Fns) 1000 60 9 .zero (.row [2, 1, 1, 1])) = true := by kernel_rfl
set_option maxRecDepth 100000 in
theorem r1_15 : Go.Eng.isTrue (Go.Eng.twoRun Try.prog Go.Eng.noSums (⟨14, 16, 17, 43, 58⟩ : Go.Eng.Fns) 1000 60 9 .zero (.row [2, 1, 1, 1, 1])) = true := by kernel_rfl
set_option maxRecDepth 100000 in
theorem r1_16 : Go.Eng.isTrue (Go.Eng.twoRun Try.prog Go.Eng.noSums (⟨14, 16, 17, 43, 58⟩ : Go.Eng.Fns) 1000 60 9 .zero (.row [2, 2])) = true := by kernel_rfl
set_option maxRecDepth 100000 in
theorem r1_17 : Go.Eng.isTrue (Go.Eng.twoRun Try.prog Go.Eng.noSums (⟨14, 16, 17, 43, 58⟩ : Go.Eng.Fns) 1000 60 9 .zero (.row [2, 2, 1])) = true := by kernel_rfl
set_option maxRecDepth 100000 in
theorem r1_18 : Go.Eng.isTrue (Go.Eng.twoRun Try.prog Go.Eng.noSums (⟨14, 16, 17, 43, 58⟩ : Go.Eng.Fns) 1000 60 9 .zero (.row [2, 2, 1, 1])) = true := by kernel_rfl
set_option maxRecDepth 100000 in
theorem r1_19 : Go.Eng.isTrue (Go.Eng.twoRun Try.prog Go.Eng.noSums (⟨14, 16, 17, 43, 58⟩ : Go.Eng.Fns) 1000 60 9 .zero (.row [2, 2, 2])) = true := by kernel_rfl
set_option maxRecDepth 100000 in
theorem r1_20 : Go.Eng.isTrue (Go.Eng.twoRun Try.prog Go.Eng.noSums (⟨14, 16, 17, 43, 58⟩ : Go.Eng.Fns) 1000 60 9 .zero (.row [3])) = true := by kernel_rfl
set_option maxRecDepth 100000 in
theorem r1_21 : Go.Eng.isTrue (Go.Eng.twoRun Try.prog Go.Eng.noSums (⟨14, 16, 17, 43, 58⟩ : Go.Eng.Fns) 1000 60 9 .zero (.row [3, 1])) = true := by kernel_rfl
set_option maxRecDepth 100000 in
theorem r1_22 : Go.Eng.isTrue (Go.Eng.twoRun Try.prog Go.Eng.noSums (⟨14, 16, 17, 43, 58⟩ : Go.Eng.Fns) 1000 60 9 .zero (.row [3, 1, 1])) = true := by kernel_rfl
set_option maxRecDepth 100000 in
theorem r1_23 : Go.Eng.isTrue (Go.Eng.twoRun Try.prog Go.Eng.noSums (⟨14, 16, 17, 43, 58⟩ : Go.Eng.Fns) 1000 60 9 .zero (.row [3, 1, 1, 1])) = true := by kernel_rfl
set_option maxRecDepth 100000 in
theorem r1_24 : Go.Eng.isTrue (Go.Eng.twoRun Try.prog Go.Eng.noSums (⟨14, 16, 17, 43, 58⟩ : Go.Eng.Fns) 1000 60 9 .zero (.row [3, 2])) = true := by kernel_rfl
set_option maxRecDepth 100000 in
theorem r1_25 : Go.Eng.isTrue (Go.Eng.twoRun Try.prog Go.Eng.noSums (⟨14, 16, 17, 43, 58⟩ : Go.Eng.Fns) 1000 60 9 .zero (.row [3, 2, 1])) = true := by kernel_rfl
set_option maxRecDepth 100000 in
theorem r1_26 : Go.Eng.isTrue (Go.Eng.twoRun Try.prog Go.Eng.noSums (⟨14, 16, 17, 43, 58⟩ : Go.Eng.Fns) 1000 60 9 .zero (.row [3, 3])) = true := by kernel_rfl
set_option maxRecDepth 100000 in
theorem r1_27 : Go.Eng.isTrue (Go.Eng.twoRun Try.prog Go.Eng.noSums (⟨14, 16, 17, 43, 58⟩ : Go.Eng.Fns) 1000 60 9 .zero (.row [4])) = true := by kernel_rfl
set_option maxRecDepth 100000 in
theorem r1_28 : Go.Eng.isTrue (Go.Eng.twoRun Try.prog Go.Eng.noSums (⟨14, 16, 17, 43, 58⟩ : Go.Eng.Fns) 1000 60 9 .zero (.row [4, 1])) = true := by kernel_rfl
set_option maxRecDepth 100000 in
theorem r1_29 : Go.Eng.isTrue (Go.Eng.twoRun Try.prog Go.Eng.noSums (⟨14, 16, 17, 43, 58⟩ : Go.Eng.Fns) 1000 60 9 .zero (.row [4, 1, 1])) = true := by kernel_rfl
set_option maxRecDepth 100000 in
theorem r1_30 : Go.Eng.isTrue (Go.Eng.twoRun Try.prog Go.Eng.noSums (⟨14, 16, 17, 43, 58⟩ : Go.Eng.Fns) 1000 60 9 .zero (.row [4, 2])) = true := by kernel_rfl
set_option maxRecDepth 100000 in
theorem r1_31 : Go.Eng.isTrue (Go.Eng.twoRun Try.prog Go.Eng.noSums (⟨14, 16, 17, 43, 58⟩ : Go.Eng.Fns) 1000 60 9 .zero (.row [5])) = true := by kernel_rfl
set_option maxRecDepth 100000 in
theorem r1_32 : Go.Eng.isTrue (Go.Eng.twoRun Try.prog Go.Eng.noSums (⟨14, 16, 17, 43, 58⟩ : Go.Eng.Fns) 1000 60 9 .zero (.row [5, 1])) = true := by kernel_rfl
set_option maxRecDepth 100000 in
theorem r1_33 : Go.Eng.isTrue (Go.Eng.twoRun Try.prog Go.Eng.noSums (⟨14, 16, 17, 43, 58⟩ : Go.Eng.Fns) 1000 60 9 .zero (.row [6])) = true := by kernel_rfl
theorem r1 : Go.Eng.AllL (fun c => Go.Eng.isTrue (Go.Eng.twoRun Try.prog Go.Eng.noSums (⟨14, 16, 17, 43, 58⟩ : Go.Eng.Fns) 1000 60 9 .zero c) = true) Go.Eng.classes := by
  unfold Go.Eng.classes
  rw [Go.Eng.shares_eq]
  exact ⟨r1_0, r1_1, r1_2, r1_3, r1_4, r1_5, r1_6, r1_7, r1_8, r1_9, r1_10, r1_11, r1_12, r1_13, r1_14, r1_15, r1_16, r1_17, r1_18, r1_19, r1_20, r1_21, r1_22, r1_23, r1_24, r1_25, r1_26, r1_27, r1_28, r1_29, r1_30, r1_31, r1_32, r1_33, trivial⟩
set_option maxRecDepth 100000 in
theorem r5_0 : Go.Eng.isTrue (Go.Eng.twoRun Try.prog Go.Eng.noSums (⟨14, 16, 17, 43, 58⟩ : Go.Eng.Fns) 1000 60 9 (.row [1]) .nil) = true := by kernel_rfl
set_option maxRecDepth 100000 in
theorem r5_1 : Go.Eng.isTrue (Go.Eng.twoRun Try.prog Go.Eng.noSums (⟨14, 16, 17, 43, 58⟩ : Go.Eng.Fns) 1000 60 9 (.row [1]) .zero) = true := by kernel_rfl
set_option maxRecDepth 100000 in
theorem r5_2 : Go.Eng.isTrue (Go.Eng.twoRun Try.prog Go.Eng.noSums (⟨14, 16, 17, 43, 58⟩ : Go.Eng.Fns) 1000 60 9 (.row [1]) .no) = true := by kernel_rfl
set_option maxRecDepth 100000 in
theorem r5_3 : Go.Eng.isTrue (Go.Eng.twoRun Try.prog Go.Eng.noSums (⟨14, 16, 17, 43, 58⟩ : Go.Eng.Fns) 1000 60 9 (.row [1]) .long) = true := by kernel_rfl
set_option maxRecDepth 100000 in
theorem r5_4 : Go.Eng.isTrue (Go.Eng.twoRun Try.prog Go.Eng.noSums (⟨14, 16, 17, 43, 58⟩ : Go.Eng.Fns) 1000 60 9 (.row [1]) (.row [])) = true := by kernel_rfl
set_option maxRecDepth 100000 in
theorem r5_5 : Go.Eng.isTrue (Go.Eng.twoRun Try.prog Go.Eng.noSums (⟨14, 16, 17, 43, 58⟩ : Go.Eng.Fns) 1000 60 9 (.row [1]) (.row [1])) = true := by kernel_rfl
set_option maxRecDepth 100000 in
theorem r5_6 : Go.Eng.isTrue (Go.Eng.twoRun Try.prog Go.Eng.noSums (⟨14, 16, 17, 43, 58⟩ : Go.Eng.Fns) 1000 60 9 (.row [1]) (.row [1, 1])) = true := by kernel_rfl
set_option maxRecDepth 100000 in
theorem r5_7 : Go.Eng.isTrue (Go.Eng.twoRun Try.prog Go.Eng.noSums (⟨14, 16, 17, 43, 58⟩ : Go.Eng.Fns) 1000 60 9 (.row [1]) (.row [1, 1, 1])) = true := by kernel_rfl
set_option maxRecDepth 100000 in
theorem r5_8 : Go.Eng.isTrue (Go.Eng.twoRun Try.prog Go.Eng.noSums (⟨14, 16, 17, 43, 58⟩ : Go.Eng.Fns) 1000 60 9 (.row [1]) (.row [1, 1, 1, 1])) = true := by kernel_rfl
set_option maxRecDepth 100000 in
theorem r5_9 : Go.Eng.isTrue (Go.Eng.twoRun Try.prog Go.Eng.noSums (⟨14, 16, 17, 43, 58⟩ : Go.Eng.Fns) 1000 60 9 (.row [1]) (.row [1, 1, 1, 1, 1])) = true := by kernel_rfl
set_option maxRecDepth 100000 in
theorem r5_10 : Go.Eng.isTrue (Go.Eng.twoRun Try.prog Go.Eng.noSums (⟨14, 16, 17, 43, 58⟩ : Go.Eng.Fns) 1000 60 9 (.row [1]) (.row [1, 1, 1, 1, 1, 1])) = true := by kernel_rfl
set_option maxRecDepth 100000 in
theorem r5_11 : Go.Eng.isTrue (Go.Eng.twoRun Try.prog Go.Eng.noSums (⟨14, 16, 17, 43, 58⟩ : Go.Eng.Fns) 1000 60 9 (.row [1]) (.row [2])) = true := by kernel_rfl
set_option maxRecDepth 100000 in
theorem r5_12 : Go.Eng.isTrue (Go.Eng.twoRun Try.prog Go.Eng.noSums (⟨14, 16, 17, 43, 58⟩ : Go.Eng.Fns) 1000 60 9 (.row [1]) (.row [2, 1])) = true := by kernel_rfl
set_option maxRecDepth 100000 in
theorem r5_13 : Go.Eng.isTrue (Go.Eng.twoRun Try.prog Go.Eng.noSums (⟨14, 16, 17, 43, 58⟩ : Go.Eng.Fns) 1000 60 9 (.row [1]) (.row [2, 1, 1])) = true := by kernel_rfl
set_option maxRecDepth 100000 in
theorem r5_14 : Go.Eng.isTrue (Go.Eng.twoRun Try.prog Go.Eng.noSums (⟨14, 16, 17, 43, 58⟩ : Go.Eng.Fns) 1000 60 9 (.row [1]) (.row [2, 1, 1, 1])) = true := by kernel_rfl
set_option maxRecDepth 100000 in
theorem r5_15 : Go.Eng.isTrue (Go.Eng.twoRun Try.prog Go.Eng.noSums (⟨14, 16, 17, 43, 58⟩ : Go.Eng.Fns) 1000 60 9 (.row [1]) (.row [2, 1, 1, 1, 1])) = true := by kernel_rfl
set_option maxRecDepth 100000 in
theorem r5_16 : Go.Eng.isTrue (Go.Eng.twoRun Try.prog Go.Eng.noSums (⟨14, 16, 17, 43, 58⟩ : Go.Eng.Fns) 1000 60 9 (.row [1]) (.row [2, 2])) = true := by kernel_rfl
set_option maxRecDepth 100000 in
theorem r5_17 : Go.Eng.isTrue (Go.Eng.twoRun Try.prog Go.Eng.noSums (⟨14, 16, 17, 43, 58⟩ : Go.Eng.Fns) 1000 60 9 (.row [1]) (.row [2, 2, 1])) = true := by kernel_rfl
set_option maxRecDepth 100000 in
theorem r5_18 : Go.Eng.isTrue (Go.Eng.twoRun Try.prog Go.Eng.noSums (⟨14, 16, 17, 43, 58⟩ : Go.Eng.Fns) 1000 60 9 (.row [1]) (.row [2, 2, 1, 1])) = true := by kernel_rfl
set_option maxRecDepth 100000 in
theorem r5_19 : Go.Eng.isTrue (Go.Eng.twoRun Try.prog Go.Eng.noSums (⟨14, 16, 17, 43, 58⟩ : Go.Eng.Fns) 1000 60 9 (.row [1]) (.row [2, 2, 2])) = true := by kernel_rfl
set_option maxRecDepth 100000 in
theorem r5_20 : Go.Eng.isTrue (Go.Eng.twoRun Try.prog Go.Eng.noSums (⟨14, 16, 17, 43, 58⟩ : Go.Eng.Fns) 1000 60 9 (.row [1]) (.row [3])) = true := by kernel_rfl
set_option maxRecDepth 100000 in
theorem r5_21 : Go.Eng.isTrue (Go.Eng.twoRun Try.prog Go.Eng.noSums (⟨14, 16, 17, 43, 58⟩ : Go.Eng.Fns) 1000 60 9 (.row [1]) (.row [3, 1])) = true := by kernel_rfl
set_option maxRecDepth 100000 in
theorem r5_22 : Go.Eng.isTrue (Go.Eng.twoRun Try.prog Go.Eng.noSums (⟨14, 16, 17, 43, 58⟩ : Go.Eng.Fns) 1000 60 9 (.row [1]) (.row [3, 1, 1])) = true := by kernel_rfl
set_option maxRecDepth 100000 in
theorem r5_23 : Go.Eng.isTrue (Go.Eng.twoRun Try.prog Go.Eng.noSums (⟨14, 16, 17, 43, 58⟩ : Go.Eng.Fns) 1000 60 9 (.row [1]) (.row [3, 1, 1, 1])) = true := by kernel_rfl
set_option maxRecDepth 100000 in
theorem r5_24 : Go.Eng.isTrue (Go.Eng.twoRun Try.prog Go.Eng.noSums (⟨14, 16, 17, 43, 58⟩ : Go.Eng.Fns) 1000 60 9 (.row [1]) (.row [3, 2])) = true := by kernel_rfl
set_option maxRecDepth 100000 in
theorem r5_25 : Go.Eng.isTrue (Go.Eng.twoRun Try.prog Go.Eng.noSums (⟨14, 16, 17, 43, 58⟩ : Go.Eng.Fns) 1000 60 9 (.row [1]) (.row [3, 2, 1])) = true := by kernel_rfl
set_option maxRecDepth 100000 in
theorem r5_26 : Go.Eng.isTrue (Go.Eng.twoRun Try.prog Go.Eng.noSums (⟨14, 16, 17, 43, 58⟩ : Go.Eng.Fns) 1000 60 9 (.row [1]) (.row [3, 3])) = true := by kernel_rfl
set_option maxRecDepth 100000 in
theorem r5_27 : Go.Eng.isTrue (Go.Eng.twoRun Try.prog Go.Eng.noSums (⟨14, 16, 17, 43, 58⟩ : Go.Eng.Fns) 1000 60 9 (.row [1]) (.row [4])) = true := by kernel_rfl
set_option maxRecDepth 100000 in
theorem r5_28 : Go.Eng.isTrue (Go.Eng.twoRun Try.prog Go.Eng.noSums (⟨14, 16, 17, 43, 58⟩ : Go.Eng.Fns) 1000 60 9 (.row [1]) (.row [4, 1])) = true := by kernel_rfl
set_option maxRecDepth 100000 in
theorem r5_29 : Go.Eng.isTrue (Go.Eng.twoRun Try.prog Go.Eng.noSums (⟨14, 16, 17, 43, 58⟩ : Go.Eng.Fns) 1000 60 9 (.row [1]) (.row [4, 1, 1])) = true := by kernel_rfl
set_option maxRecDepth 100000 in
theorem r5_30 : Go.Eng.isTrue (Go.Eng.twoRun Try.prog Go.Eng.noSums (⟨14, 16, 17, 43, 58⟩ : Go.Eng.Fns) 1000 60 9 (.row [1]) (.row [4, 2])) = true := by kernel_rfl
set_option maxRecDepth 100000 in
theorem r5_31 : Go.Eng.isTrue (Go.Eng.twoRun Try.prog Go.Eng.noSums (⟨14, 16, 17, 43, 58⟩ : Go.Eng.Fns) 1000 60 9 (.row [1]) (.row [5])) = true := by kernel_rfl
set_option maxRecDepth 100000 in
theorem r5_32 : Go.Eng.isTrue (Go.Eng.twoRun Try.prog Go.Eng.noSums (⟨14, 16, 17, 43, 58⟩ : Go.Eng.Fns) 1000 60 9 (.row [1]) (.row [5, 1])) = true := by kernel_rfl
set_option maxRecDepth 100000 in
theorem r5_33 : Go.Eng.isTrue (Go.Eng.twoRun Try.prog Go.Eng.noSums (⟨14, 16, 17, 43, 58⟩ : Go.Eng.Fns) 1000 60 9 (.row [1]) (.row [6])) = true := by kernel_rfl
theorem r5 : Go.Eng.AllL (fun c => Go.Eng.isTrue (Go.Eng.twoRun Try.prog Go.Eng.noSums (⟨14, 16, 17, 43, 58⟩ : Go.Eng.Fns) 1000 60 9 (.row [1]) c) = true) Go.Eng.classes := by
  unfold Go.Eng.classes
  rw [Go.Eng.shares_eq]
  exact ⟨r5_0, r5_1, r5_2, r5_3, r5_4, r5_5, r5_6, r5_7, r5_8, r5_9, r5_10, r5_11, r5_12, r5_13, r5_14, r5_15, r5_16, r5_17, r5_18, r5_19, r5_20, r5_21, r5_22, r5_23, r5_24, r5_25, r5_26, r5_27, r5_28, r5_29, r5_30, r5_31, r5_32, r5_33, trivial⟩
set_option maxRecDepth 100000 in
theorem r9_0 : Go.Eng.isTrue (Go.Eng.twoRun Try.prog Go.Eng.noSums (⟨14, 16, 17, 43, 58⟩ : Go.Eng.Fns) 1000 60 9 (.row [1, 1, 1, 1, 1]) .nil) = true := by kernel_rfl
set_option maxRecDepth 100000 in
theorem r9_1 : Go.Eng.isTrue (Go.Eng.twoRun Try.prog Go.Eng.noSums (⟨14, 16, 17, 43, 58⟩ : Go.Eng.Fns) 1000 60 9 (.row [1, 1, 1, 1, 1]) .zero) = true := by kernel_rfl
set_option maxRecDepth 100000 in
theorem r9_2 : Go.Eng.isTrue (Go.Eng.twoRun Try.prog Go.Eng.noSums (⟨14, 16, 17, 43, 58⟩ : Go.Eng.Fns) 1000 60 9 (.row [1, 1, 1, 1, 1]) .no) = true := by kernel_rfl
set_option maxRecDepth 100000 in
theorem r9_3 : Go.Eng.isTrue (Go.Eng.twoRun Try.prog Go.Eng.noSums (⟨14, 16, 17, 43, 58⟩ : Go.Eng.Fns) 1000 60 9 (.row [1, 1, 1, 1, 1]) .long) = true := by kernel_rfl
set_option maxRecDepth 100000 in
theorem r9_4 : Go.Eng.isTrue (Go.Eng.twoRun Try.prog Go.Eng.noSums (⟨14, 16, 17, 43, 58⟩ : Go.Eng.Fns) 1000 60 9 (.row [1, 1, 1, 1, 1]) (.row [])) = true := by kernel_rfl
set_option maxRecDepth 100000 in
theorem r9_5 : Go.Eng.isTrue (Go.Eng.twoRun Try.prog Go.Eng.noSums (⟨14, 16, 17, 43, 58⟩ : Go.Eng.Fns) 1000 60 9 (.row [1, 1, 1, 1, 1]) (.row [1])) = true := by kernel_rfl
set_option maxRecDepth 100000 in
theorem r9_6 : Go.Eng.isTrue (Go.Eng.twoRun Try.prog Go.Eng.noSums (⟨14, 16, 17, 43, 58⟩ : Go.Eng.Fns) 1000 60 9 (.row [1, 1, 1, 1, 1]) (.row [1, 1])) = true := by kernel_rfl
set_option maxRecDepth 100000 in
theorem r9_7 : Go.Eng.isTrue (Go.Eng.twoRun Try.prog Go.Eng.noSums (⟨14, 16, 17, 43, 58⟩ : Go.Eng.Fns) 1000 60 9 (.row [1, 1, 1, 1, 1]) (.row [1, 1, 1])) = true := by kernel_rfl
set_option maxRecDepth 100000 in
theorem r9_8 : Go.Eng.isTrue (Go.Eng.twoRun Try.prog Go.Eng.noSums (⟨14, 16, 17, 43, 58⟩ : Go.Eng.Fns) 1000 60 9 (.row [1, 1, 1, 1, 1]) (.row [1, 1, 1, 1])) = true := by kernel_rfl
set_option maxRecDepth 100000 in
theorem r9_9 : Go.Eng.isTrue (Go.Eng.twoRun Try.prog Go.Eng.noSums (⟨14, 16, 17, 43, 58⟩ : Go.Eng.Fns) 1000 60 9 (.row [1, 1, 1, 1, 1]) (.row [1, 1, 1, 1, 1])) = true := by kernel_rfl
set_option maxRecDepth 100000 in
theorem r9_10 : Go.Eng.isTrue (Go.Eng.twoRun Try.prog Go.Eng.noSums (⟨14, 16, 17, 43, 58⟩ : Go.Eng.Fns) 1000 60 9 (.row [1, 1, 1, 1, 1]) (.row [1, 1, 1, 1, 1, 1])) = true := by kernel_rfl
set_option maxRecDepth 100000 in
theorem r9_11 : Go.Eng.isTrue (Go.Eng.twoRun Try.prog Go.Eng.noSums (⟨14, 16, 17, 43, 58⟩ : Go.Eng.Fns) 1000 60 9 (.row [1, 1, 1, 1, 1]) (.row [2])) = true := by kernel_rfl
set_option maxRecDepth 100000 in
theorem r9_12 : Go.Eng.isTrue (Go.Eng.twoRun Try.prog Go.Eng.noSums (⟨14, 16, 17, 43, 58⟩ : Go.Eng.Fns) 1000 60 9 (.row [1, 1, 1, 1, 1]) (.row [2, 1])) = true := by kernel_rfl
set_option maxRecDepth 100000 in
theorem r9_13 : Go.Eng.isTrue (Go.Eng.twoRun Try.prog Go.Eng.noSums (⟨14, 16, 17, 43, 58⟩ : Go.Eng.Fns) 1000 60 9 (.row [1, 1, 1, 1, 1]) (.row [2, 1, 1])) = true := by kernel_rfl
set_option maxRecDepth 100000 in
theorem r9_14 : Go.Eng.isTrue (Go.Eng.twoRun Try.prog Go.Eng.noSums (⟨14, 16, 17, 43, 58⟩ : Go.Eng.Fns) 1000 60 9 (.row [1, 1, 1, 1, 1]) (.row [2, 1, 1, 1])) = true := by kernel_rfl
set_option maxRecDepth 100000 in
theorem r9_15 : Go.Eng.isTrue (Go.Eng.twoRun Try.prog Go.Eng.noSums (⟨14, 16, 17, 43, 58⟩ : Go.Eng.Fns) 1000 60 9 (.row [1, 1, 1, 1, 1]) (.row [2, 1, 1, 1, 1])) = true := by kernel_rfl
set_option maxRecDepth 100000 in
theorem r9_16 : Go.Eng.isTrue (Go.Eng.twoRun Try.prog Go.Eng.noSums (⟨14, 16, 17, 43, 58⟩ : Go.Eng.Fns) 1000 60 9 (.row [1, 1, 1, 1, 1]) (.row [2, 2])) = true := by kernel_rfl
set_option maxRecDepth 100000 in
theorem r9_17 : Go.Eng.isTrue (Go.Eng.twoRun Try.prog Go.Eng.noSums (⟨14, 16, 17, 43, 58⟩ : Go.Eng.Fns) 1000 60 9 (.row [1, 1, 1, 1, 1]) (.row [2, 2, 1])) = true := by kernel_rfl
set_option maxRecDepth 100000 in
theorem r9_18 : Go.Eng.isTrue (Go.Eng.twoRun Try.prog Go.Eng.noSums (⟨14, 16, 17, 43, 58⟩ : Go.Eng.Fns) 1000 60 9 (.row [1, 1, 1, 1, 1]) (.row [2, 2, 1, 1])) = true := by kernel_rfl
set_option maxRecDepth 100000 in
theorem r9_19 : Go.Eng.isTrue (Go.Eng.twoRun Try.prog Go.Eng.noSums (⟨14, 16, 17, 43, 58⟩ : Go.Eng.Fns) 1000 60 9 (.row [1, 1, 1, 1, 1]) (.row [2, 2, 2])) = true := by kernel_rfl
set_option maxRecDepth 100000 in
theorem r9_20 : Go.Eng.isTrue (Go.Eng.twoRun Try.prog Go.Eng.noSums (⟨14, 16, 17, 43, 58⟩ : Go.Eng.Fns) 1000 60 9 (.row [1, 1, 1, 1, 1]) (.row [3])) = true := by kernel_rfl
set_option maxRecDepth 100000 in
theorem r9_21 : Go.Eng.isTrue (Go.Eng.twoRun Try.prog Go.Eng.noSums (⟨14, 16, 17, 43, 58⟩ : Go.Eng.Fns) 1000 60 9 (.row [1, 1, 1, 1, 1]) (.row [3, 1])) = true := by kernel_rfl
set_option maxRecDepth 100000 in
theorem r9_22 : Go.Eng.isTrue (Go.Eng.twoRun Try.prog Go.Eng.noSums (⟨14, 16, 17, 43, 58⟩ : Go.Eng.Fns) 1000 60 9 (.row [1, 1, 1, 1, 1]) (.row [3, 1, 1])) = true := by kernel_rfl
set_option maxRecDepth 100000 in
theorem r9_23 : Go.Eng.isTrue (Go.Eng.twoRun Try.prog Go.Eng.noSums (⟨14, 16, 17, 43, 58⟩ : Go.Eng.Fns) 1000 60 9 (.row [1, 1, 1, 1, 1]) (.row [3, 1, 1, 1])) = true := by kernel_rfl
set_option maxRecDepth 100000 in
theorem r9_24 : Go.Eng.isTrue (Go.Eng.twoRun Try.prog Go.Eng.noSums (⟨14, 16, 17, 43, 58⟩ : Go.Eng.Fns) 1000 60 9 (.row [1, 1, 1, 1, 1]) (.row [3, 2])) = true := by kernel_rfl
set_option maxRecDepth 100000 in
theorem r9_25 : Go.Eng.isTrue (Go.Eng.twoRun Try.prog Go.Eng.noSums (⟨14, 16, 17, 43, 58⟩ : Go.Eng.Fns) 1000 60 9 (.row [1, 1, 1, 1, 1]) (.row [3, 2, 1])) = true := by kernel_rfl
set_option maxRecDepth 100000 in
theorem r9_26 : Go.Eng.isTrue (Go.Eng.twoRun Try.prog Go.Eng.noSums (⟨14, 16, 17, 43, 58⟩ : Go.Eng.Fns) 1000 60 9 (.row [1, 1, 1, 1, 1]) (.row [3, 3])) = true := by kernel_rfl
set_option maxRecDepth 100000 in
theorem r9_27 : Go.Eng.isTrue (Go.Eng.twoRun Try.prog Go.Eng.noSums (⟨14, 16, 17, 43, 58⟩ : Go.Eng.Fns) 1000 60 9 (.row [1, 1, 1, 1, 1]) (.row [4])) = true := by kernel_rfl
set_option maxRecDepth 100000 in
theorem r9_28 : Go.Eng.isTrue (Go.Eng.twoRun Try.prog Go.Eng.noSums (⟨14, 16, 17, 43, 58⟩ : Go.Eng.Fns) 1000 60 9 (.row [1, 1, 1, 1, 1]) (.row [4, 1])) = true := by kernel_rfl
set_option maxRecDepth 100000 in
theorem r9_29 : Go.Eng.isTrue (Go.Eng.twoRun Try.prog Go.Eng.noSums (⟨14, 16, 17, 43, 58⟩ : Go.Eng.Fns) 1000 60 9 (.row [1, 1, 1, 1, 1]) (.row [4, 1, 1])) = true := by kernel_rfl
set_option maxRecDepth 100000 in
theorem r9_30 : Go.Eng.isTrue (Go.Eng.twoRun Try.prog Go.Eng.noSums (⟨14, 16, 17, 43, 58⟩ : Go.Eng.Fns) 1000 60 9 (.row [1, 1, 1, 1, 1]) (.row [4, 2])) = true := by kernel_rfl
set_option maxRecDepth 100000 in
theorem r9_31 : Go.Eng.isTrue (Go.Eng.twoRun Try.prog Go.Eng.noSums (⟨14, 16, 17, 43, 58⟩ : Go.Eng.Fns) 1000 60 9 (.row [1, 1, 1, 1, 1]) (.row [5])) = true := by kernel_rfl
set_option maxRecDepth 100000 in
theorem r9_32 : Go.Eng.isTrue (Go.Eng.twoRun Try.prog Go.Eng.noSums (⟨14, 16, 17, 43, 58⟩ : Go.Eng.Fns) 1000 60 9 (.row [1, 1, 1, 1, 1]) (.row [5, 1])) = true := by kernel_rfl
set_option maxRecDepth 100000 in
theorem r9_33 : Go.Eng.isTrue (Go.Eng.twoRun Try.prog Go.Eng.noSums (⟨14, 16, 17, 43, 58⟩ : Go.Eng.Fns) 1000 60 9 (.row [1, 1, 1, 1, 1]) (.row [6])) = true := by kernel_rfl
theorem r9 : Go.Eng.AllL (fun c => Go.Eng.isTrue (Go.Eng.twoRun Try.prog Go.Eng.noSums (⟨14, 16, 17, 43, 58⟩ : Go.Eng.Fns) 1000 60 9 (.row [1, 1, 1, 1, 1]) c) = true) Go.Eng.classes := by
  unfold Go.Eng.classes
  rw [Go.Eng.shares_eq]
  exact ⟨r9_0, r9_1, r9_2, r9_3, r9_4, r9_5, r9_6, r9_7, r9_8, r9_9, r9_10, r9_11, r9_12, r9_13, r9_14, r9_15, r9_16, r9_17, r9_18, r9_19, r9_20, r9_21, r9_22, r9_23, r9_24, r9_25, r9_26, r9_27, r9_28, r9_29, r9_30, r9_31, r9_32, r9_33, trivial⟩
set_option maxRecDepth 100000 in
theorem r13_0 : Go.Eng.isTrue (Go.Eng.twoRun Try.prog Go.Eng.noSums (⟨14, 16, 17, 43, 58⟩ : Go.Eng.Fns) 1000 60 9 (.row [2, 1, 1]) .nil) = true := by kernel_rfl
set_option maxRecDepth 100000 in
theorem r13_1 : Go.Eng.isTrue (Go.Eng.twoRun Try.prog Go.Eng.noSums (⟨14, 16, 17, 43, 58⟩ : Go.Eng.Fns) 1000 60 9 (.row [2, 1, 1]) .zero) = true := by kernel_rfl
set_option maxRecDepth 100000 in
theorem r13_2 : Go.Eng.isTrue (Go.Eng.twoRun Try.prog Go.Eng.noSums (⟨14, 16, 17, 43, 58⟩ : Go.Eng.Fns) 1000 60 9 (.row [2, 1, 1]) .no) = true := by kernel_rfl
set_option maxRecDepth 100000 in
theorem r13_3 : Go.Eng.isTrue (Go.Eng.twoRun Try.prog Go.Eng.noSums (⟨14, 16, 17, 43, 58⟩ : Go.Eng.Fns) 1000 60 9 (.row [2, 1, 1]) .long) = true := by kernel_rfl
set_option maxRecDepth 100000 in
theorem r13_4 : Go.Eng.isTrue (Go.Eng.twoRun Try.prog Go.Eng.noSums (⟨14, 16, 17, 43, 58⟩ : Go.Eng.Fns) 1000 60 9 (.row [2, 1, 1]) (.row [])) = true := by kernel_rfl
set_option maxRecDepth 100000 in
theorem r13_5 : Go.Eng.isTrue (Go.Eng.twoRun Try.prog Go.Eng.noSums (⟨14, 16, 17, 43, 58⟩ : Go.Eng.Fns) 1000 60 9 (.row [2, 1, 1]) (.row [1])) = true := by kernel_rfl
set_option maxRecDepth 100000 in
theorem r13_6 : Go.Eng.isTrue (Go.Eng.twoRun Try.prog Go.Eng.noSums (⟨14, 16, 17, 43, 58⟩ : Go.Eng.Fns) 1000 60 9 (.row [2, 1, 1]) (.row [1, 1])) = true := by kernel_rfl
set_option maxRecDepth 100000 in
theorem r13_7 : Go.Eng.isTrue (Go.Eng.twoRun Try.prog Go.Eng.noSums (⟨14, 16, 17, 43, 58⟩ : Go.Eng.Fns) 1000 60 9 (.row [2, 1, 1]) (.row [1, 1, 1])) = true := by kernel_rfl
set_option maxRecDepth 100000 in
theorem r13_8 : Go.Eng.isTrue (Go.Eng.twoRun Try.prog Go.Eng.noSums (⟨14, 16, 17, 43, 58⟩ : Go.Eng.Fns) 1000 60 9 (.row [2, 1, 1]) (.row [1, 1, 1, 1])) = true := by kernel_rfl
set_option maxRecDepth 100000 in
theorem r13_9 : Go.Eng.isTrue (Go.Eng.twoRun Try.prog Go.Eng.noSums (⟨14, 16, 17, 43, 58⟩ : Go.Eng.Fns) 1000 60 9 (.row [2, 1, 1]) (.row [1, 1, 1, 1, 1])) = true := by kernel_rfl
set_option maxRecDepth 100000 in
theorem r13_10 : Go.Eng.isTrue (Go.Eng.twoRun Try.prog Go.Eng.noSums (⟨14, 16, 17, 43, 58⟩ : Go.Eng.Fns) 1000 60 9 (.row [2, 1, 1]) (.row [1, 1, 1, 1, 1, 1])) = true := by kernel_rfl
set_option maxRecDepth 100000 in
theorem r13_11 : Go.Eng.isTrue (Go.Eng.twoRun Try.prog Go.Eng.noSums (⟨14, 16, 17, 43, 58⟩ : Go.Eng.Fns) 1000 60 9 (.row [2, 1, 1]) (.row [2])) = true := by kernel_rfl
set_option maxRecDepth 100000 in
theorem r13_12 : Go.Eng.isTrue (Go.Eng.twoRun Try.prog Go.Eng.noSums (⟨14, 16, 17, 43, 58⟩ : Go.Eng.Fns) 1000 60 9 (.row [2, 1, 1]) (.row [2, 1])) = true := by kernel_rfl
set_option maxRecDepth 100000 in
theorem r13_13 : Go.Eng.isTrue (Go.Eng.twoRun Try.prog Go.Eng.noSums (⟨14, 16, 17, 43, 58⟩ : Go.Eng.Fns) 1000 60 9 (.row [2, 1, 1]) (.row [2, 1, 1])) = true := by kernel_rfl
set_option maxRecDepth 100000 in
theorem r13_14 : Go.Eng.isTrue (Go.Eng.twoRun Try.prog Go.Eng.noSums (⟨14, 16, 17, 43, 58⟩ : Go.Eng.Fns) 1000 60 9 (.row [2, 1, 1]) (.row [2, 1, 1, 1])) = true := by kernel_rfl
set_option maxRecDepth 100000 in
theorem r13_15 : Go.Eng.isTrue (Go.Eng.twoRun Try.prog Go.Eng.noSums (⟨14, 16, 17, 43, 58⟩ : Go.Eng.Fns) 1000 60 9 (.row [2, 1, 1]) (.row [2, 1, 1, 1, 1])) = true := by kernel_rfl
set_option maxRecDepth 100000 in
theorem r13_16 : Go.Eng.isTrue (Go.Eng.twoRun Try.prog Go.Eng.noSums (⟨14, 16, 17, 43, 58⟩ : Go.Eng.Fns) 1000 60 9 (.row [2, 1, 1]) (.row [2, 2])) = true := by kernel_rfl
set_option maxRecDepth 100000 in
theorem r13_17 : Go.Eng.isTrue (Go.Eng.twoRun Try.prog Go.Eng.noSums (⟨14, 16, 17, 43, 58⟩ : Go.Eng.Fns) 1000 60 9 (.row [2, 1, 1]) (.row [2, 2, 1])) = true := by kernel_rfl
set_option maxRecDepth 100000 in
theorem r13_18 : Go.Eng.isTrue (Go.Eng.twoRun Try.prog Go.Eng.noSums (⟨14, 16, 17, 43, 58⟩ : Go.Eng.Fns) 1000 60 9 (.row [2, 1, 1]) (.row [2, 2, 1, 1])) = true := by kernel_rfl
set_option maxRecDepth 100000 in
theorem r13_19 : Go.Eng.isTrue (Go.Eng.twoRun Try.prog Go.Eng.noSums (⟨14, 16, 17, 43, 58⟩ : Go.Eng.Fns) 1000 60 9 (.row [2, 1, 1]) (.row [2, 2, 2])) = true := by kernel_rfl
set_option maxRecDepth 100000 in
theorem r13_20 : Go.Eng.isTrue (Go.Eng.twoRun Try.prog Go.Eng.noSums (⟨14, 16, 17, 43, 58⟩ : Go.Eng.Fns) 1000 60 9 (.row [2, 1, 1]) (.row [3])) = true := by kernel_rfl
set_option maxRecDepth 100000 in
theorem r13_21 : Go.Eng.isTrue (Go.Eng.twoRun Try.prog Go.Eng.noSums (⟨14, 16, 17, 43, 58⟩ : Go.Eng.Fns) 1000 60 9 (.row [2, 1, 1]) (.row [3, 1])) = true := by kernel_rfl
set_option maxRecDepth 100000 in
theorem r13_22 : Go.Eng.isTrue (Go.Eng.twoRun Try.prog Go.Eng.noSums (⟨14, 16, 17, 43, 58⟩ : Go.Eng.Fns) 1000 60 9 (.row [2, 1, 1]) (.row [3, 1, 1])) = true := by kernel_rfl
set_option maxRecDepth 100000 in
theorem r13_23 : Go.Eng.isTrue (Go.Eng.twoRun Try.prog Go.Eng.noSums (⟨14, 16, 17, 43, 58⟩ : Go.Eng.Fns) 1000 60 9 (.row [2, 1, 1]) (.row [3, 1, 1, 1])) = true := by kernel_rfl
set_option maxRecDepth 100000 in
theorem r13_24 : Go.Eng.isTrue (Go.Eng.twoRun Try.prog Go.Eng.noSums (⟨14, 16, 17, 43, 58⟩ : Go.Eng.Fns) 1000 60 9 (.row [2, 1, 1]) (.row [3, 2])) = true := by kernel_rfl
set_option maxRecDepth 100000 in
theorem r13_25 : Go.Eng.isTrue (Go.Eng.twoRun Try.prog Go.Eng.noSums (⟨14, 16, 17, 43, 58⟩ : Go.Eng.Fns) 1000 60 9 (.row [2, 1, 1]) (.row [3, 2, 1])) = true := by kernel_rfl
set_option maxRecDepth 100000 in
theorem r13_26 : Go.Eng.isTrue (Go.Eng.twoRun Try.prog Go.Eng.noSums (⟨14, 16, 17, 43, 58⟩ : Go.Eng.Fns) 1000 60 9 (.row [2, 1, 1]) (.row [3, 3])) = true := by kernel_rfl
set_option maxRecDepth 100000 in
theorem r13_27 : Go.Eng.isTrue (Go.Eng.twoRun Try.prog Go.Eng.noSums (⟨14, 16, 17, 43, 58⟩ : Go.Eng.Fns) 1000 60 9 (.row [2, 1, 1]) (.row [4])) = true := by kernel_rfl
set_option maxRecDepth 100000 in
theorem r13_28 : Go.Eng.isTrue (Go.Eng.twoRun Try.prog Go.Eng.noSums (⟨14, 16, 17, 43, 58⟩ : Go.Eng.Fns) 1000 60 9 (.row [2, 1, 1]) (.row [4, 1])) = true := by kernel_rfl
set_option maxRecDepth 100000 in
theorem r13_29 : Go.Eng.isTrue (Go.Eng.twoRun Try.prog Go.Eng.noSums (⟨14, 16, 17, 43, 58⟩ : Go.Eng.Fns) 1000 60 9 (.row [2, 1, 1]) (.row [4, 1, 1])) = true := by kernel_rfl
set_option maxRecDepth 100000 in
theorem r13_30 : Go.Eng.isTrue (Go.Eng.twoRun Try.prog Go.Eng.noSums (⟨14, 16, 17, 43, 58⟩ : Go.Eng.Fns) 1000 60 9 (.row [2, 1, 1]) (.row [4, 2])) = true := by kernel_rfl
set_option maxRecDepth 100000 in
theorem r13_31 : Go.Eng.isTrue (Go.Eng.twoRun Try.prog Go.Eng.noSums (⟨14, 16, 17, 43, 58⟩ : Go.Eng.Fns) 1000 60 9 (.row [2, 1, 1]) (.row [5])) = true := by kernel_rfl
set_option maxRecDepth 100000 in
theorem r13_32 : Go.Eng.isTrue (Go.Eng.twoRun Try.prog Go.Eng.noSums (⟨14, 16, 17, 43, 58⟩ : Go.Eng.Fns) 1000 60 9 (.row [2, 1, 1]) (.row [5, 1])) = true := by kernel_rfl
set_option maxRecDepth 100000 in
theorem r13_33 : Go.Eng.isTrue (Go.Eng.twoRun Try.prog Go.Eng.noSums (⟨14, 16, 17, 43, 58⟩ : Go.Eng.Fns) 1000 60 9 (.row [2, 1, 1]) (.row [6])) = true := by kernel_rfl
theorem r13 : Go.Eng.AllL (fun c => Go.Eng.isTrue (Go.Eng.twoRun Try.prog Go.Eng.noSums (⟨14, 16, 17, 43, 58⟩ : Go.Eng.Fns) 1000 60 9 (.row [2, 1, 1]) c) = true) Go.Eng.classes := by
  unfold Go.Eng.classes
  rw [Go.Eng.shares_eq]
  exact ⟨r13_0, r13_1, r13_2, r13_3, r13_4, r13_5, r13_6, r13_7, r13_8, r13_9, r13_10, r13_11, r13_12, r13_13, r13_14, r13_15, r13_16, r13_17, r13_18, r13_19, r13_20, r13_21, r13_22, r13_23, r13_24, r13_25, r13_26, r13_27, r13_28, r13_29, r13_30, r13_31, r13_32, r13_33, trivial⟩
set_option maxRecDepth 100000 in
theorem r17_0 : Go.Eng.isTrue (Go.Eng.twoRun Try.prog Go.Eng.noSums (⟨14, 16, 17, 43, 58⟩ : Go.Eng.Fns) 1000 60 9 (.row [2, 2, 1]) .nil) = true := by kernel_rfl
set_option maxRecDepth 100000 in
theorem r17_1 : Go.Eng.isTrue (Go.Eng.twoRun Try.prog Go.Eng.noSums (⟨14, 16, 17, 43, 58⟩ : Go.Eng.Fns) 1000 60 9 (.row [2, 2, 1]) .zero) = true := by kernel_rfl
set_option maxRecDepth 100000 in
theorem r17_2 : Go.Eng.isTrue (Go.Eng.twoRun Try.prog Go.Eng.noSums (⟨14, 16, 17, 43, 58⟩ : Go.Eng.Fns) 1000 60 9 (.row [2, 2, 1]) .no) = true := by kernel_rfl
set_option maxRecDepth 100000 in
theorem r17_3 : Go.Eng.isTrue (Go.Eng.twoRun Try.prog Go.Eng.noSums (⟨14, 16, 17, 43, 58⟩ : Go.Eng.Fns) 1000 60 9 (.row [2, 2, 1]) .long) = true := by kernel_rfl
set_option maxRecDepth 100000 in
theorem r17_4 : Go.Eng.isTrue (Go.Eng.twoRun Try.prog Go.Eng.noSums (⟨14, 16, 17, 43, 58⟩ : Go.Eng.Fns) 1000 60 9 (.row [2, 2, 1]) (.row [])) = true := by kernel_rfl
set_option maxRecDepth 100000 in
theorem r17_5 : Go.Eng.isTrue (Go.Eng.twoRun Try.prog Go.Eng.noSums (⟨14, 16, 17, 43, 58⟩ : Go.Eng.Fns) 1000 60 9 (.row [2, 2, 1]) (.row [1])) = true := by kernel_rfl
set_option maxRecDepth 100000 in
theorem r17_6 : Go.Eng.isTrue (Go.Eng.twoRun Try.prog Go.Eng.noSums (⟨14, 16, 17, 43, 58⟩ : Go.Eng.Fns) 1000 60 9 (.row [2, 2, 1]) (.row [1, 1])) = true := by kernel_rfl
set_option maxRecDepth 100000 in
theorem r17_7 : Go.Eng.isTrue (Go.Eng.twoRun Try.prog Go.Eng.noSums (⟨14, 16, 17, 43, 58⟩ : Go.Eng.Fns) 1000 60 9 (.row [2, 2, 1]) (.row [1, 1, 1])) = true := by kernel_rfl
set_option maxRecDepth 100000 in
theorem r17_8 : Go.Eng.isTrue (Go.Eng.twoRun Try.prog Go.Eng.noSums (⟨14, 16, 17, 43, 58⟩ : Go.Eng.Fns) 1000 60 9 (.row [2, 2, 1]) (.row [1, 1, 1, 1])) = true := by kernel_rfl
set_option maxRecDepth 100000 in
theorem r17_9 : Go.Eng.isTrue (Go.Eng.twoRun Try.prog Go.Eng.noSums (⟨14, 16, 17, 43, 58⟩ : Go.Eng.Fns) 1000 60 9 (.row [2, 2, 1]) (.row [1, 1, 1, 1, 1])) = true := by kernel_rfl
set_option maxRecDepth 100000 in
theorem r17_10 : Go.Eng.isTrue (Go.Eng.twoRun Try.prog Go.Eng.noSums (⟨14, 16, 17, 43, 58⟩ : Go.Eng.Fns) 1000 60 9 (.row [2, 2, 1]) (.row [1, 1, 1, 1, 1, 1])) = true := by kernel_rfl
set_option maxRecDepth 100000 in
theorem r17_11 : Go.Eng.isTrue (Go.Eng.twoRun Try.prog Go.Eng.noSums (⟨14, 16, 17, 43, 58⟩ : Go.Eng.Fns) 1000 60 9 (.row [2, 2, 1]) (.row [2])) = true := by kernel_rfl
set_option maxRecDepth 100000 in
theorem r17_12 : Go.Eng.isTrue (Go.Eng.twoRun Try.prog Go.Eng.noSums (⟨14, 16, 17, 43, 58⟩ : Go.Eng.Fns) 1000 60 9 (.row [2, 2, 1]) (.row [2, 1])) = true := by kernel_rfl
set_option maxRecDepth 100000 in
theorem r17_13 : Go.Eng.isTrue (Go.Eng.twoRun Try.prog Go.Eng.noSums (⟨14, 16, 17, 43, 58⟩ : Go.Eng.Fns) 1000 60 9 (.row [2, 2, 1]) (.row [2, 1, 1])) = true := by kernel_rfl
set_option maxRecDepth 100000 in
theorem r17_14 : Go.Eng.isTrue (Go.Eng.twoRun Try.prog Go.Eng.noSums (⟨14, 16, 17, 43, 58⟩ : Go.Eng.Fns) 1000 60 9 (.row [2, 2, 1]) (.row [2, 1, 1, 1])) = true := by kernel_rfl
set_option maxRecDepth 100000 in
theorem r17_15 : Go.Eng.isTrue (Go.Eng.twoRun Try.prog Go.Eng.noSums (⟨14, 16, 17, 43, 58⟩ : Go.Eng.Fns) 1000 60 9 (.row [2, 2, 1]) (.row [2, 1, 1, 1, 1])) = true := by kernel_rfl
set_option maxRecDepth 100000 in
theorem r17_16 : Go.Eng.isTrue (Go.Eng.twoRun Try.prog Go.Eng.noSums (⟨14, 16, 17, 43, 58⟩ : Go.Eng.Fns) 1000 60 9 (.row [2, 2, 1]) (.row [2, 2])) = true := by kernel_rfl
set_option maxRecDepth 100000 in
theorem r17_17 : Go.Eng.isTrue (Go.Eng.twoRun Try.prog Go.Eng.noSums (⟨14, 16, 17, 43, 58⟩ : Go.Eng.Fns) 1000 60 9 (.row [2, 2, 1]) (.row [2, 2, 1])) = true := by kernel_rfl
set_option maxRecDepth 100000 in
theorem r17_18 : Go.Eng.isTrue (Go.Eng.twoRun Try.prog Go.Eng.noSums (⟨14, 16, 17, 43, 58⟩ : Go.Eng.Fns) 1000 60 9 (.row [2, 2, 1]) (.row [2, 2, 1, 1])) = true := by kernel_rfl
set_option maxRecDepth 100000 in
theorem r17_19 : Go.Eng.isTrue (Go.Eng.twoRun Try.prog Go.Eng.noSums (⟨14, 16, 17, 43, 58⟩ : Go.Eng.Fns) 1000 60 9 (.row [2, 2, 1]) (.row [2, 2, 2])) = true := by kernel_rfl
set_option maxRecDepth 100000 in
theorem r17_20 : Go.Eng.isTrue (Go.Eng.twoRun Try.prog Go.Eng.noSums (⟨14, 16, 17, 43, 58⟩ : Go.Eng.Fns) 1000 60 9 (.row [2, 2, 1]) (.row [3])) = true := by kernel_rfl
set_option maxRecDepth 100000 in
theorem r17_21 : Go.Eng.isTrue (Go.Eng.twoRun Try.prog Go.Eng.noSums (⟨14, 16, 17, 43, 58⟩ : Go.Eng.Fns) 1000 60 9 (.row [2, 2, 1]) (.row [3, 1])) = true := by kernel_rfl
set_option maxRecDepth 100000 in
theorem r17_22 : Go.Eng.isTrue (Go.Eng.twoRun Try.prog Go.Eng.noSums (⟨14, 16, 17, 43, 58⟩ : Go.Eng.Fns) 1000 60 9 (.row [2, 2, 1]) (.row [3, 1, 1])) = true := by kernel_rfl
set_option maxRecDepth 100000 in
theorem r17_23 : Go.Eng.isTrue (Go.Eng.twoRun Try.prog Go.Eng.noSums (⟨14, 16, 17, 43, 58⟩ : Go.Eng.Fns) 1000 60 9 (.row [2, 2, 1]) (.row [3, 1, 1, 1])) = true := by kernel_rfl
set_option maxRecDepth 100000 in
theorem r17_24 : Go.Eng.isTrue (Go.Eng.twoRun Try.prog Go.Eng.noSums (⟨14, 16, 17, 43, 58⟩ : Go.Eng.Fns) 1000 60 9 (.row [2, 2, 1]) (.row [3, 2])) = true := by kernel_rfl
set_option maxRecDepth 100000 in
theorem r17_25 : Go.Eng.isTrue (Go.Eng.twoRun Try.prog Go.Eng.noSums (⟨14, 16, 17, 43, 58⟩ : Go.Eng.Fns) 1000 60 9 (.row [2, 2, 1]) (.row [3, 2, 1])) = true := by kernel_rfl
set_option maxRecDepth 100000 in
theorem r17_26 : Go.Eng.isTrue (Go.Eng.twoRun Try.prog Go.Eng.noSums (⟨14, 16, 17, 43, 58⟩ : Go.Eng.Fns) 1000 60 9 (.row [2, 2, 1]) (.row [3, 3])) = true := by kernel_rfl
set_option maxRecDepth 100000 in
theorem r17_27 : Go.Eng.isTrue (Go.Eng.twoRun Try.prog Go.Eng.noSums (⟨14, 16, 17, 43, 58⟩ : Go.Eng.Fns) 1000 60 9 (.row [2, 2, 1]) (.row [4])) = true := by kernel_rfl
set_option maxRecDepth 100000 in
theorem r17_28 : Go.Eng.isTrue (Go.Eng.twoRun Try.prog Go.Eng.noSums (⟨14, 16, 17, 43, 58⟩ : Go.Eng.Fns) 1000 60 9 (.row [2, 2, 1]) (.row [4, 1])) = true := by kernel_rfl
set_option maxRecDepth 100000 in
theorem r17_29 : Go.Eng.isTrue (Go.Eng.twoRun Try.prog Go.Eng.noSums (⟨14, 16, 17, 43, 58⟩ : Go.Eng.Fns) 1000 60 9 (.row [2, 2, 1]) (.row [4, 1, 1])) = true := by kernel_rfl
set_option maxRecDepth 100000 in
theorem r17_30 : Go.Eng.isTrue (Go.Eng.twoRun Try.prog Go.Eng.noSums (⟨14, 16, 17, 43, 58⟩ : Go.Eng.Fns) 1000 60 9 (.row [2, 2, 1]) (.row [4, 2])) = true := by kernel_rfl
set_option maxRecDepth 100000 in
theorem r17_31 : Go.Eng.isTrue (Go.Eng.twoRun Try.prog Go.Eng.noSums (⟨14, 16, 17, 43, 58⟩ : Go.Eng.Fns) 1000 60 9 (.row [2, 2, 1]) (.row [5])) = true := by kernel_rfl
set_option maxRecDepth 100000 in
theorem r17_32 : Go.Eng.isTrue (Go.Eng.twoRun Try.prog Go.Eng.noSums (⟨14, 16, 17, 43, 58⟩ : Go.Eng.Fns) 1000 60 9 (.row [2, 2, 1]) (.row [5, 1])) = true := by kernel_rfl
set_option maxRecDepth 100000 in
theorem r17_33 : Go.Eng.isTrue (Go.Eng.twoRun Try.prog Go.Eng.noSums (⟨14, 16, 17, 43, 58⟩ : Go.Eng.Fns) 1000 60 9 (.row [2, 2, 1]) (.row [6])) = true := by kernel_rfl
theorem r17 : Go.Eng.AllL (fun c => Go.Eng.isTrue (Go.Eng.twoRun Try.prog Go.Eng.noSums (⟨14, 16, 17, 43, 58⟩ : Go.Eng.Fns) 1000 60 9 (.row [2, 2, 1]) c) = true) Go.Eng.classes := by
  unfold Go.Eng.classes
  rw [Go.Eng.shares_eq]
  exact ⟨r17_0, r17_1, r17_2, r17_3, r17_4, r17_5, r17_6, r17_7, r17_8, r17_9, r17_10, r17_11, r17_12, r17_13, r17_14, r17_15, r17_16, r17_17, r17_18, r17_19, r17_20, r17_21, r17_22, r17_23, r17_24, r17_25, r17_26, r17_27, r17_28, r17_29, r17_30, r17_31, r17_32, r17_33, trivial⟩
set_option maxRecDepth 100000 in
theorem r21_0 : Go.Eng.isTrue (Go.Eng.twoRun Try.prog Go.Eng.noSums (⟨14, 16, 17, 43, 58⟩ : Go.Eng.Fns) 1000 60 9 (.row [3, 1]) .nil) = true := by kernel_rfl
set_option maxRecDepth 100000 in
theorem r21_1 : Go.Eng.isTrue (Go.Eng.twoRun Try.prog Go.Eng.noSums (⟨14, 16, 17, 43, 58⟩ : Go.Eng.Fns) 1000 60 9 (.row [3, 1]) .zero) = true := by kernel_rfl
set_option maxRecDepth 100000 in
theorem r21_2 : Go.Eng.isTrue (Go.Eng.twoRun Try.prog Go.Eng.noSums (⟨14, 16, 17, 43, 58⟩ : Go.Eng.Fns) 1000 60 9 (.row [3, 1]) .no) = true := by kernel_rfl
set_option maxRecDepth 100000 in
theorem r21_3 : Go.Eng.isTrue (Go.Eng.twoRun Try.prog Go.Eng.noSums (⟨14, 16, 17, 43, 58⟩ : Go.Eng.Fns) 1000 60 9 (.row [3, 1]) .long) = true := by kernel_rfl
set_option maxRecDepth 100000 in
theorem r21_4 : Go.Eng.isTrue (Go.Eng.twoRun Try.prog Go.Eng.noSums (⟨14, 16, 17, 43, 58⟩ : Go.Eng.Fns) 1000 60 9 (.row [3, 1]) (.row [])) = true := by kernel_rfl
set_option maxRecDepth 100000 in
theorem r21_5 : Go.Eng.isTrue (Go.Eng.twoRun Try.prog Go.Eng.noSums (⟨14, 16, 17, 43, 58⟩ : Go.Eng.Fns) 1000 60 9 (.row [3, 1]) (.row [1])) = true := by kernel_rfl
set_option maxRecDepth 100000 in
theorem r21_6 : Go.Eng.isTrue (Go.Eng.twoRun Try.prog Go.Eng.noSums (⟨14, 16, 17, 43, 58⟩ : Go.Eng.Fns) 1000 60 9 (.row [3, 1]) (.row [1, 1])) = true := by kernel_rfl
set_option maxRecDepth 100000 in
theorem r21_7 : Go.Eng.isTrue (Go.Eng.twoRun Try.prog Go.Eng.noSums (⟨14, 16, 17, 43, 58⟩ : Go.Eng.Fns) 1000 60 9 (.row [3, 1]) (.row [1, 1, 1])) = true := by kernel_rfl
set_option maxRecDepth 100000 in
theorem r21_8 : Go.Eng.isTrue (Go.Eng.twoRun Try.prog Go.Eng.noSums (⟨14, 16, 17, 43, 58⟩ : Go.Eng.Fns) 1000 60 9 (.row [3, 1]) (.row [1, 1, 1, 1])) = true := by kernel_rfl
set_option maxRecDepth 100000 in
theorem r21_9 : Go.Eng.isTrue (Go.Eng.twoRun Try.prog Go.Eng.noSums (⟨14, 16, 17, 43, 58⟩ : Go.Eng.Fns) 1000 60 9 (.row [3, 1]) (.row [1, 1, 1, 1, 1])) = true := by kernel_rfl
set_option maxRecDepth 100000 in
theorem r21_10 : Go.Eng.isTrue (Go.Eng.twoRun Try.prog Go.Eng.noSums (⟨14, 16, 17, 43, 58⟩ : Go.Eng.Fns) 1000 60 9 (.row [3, 1]) (.row [1, 1, 1, 1, 1, 1])) = true := by kernel_rfl
set_option maxRecDepth 100000 in
theorem r21_11 : Go.Eng.isTrue (Go.Eng.twoRun Try.prog Go.Eng.noSums (⟨14, 16, 17, 43, 58⟩ : Go.Eng.Fns) 1000 60 9 (.row [3, 1]) (.row [2])) = true := by kernel_rfl
set_option maxRecDepth 100000 in
theorem r21_12 : Go.Eng.isTrue (Go.Eng.twoRun Try.prog Go.Eng.noSums (⟨14, 16, 17, 43, 58⟩ : Go.Eng.Fns) 1000 60 9 (.row [3, 1]) (.row [2, 1])) = true := by kernel_rfl
set_option maxRecDepth 100000 in
theorem r21_13 : Go.Eng.isTrue (Go.Eng.twoRun Try.prog Go.Eng.noSums (⟨14, 16, 17, 43, 58⟩ : Go.Eng.Fns) 1000 60 9 (.row [3, 1]) (.row [2, 1, 1])) = true := by kernel_rfl
set_option maxRecDepth 100000 in
theorem r21_14 : Go.Eng.isTrue (Go.Eng.twoRun Try.prog Go.Eng.noSums (⟨14, 16, 17, 43, 58⟩ : Go.Eng.Fns) 1000 60 9 (.row [3, 1]) (.row [2, 1, 1, 1])) = true := by kernel_rfl
set_option maxRecDepth 100000 in
theorem r21_15 : Go.Eng.isTrue (Go.Eng.twoRun Try.prog Go.Eng.noSums (⟨14, 16, 17, 43, 58⟩ : Go.Eng.Fns) 1000 60 9 (.row [3, 1]) (.row [2, 1, 1, 1, 1])) = true := by kernel_rfl
set_option maxRecDepth 100000 in
theorem r21_16 : Go.Eng.isTrue (Go.Eng.twoRun Try.prog Go.Eng.noSums (⟨14, 16, 17, 43, 58⟩ : Go.Eng.Fns) 1000 60 9 (.row [3, 1]) (.row [2, 2])) = true := by kernel_rfl
set_option maxRecDepth 100000 in
theorem r21_17 : Go.Eng.isTrue (Go.Eng.twoRun Try.prog Go.Eng.noSums (⟨14, 16, 17, 43, 58⟩ : Go.Eng.Fns) 1000 60 9 (.row [3, 1]) (.row [2, 2, 1])) = true := by kernel_rfl
set_option maxRecDepth 100000 in
theorem r21_18 : Go.Eng.isTrue (Go.Eng.twoRun Try.prog Go.Eng.noSums (⟨14, 16, 17, 43, 58⟩ : Go.Eng.Fns) 1000 60 9 (.row [3, 1]) (.row [2, 2, 1, 1])) = true := by kernel_rfl
set_option maxRecDepth 100000 in
theorem r21_19 : Go.Eng.isTrue (Go.Eng.twoRun Try.prog Go.Eng.noSums (⟨14, 16, 17, 43, 58⟩ : Go.Eng.Fns) 1000 60 9 (.row [3, 1]) (.row [2, 2, 2])) = true := by kernel_rfl
set_option maxRecDepth 100000 in
theorem r21_20 : Go.Eng.isTrue (Go.Eng.twoRun Try.prog Go.Eng.noSums (⟨14, 16, 17, 43, 58⟩ : Go.Eng.Fns) 1000 60 9 (.row [3, 1]) (.row [3])) = true := by kernel_rfl
set_option maxRecDepth 100000 in
theorem r21_21 : Go.Eng.isTrue (Go.Eng.twoRun Try.prog Go.Eng.noSums (⟨14, 16, 17, 43, 58⟩ : Go.Eng.Fns) 1000 60 9 (.row [3, 1]) (.row [3, 1])) = true := by kernel_rfl
set_option maxRecDepth 100000 in
theorem r21_22 : Go.Eng.isTrue (Go.Eng.twoRun Try.prog Go.Eng.noSums (⟨14, 16, 17, 43, 58⟩ : Go.Eng.Fns) 1000 60 9 (.row [3, 1]) (.row [3, 1, 1])) = true := by kernel_rfl
set_option maxRecDepth 100000 in
theorem r21_23 : Go.Eng.isTrue (Go.Eng.twoRun Try.prog Go.Eng.noSums (⟨14, 16, 17, 43, 58⟩ : Go.Eng.Fns) 1000 60 9 (.row [3, 1]) (.row [3, 1, 1, 1])) = true := by kernel_rfl
set_option maxRecDepth 100000 in
theorem r21_24 : Go.Eng.isTrue (Go.Eng.twoRun Try.prog Go.Eng.noSums (⟨14, 16, 17, 43, 58⟩ : Go.Eng.Fns) 1000 60 9 (.row [3, 1]) (.row [3, 2])) = true := by kernel_rfl
set_option maxRecDepth 100000 in
theorem r21_25 : Go.Eng.isTrue (Go.Eng.twoRun Try.prog Go.Eng.noSums (⟨14, 16, 17, 43, 58⟩ : Go.Eng.Fns) 1000 60 9 (.row [3, 1]) (.row [3, 2, 1])) = true := by kernel_rfl
set_option maxRecDepth 100000 in
theorem r21_26 : Go.Eng.isTrue (Go.Eng.twoRun Try.prog Go.Eng.noSums (⟨14, 16, 17, 43, 58⟩ : Go.Eng.Fns) 1000 60 9 (.row [3, 1]) (.row [3, 3])) = true := by kernel_rfl
set_option maxRecDepth 100000 in
theorem r21_27 : Go.Eng.isTrue (Go.Eng.twoRun Try.prog Go.Eng.noSums (⟨14, 16, 17, 43, 58⟩ : Go.Eng.Fns) 1000 60 9 (.row [3, 1]) (.row [4])) = true := by kernel_rfl
set_option maxRecDepth 100000 in
theorem r21_28 : Go.Eng.isTrue (Go.Eng.twoRun Try.prog Go.Eng.noSums (⟨14, 16, 17, 43, 58⟩ : Go.Eng.Fns) 1000 60 9 (.row [3, 1]) (.row [4, 1])) = true := by kernel_rfl
set_option maxRecDepth 100000 in
theorem r21_29 : Go.Eng.isTrue (Go.Eng.twoRun Try.prog Go.Eng.noSums (⟨14, 16, 17, 43, 58⟩ : Go.Eng.Fns) 1000 60 9 (.row [3, 1]) (.row [4, 1, 1])) = true := by kernel_rfl
set_option maxRecDepth 100000 in
theorem r21_30 : Go.Eng.isTrue (Go.Eng.twoRun Try.prog Go.Eng.noSums (⟨14, 16, 17, 43, 58⟩ : Go.Eng.Fns) 1000 60 9 (.row [3, 1]) (.row [4, 2])) = true := by kernel_rfl
set_option maxRecDepth 100000 in
theorem r21_31 : Go.Eng.isTrue (Go.Eng.twoRun Try.prog Go.Eng.noSums (⟨14, 16, 17, 43, 58⟩ : Go.Eng.Fns) 1000 60 9 (.row [3, 1]) (.row [5])) = true := by kernel_rfl
set_option maxRecDepth 100000 in
theorem r21_32 : Go.Eng.isTrue (Go.Eng.twoRun Try.prog Go.Eng.noSums (⟨14, 16, 17, 43, 58⟩ : Go.Eng.Fns) 1000 60 9 (.row [3, 1]) (.row [5, 1])) = true := by kernel_rfl
set_option maxRecDepth 100000 in
theorem r21_33 : Go.Eng.isTrue (Go.Eng.twoRun Try.prog Go.Eng.noSums (⟨14, 16, 17, 43, 58⟩ : Go.Eng.Fns) 1000 60 9 (.row [3, 1]) (.row [6])) = true := by kernel_rfl
theorem r21 : Go.Eng.AllL (fun c => Go.Eng.isTrue (Go.Eng.twoRun Try.prog Go.Eng.noSums (⟨14, 16, 17, 43, 58⟩ : Go.Eng.Fns) 1000 60 9 (.row [3, 1]) c) = true) Go.Eng.classes := by
  unfold Go.Eng.classes
  rw [Go.Eng.shares_eq]
  exact ⟨r21_0, r21_1, r21_2, r21_3, r21_4, r21_5, r21_6, r21_7, r21_8, r21_9, r21_10, r21_11, r21_12, r21_13, r21_14, r21_15, r21_16, r21_17, r21_18, r21_19, r21_20, r21_21, r21_22, r21_23, r21_24, r21_25, r21_26, r21_27, r21_28, r21_29, r21_30, r21_31, r21_32, r21_33, trivial⟩
set_option maxRecDepth 100000 in
theorem r25_0 : Go.Eng.isTrue (Go.Eng.twoRun Try.prog Go.Eng.noSums (⟨14, 16, 17, 43, 58⟩ : Go.Eng.Fns) 1000 60 9 (.row [3, 2, 1]) .nil) = true := by kernel_rfl
set_option maxRecDepth 100000 in
theorem r25_1 : Go.Eng.isTrue (Go.Eng.twoRun Try.prog Go.Eng.noSums (⟨14, 16, 17, 43, 58⟩ : Go.Eng.Fns) 1000 60 9 (.row [3, 2, 1]) .zero) = true := by kernel_rfl
set_option maxRecDepth 100000 in
theorem r25_2 : Go.Eng.isTrue (Go.Eng.twoRun Try.prog Go.Eng.noSums (⟨14, 16, 17, 43, 58⟩ : Go.Eng.Fns) 1000 60 9 (.row [3, 2, 1]) .no) = true := by kernel_rfl
set_option maxRecDepth 100000 in
theorem r25_3 : Go.Eng.isTrue (Go.Eng.twoRun Try.prog Go.Eng.noSums (⟨14, 16, 17, 43, 58⟩ : Go.Eng.Fns) 1000 60 9 (.row [3, 2, 1]) .long) = true := by kernel_rfl
set_option maxRecDepth 100000 in
theorem r25_4 : Go.Eng.isTrue (Go.Eng.twoRun Try.prog Go.Eng.noSums (⟨14, 16, 17, 43, 58⟩ : Go.Eng.Fns) 1000 60 9 (.row [3, 2, 1]) (.row [])) = true := by kernel_rfl
set_option maxRecDepth 100000 in
theorem r25_5 : Go.Eng.isTrue (Go.Eng.twoRun Try.prog Go.Eng.noSums (⟨14, 16, 17, 43, 58⟩ : Go.Eng.Fns) 1000 60 9 (.row [3, 2, 1]) (.row [1])) = true := by kernel_rfl
set_option maxRecDepth 100000 in
theorem r25_6 : Go.Eng.isTrue (Go.Eng.twoRun Try.prog Go.Eng.noSums (⟨14, 16, 17, 43, 58⟩ : Go.Eng.Fns) 1000 60 9 (.row [3, 2, 1]) (.row [1, 1])) = true := by kernel_rfl
set_option maxRecDepth 100000 in
theorem r25_7 : Go.Eng.isTrue (Go.Eng.twoRun Try.prog Go.Eng.noSums (⟨14, 16, 17, 43, 58⟩ : Go.Eng.Fns) 1000 60 9 (.row [3, 2, 1]) (.row [1, 1, 1])) = true := by kernel_rfl
set_option maxRecDepth 100000 in
theorem r25_8 : Go.Eng.isTrue (Go.Eng.twoRun Try.prog Go.Eng.noSums (⟨14, 16, 17, 43, 58⟩ : Go.Eng.Fns) 1000 60 9 (.row [3, 2, 1]) (.row [1, 1, 1, 1])) = true := by kernel_rfl
set_option maxRecDepth 100000 in
theorem r25_9 : Go.Eng.isTrue (Go.Eng.twoRun Try.prog Go.Eng.noSums (⟨14, 16, 17, 43, 58⟩ : Go.Eng.Fns) 1000 60 9 (.row [3, 2, 1]) (.row [1, 1, 1, 1, 1])) = true := by kernel_rfl
set_option maxRecDepth 100000 in
theorem r25_10 : Go.Eng.isTrue (Go.Eng.twoRun Try.prog Go.Eng.noSums (⟨14, 16, 17, 43, 58⟩ : Go.Eng.Fns) 1000 60 9 (.row [3, 2, 1]) (.row [1, 1, 1, 1, 1, 1])) = true := by kernel_rfl
set_option maxRecDepth 100000 in
theorem r25_11 : Go.Eng.isTrue (Go.Eng.twoRun Try.prog Go.Eng.noSums (⟨14, 16, 17, 43, 58⟩ : Go.Eng.Fns) 1000 60 9 (.row [3, 2, 1]) (.row [2])) = true := by kernel_rfl
set_option maxRecDepth 100000 in
theorem r25_12 : Go.Eng.isTrue (Go.Eng.twoRun Try.prog Go.Eng.noSums (⟨14, 16, 17, 43, 58⟩ : Go.Eng.Fns) 1000 60 9 (.row [3, 2, 1]) (.row [2, 1])) = true := by kernel_rfl
set_option maxRecDepth 100000 in
theorem r25_13 : Go.Eng.isTrue (Go.Eng.twoRun Try.prog Go.Eng.noSums (⟨14, 16, 17, 43, 58⟩ : Go.Eng.Fns) 1000 60 9 (.row [3, 2, 1]) (.row [2, 1, 1])) = true := by kernel_rfl
set_option maxRecDepth 100000 in
theorem r25_14 : Go.Eng.isTrue (Go.Eng.twoRun Try.prog Go.Eng.noSums (⟨14, 16, 17, 43, 58⟩ : Go.Eng.Fns) 1000 60 9 (.row [3, 2, 1]) (.row [2, 1, 1, 1])) = true := by kernel_rfl
set_option maxRecDepth 100000 in
theorem r25_15 : Go.Eng.isTrue (Go.Eng.twoRun Try.prog Go.Eng.noSums (⟨14, 16, 17, 43, 58⟩ : Go.Eng.Fns) 1000 60 9 (.row [3, 2, 1]) (.row [2, 1, 1, 1, 1])) = true := by kernel_rfl
set_option maxRecDepth 100000 in
theorem r25_16 : Go.Eng.isTrue (Go.Eng.twoRun Try.prog Go.Eng.noSums (⟨14, 16, 17, 43, 58⟩ : Go.Eng.Fns) 1000 60 9 (.row [3, 2, 1]) (.row [2, 2])) = true := by kernel_rfl
set_option maxRecDepth 100000 in
theorem r25_17 : Go.Eng.isTrue (Go.Eng.twoRun Try.prog Go.Eng.noSums (⟨14, 16, 17, 43, 58⟩ : Go.Eng.Fns) 1000 60 9 (.row [3, 2, 1]) (.row [2, 2, 1])) = true := by kernel_rfl
set_option maxRecDepth 100000 in
theorem r25_18 : Go.Eng.isTrue (Go.Eng.twoRun Try.prog Go.Eng.noSums (⟨14, 16, 17, 43, 58⟩ : Go.Eng.Fns) 1000 60 9 (.row [3, 2, 1]) (.row [2, 2, 1, 1])) = true := by kernel_rfl
set_option maxRecDepth 100000 in
theorem r25_19 : Go.Eng.isTrue (Go.Eng.twoRun Try.prog Go.Eng.noSums (⟨14, 16, 17, 43, 58⟩ : Go.Eng.Fns) 1000 60 9 (.row [3, 2, 1]) (.row [2, 2, 2])) = true := by kernel_rfl
set_option maxRecDepth 100000 in
theorem r25_20 : Go.Eng.isTrue (Go.Eng.twoRun Try.prog Go.Eng.noSums (⟨14, 16, 17, 43, 58⟩ : Go.Eng.Fns) 1000 60 9 (.row [3, 2, 1]) (.row [3])) = true := by kernel_rfl
set_option maxRecDepth 100000 in
theorem r25_21 : Go.Eng.isTrue (Go.Eng.twoRun Try.prog Go.Eng.noSums (⟨14, 16, 17, 43, 58⟩ : Go.Eng.Fns) 1000 60 9 (.row [3, 2, 1]) (.row [3, 1])) = true := by kernel_rfl
set_option maxRecDepth 100000 in
theorem r25_22 : Go.Eng.isTrue (Go.Eng.twoRun Try.prog Go.Eng.noSums (⟨14, 16, 17, 43, 58⟩ : Go.Eng.Fns) 1000 60 9 (.row [3, 2, 1]) (.row [3, 1, 1])) = true := by kernel_rfl
set_option maxRecDepth 100000 in
theorem r25_23 : Go.Eng.isTrue (Go.Eng.twoRun Try.prog Go.Eng.noSums (⟨14, 16, 17, 43, 58⟩ : Go.Eng.Fns) 1000 60 9 (.row [3, 2, 1]) (.row [3, 1, 1, 1])) = true := by kernel_rfl
set_option maxRecDepth 100000 in
theorem r25_24 : Go.Eng.isTrue (Go.Eng.twoRun Try.prog Go.Eng.noSums (⟨14, 16, 17, 43, 58⟩ : Go.Eng.Fns) 1000 60 9 (.row [3, 2, 1]) (.row [3, 2])) = true := by kernel_rfl
set_option maxRecDepth 100000 in
theorem r25_25 : Go.Eng.isTrue (Go.Eng.twoRun Try.prog Go.Eng.noSums (⟨14, 16, 17, 43, 58⟩ : Go.Eng.Fns) 1000 60 9 (.row [3, 2, 1]) (.row [3, 2, 1])) = true := by kernel_rfl
set_option maxRecDepth 100000 in
theorem r25_26 : Go.Eng.isTrue (Go.Eng.twoRun Try.prog Go.Eng.noSums (⟨14, 16, 17, 43, 58⟩ : Go.Eng.Fns) 1000 60 9 (.row [3, 2, 1]) (.row [3, 3])) = true := by kernel_rfl
set_option maxRecDepth 100000 in
theorem r25_27 : Go.Eng.isTrue (Go.Eng.twoRun Try.prog Go.Eng.noSums (⟨14, 16, 17, 43, 58⟩ : Go.Eng.Fns) 1000 60 9 (.row [3, 2, 1]) (.row [4])) = true := by kernel_rfl
set_option maxRecDepth 100000 in
theorem r25_28 : Go.Eng.isTrue (Go.Eng.twoRun Try.prog Go.Eng.noSums (⟨14, 16, 17, 43, 58⟩ : Go.Eng.Fns) 1000 60 9 (.row [3, 2, 1]) (.row [4, 1])) = true := by kernel_rfl
set_option maxRecDepth 100000 in
theorem r25_29 : Go.Eng.isTrue (Go.Eng.twoRun Try.prog Go.Eng.noSums (⟨14, 16, 17, 43, 58⟩ : Go.Eng.Fns) 1000 60 9 (.row [3, 2, 1]) (.row [4, 1, 1])) = true := by kernel_rfl
set_option maxRecDepth 100000 in
theorem r25_30 : Go.Eng.isTrue (Go.Eng.twoRun Try.prog Go.Eng.noSums (⟨14, 16, 17, 43, 58⟩ : Go.Eng.Fns) 1000 60 9 (.row [3, 2, 1]) (.row [4, 2])) = true := by kernel_rfl
set_option maxRecDepth 100000 in
theorem r25_31 : Go.Eng.isTrue (Go.Eng.twoRun Try.prog Go.Eng.noSums (⟨14, 16, 17, 43, 58⟩ : Go.Eng.Fns) 1000 60 9 (.row [3, 2, 1]) (.row [5])) = true := by kernel_rfl
set_option maxRecDepth 100000 in
theorem r25_32 : Go.Eng.isTrue (Go.Eng.twoRun Try.prog Go.Eng.noSums (⟨14, 16, 17, 43, 58⟩ : Go.Eng.Fns) 1000 60 9 (.row [3, 2, 1]) (.row [5, 1])) = true := by kernel_rfl
set_option maxRecDepth 100000 in
theorem r25_33 : Go.Eng.isTrue (Go.Eng.twoRun Try.prog Go.Eng.noSums (⟨14, 16, 17, 43, 58⟩ : Go.Eng.Fns) 1000 60 9 (.row [3, 2, 1]) (.row [6])) = true := by kernel_rfl
theorem r25 : Go.Eng.AllL (fun c => Go.Eng.isTrue (Go.Eng.twoRun Try.prog Go.Eng.noSums (⟨14, 16, 17, 43, 58⟩ : Go.Eng.Fns) 1000 60 9 (.row [3, 2, 1]) c) = true) Go.Eng.classes := by
  unfold Go.Eng.classes
  rw [Go.Eng.shares_eq]
  exact ⟨r25_0, r25_1, r25_2, r25_3, r25_4, r25_5, r25_6, r25_7, r25_8, r25_9, r25_10, r25_11, r25_12, r25_13, r25_14, r25_15, r25_16, r25_17, r25_18, r25_19, r25_20, r25_21, r25_22, r25_23, r25_24, r25_25, r25_26, r25_27, r25_28, r25_29, r25_30, r25_31, r25_32, r25_33, trivial⟩
set_option maxRecDepth 100000 in
theorem r29_0 : Go.Eng.isTrue (Go.Eng.twoRun Try.prog Go.Eng.noSums (⟨14, 16, 17, 43, 58⟩ : Go.Eng.Fns) 1000 60 9 (.row [4, 1, 1]) .nil) = true := by kernel_rfl
set_option maxRecDepth 100000 in
theorem r29_1 : Go.Eng.isTrue (Go.Eng.twoRun Try.prog Go.Eng.noSums (⟨14, 16, 17, 43, 58⟩ : Go.Eng.Fns) 1000 60 9 (.row [4, 1, 1]) .zero) = true := by kernel_rfl
set_option maxRecDepth 100000 in
theorem r29_2 : Go.Eng.isTrue (Go.Eng.twoRun Try.prog Go.Eng.noSums (⟨14, 16, 17, 43, 58⟩ : Go.Eng.Fns) 1000 60 9 (.row [4, 1, 1]) .no) = true := by kernel_rfl
set_option maxRecDepth 100000 in
theorem r29_3 : Go.Eng.isTrue (Go.Eng.twoRun Try.prog Go.Eng.noSums (⟨14, 16, 17, 43, 58⟩ : Go.Eng.Fns) 1000 60 9 (.row [4, 1, 1]) .long) = true := by kernel_rfl
set_option maxRecDepth 100000 in
theorem r29_4 : Go.Eng.isTrue (Go.Eng.twoRun Try.prog Go.Eng.noSums (⟨14, 16, 17, 43, 58⟩ : Go.Eng.Fns) 1000 60 9 (.row [4, 1, 1]) (.row [])) = true := by kernel_rfl
set_option maxRecDepth 100000 in
theorem r29_5 : Go.Eng.isTrue (Go.Eng.twoRun Try.prog Go.Eng.noSums (⟨14, 16, 17, 43, 58⟩ : Go.Eng.Fns) 1000 60 9 (.row [4, 1, 1]) (.row [1])) = true := by kernel_rfl
set_option maxRecDepth 100000 in
theorem r29_6 : Go.Eng.isTrue (Go.Eng.twoRun Try.prog Go.Eng.noSums (⟨14, 16, 17, 43, 58⟩ : Go.Eng.Fns) 1000 60 9 (.row [4, 1, 1]) (.row [1, 1])) = true := by kernel_rfl
set_option maxRecDepth 100000 in
theorem r29_7 : Go.Eng.isTrue (Go.Eng.twoRun Try.prog Go.Eng.noSums (⟨14, 16, 17, 43, 58⟩ : Go.Eng.Fns) 1000 60 9 (.row [4, 1, 1]) (.row [1, 1, 1])) = true := by kernel_rfl
set_option maxRecDepth 100000 in
theorem r29_8 : Go.Eng.isTrue (Go.Eng.twoRun Try.prog Go.Eng.noSums (⟨14, 16, 17, 43, 58⟩ : Go.Eng.Fns) 1000 60 9 (.row [4, 1, 1]) (.row [1, 1, 1, 1])) = true := by kernel_rfl
set_option maxRecDepth 100000 in
theorem r29_9 : Go.Eng.isTrue (Go.Eng.twoRun Try.prog Go.Eng.noSums (⟨14, 16, 17, 43, 58⟩ : Go.Eng.Fns) 1000 60 9 (.row [4, 1, 1]) (.row [1, 1, 1, 1, 1])) = true := by kernel_rfl
set_option maxRecDepth 100000 in
theorem r29_10 : Go.Eng.isTrue (Go.Eng.twoRun Try.prog Go.Eng.noSums (⟨14, 16, 17, 43, 58⟩ : Go.Eng.Fns) 1000 60 9 (.row [4, 1, 1]) (.row [1, 1, 1, 1, 1, 1])) = true := by kernel_rfl
set_option maxRecDepth 100000 in
theorem r29_11 : Go.Eng.isTrue (Go.Eng.twoRun Try.prog Go.Eng.noSums (⟨14, 16, 17, 43, 58⟩ : Go.Eng.Fns) 1000 60 9 (.row [4, 1, 1]) (.row [2])) = true := by kernel_rfl
set_option maxRecDepth 100000 in
theorem r29_12 : Go.Eng.isTrue (Go.Eng.twoRun Try.prog Go.Eng.noSums (⟨14, 16, 17, 43, 58⟩ : Go.Eng.Fns) 1000 60 9 (.row [4, 1, 1]) (.row [2, 1])) = true := by kernel_rfl
set_option maxRecDepth 100000 in
theorem r29_13 : Go.Eng.isTrue (Go.Eng.twoRun Try.prog Go.Eng.noSums (⟨14, 16, 17, 43, 58⟩ : Go.Eng.Fns) 1000 60 9 (.row [4, 1, 1]) (.row [2, 1, 1])) = true := by kernel_rfl
set_option maxRecDepth 100000 in
theorem r29_14 : Go.Eng.isTrue (Go.Eng.twoRun Try.prog Go.Eng.noSums (⟨14, 16, 17, 43, 58⟩ : Go.Eng.Fns) 1000 60 9 (.row [4, 1, 1]) (.row [2, 1, 1, 1])) = true := by kernel_rfl
set_option maxRecDepth 100000 in
theorem r29_15 : Go.Eng.isTrue (Go.Eng.twoRun Try.prog Go.Eng.noSums (⟨14, 16, 17, 43, 58⟩ : Go.Eng.Fns) 1000 60 9 (.row [4, 1, 1]) (.row [2, 1, 1, 1, 1])) = true := by kernel_rfl
set_option maxRecDepth 100000 in
theorem r29_16 : Go.Eng.isTrue (Go.Eng.twoRun Try.prog Go.Eng.noSums (⟨14, 16, 17, 43, 58⟩ : Go.Eng.Fns) 1000 60 9 (.row [4, 1, 1]) (.row [2, 2])) = true := by kernel_rfl
set_option maxRecDepth 100000 in
theorem r29_17 : Go.Eng.isTrue (Go.Eng.twoRun Try.prog Go.Eng.noSums (⟨14, 16, 17, 43, 58⟩ : Go.Eng.Fns) 1000 60 9 (.row [4, 1, 1]) (.row [2, 2, 1])) = true := by kernel_rfl
set_option maxRecDepth 100000 in
theorem r29_18 : Go.Eng.isTrue (Go.Eng.twoRun Try.prog Go.Eng.noSums (⟨14, 16, 17, 43, 58⟩ : Go.Eng.Fns) 1000 60 9 (.row [4, 1, 1]) (.row [2, 2, 1, 1])) = true := by kernel_rfl
set_option maxRecDepth 100000 in
theorem r29_19 : Go.Eng.isTrue (Go.Eng.twoRun Try.prog Go.Eng.noSums (⟨14, 16, 17, 43, 58⟩ : Go.Eng.Fns) 1000 60 9 (.row [4, 1, 1]) (.row [2, 2, 2])) = true := by kernel_rfl
set_option maxRecDepth 100000 in
theorem r29_20 : Go.Eng.isTrue (Go.Eng.twoRun Try.prog Go.Eng.noSums (⟨14, 16, 17, 43, 58⟩ : Go.Eng.Fns) 1000 60 9 (.row [4, 1, 1]) (.row [3])) = true := by kernel_rfl
set_option maxRecDepth 100000 in
theorem r29_21 : Go.Eng.isTrue (Go.Eng.twoRun Try.prog Go.Eng.noSums (⟨14, 16, 17, 43, 58⟩ : Go.Eng.Fns) 1000 60 9 (.row [4, 1, 1]) (.row [3, 1])) = true := by kernel_rfl
set_option maxRecDepth 100000 in
theorem r29_22 : Go.Eng.isTrue (Go.Eng.twoRun Try.prog Go.Eng.noSums (⟨14, 16, 17, 43, 58⟩ : Go.Eng.Fns) 1000 60 9 (.row [4, 1, 1]) (.row [3, 1, 1])) = true := by kernel_rfl
set_option maxRecDepth 100000 in
theorem r29_23 : Go.Eng.isTrue (Go.Eng.twoRun Try.prog Go.Eng.noSums (⟨14, 16, 17, 43, 58⟩ : Go.Eng.Fns) 1000 60 9 (.row [4, 1, 1]) (.row [3, 1, 1, 1])) = true := by kernel_rfl
set_option maxRecDepth 100000 in
theorem r29_24 : Go.Eng.isTrue (Go.Eng.twoRun Try.prog Go.Eng.noSums (⟨14, 16, 17, 43, 58⟩ : Go.Eng.Fns) 1000 60 9 (.row [4, 1, 1]) (.row [3, 2])) = true := by kernel_rfl
set_option maxRecDepth 100000 in
theorem r29_25 : Go.Eng.isTrue (Go.Eng.twoRun Try.prog Go.Eng.noSums (⟨14, 16, 17, 43, 58⟩ : Go.Eng.Fns) 1000 60 9 (.row [4, 1, 1]) (.row [3, 2, 1])) = true := by kernel_rfl
set_option maxRecDepth 100000 in
theorem r29_26 : Go.Eng.isTrue (Go.Eng.twoRun Try.prog Go.Eng.noSums (⟨14, 16, 17, 43, 58⟩ : Go.Eng.Fns) 1000 60 9 (.row [4, 1, 1]) (.row [3, 3])) = true := by kernel_rfl
set_option maxRecDepth 100000 in
theorem r29_27 : Go.Eng.isTrue (Go.Eng.twoRun Try.prog Go.Eng.noSums (⟨14, 16, 17, 43, 58⟩ : Go.Eng.Fns) 1000 60 9 (.row [4, 1, 1]) (.row [4])) = true := by kernel_rfl
set_option maxRecDepth 100000 in
theorem r29_28 : Go.Eng.isTrue (Go.Eng.twoRun Try.prog Go.Eng.noSums (⟨14, 16, 17, 43, 58⟩ : Go.Eng.Fns) 1000 60 9 (.row [4, 1, 1]) (.row [4, 1])) = true := by kernel_rfl
set_option maxRecDepth 100000 in
theorem r29_29 : Go.Eng.isTrue (Go.Eng.twoRun Try.prog Go.Eng.noSums (⟨14, 16, 17, 43, 58⟩ : Go.Eng.Fns) 1000 60 9 (.row [4, 1, 1]) (.row [4, 1, 1])) = true := by kernel_rfl
set_option maxRecDepth 100000 in
theorem r29_30 : Go.Eng.isTrue (Go.Eng.twoRun Try.prog Go.Eng.noSums (⟨14, 16, 17, 43, 58⟩ : Go.Eng.Fns) 1000 60 9 (.row [4, 1, 1]) (.row [4, 2])) = true := by kernel_rfl
set_option maxRecDepth 100000 in
theorem r29_31 : Go.Eng.isTrue (Go.Eng.twoRun Try.prog Go.Eng.noSums (⟨14, 16, 17, 43, 58⟩ : Go.Eng.Fns) 1000 60 9 (.row [4, 1, 1]) (.row [5])) = true := by kernel_rfl
set_option maxRecDepth 100000 in
theorem r29_32 : Go.Eng.isTrue (Go.Eng.twoRun Try.prog Go.Eng.noSums (⟨14, 16, 17, 43, 58⟩ : Go.Eng.Fns) 1000 60 9 (.row [4, 1, 1]) (.row [5, 1])) = true := by kernel_rfl
set_option maxRecDepth 100000 in
theorem r29_33 : Go.Eng.isTrue (Go.Eng.twoRun Try.prog Go.Eng.noSums (⟨14, 16, 17, 43, 58⟩ : Go.Eng.Fns) 1000 60 9 (.row [4, 1, 1]) (.row [6])) = true := by kernel_rfl
theorem r29 : Go.Eng.AllL (fun c => Go.Eng.isTrue (Go.Eng.twoRun Try.prog Go.Eng.noSums (⟨14, 16, 17, 43, 58⟩ : Go.Eng.Fns) 1000 60 9 (.row [4, 1, 1]) c) = true) Go.Eng.classes := by
  unfold Go.Eng.classes
  rw [Go.Eng.shares_eq]
  exact ⟨r29_0, r29_1, r29_2, r29_3, r29_4, r29_5, r29_6, r29_7, r29_8, r29_9, r29_10, r29_11, r29_12, r29_13, r29_14, r29_15, r29_16, r29_17, r29_18, r29_19, r29_20, r29_21, r29_22, r29_23, r29_24, r29_25, r29_26, r29_27, r29_28, r29_29, r29_30, r29_31, r29_32, r29_33, trivial⟩
set_option maxRecDepth 100000 in
theorem r33_0 : Go.Eng.isTrue (Go.Eng.twoRun Try.prog Go.Eng.noSums (⟨14, 16, 17, 43, 58⟩ : Go.Eng.Fns) 1000 60 9 (.row [6]) .nil) = true := by kernel_rfl
set_option maxRecDepth 100000 in
theorem r33_1 : Go.Eng.isTrue (Go.Eng.twoRun Try.prog Go.Eng.noSums (⟨14, 16, 17, 43, 58⟩ : Go.Eng.Fns) 1000 60 9 (.row [6]) .zero) = true := by kernel_rfl
set_option maxRecDepth 100000 in
theorem r33_2 : Go.Eng.isTrue (Go.Eng.twoRun Try.prog Go.Eng.noSums (⟨14, 16, 17, 43, 58⟩ : Go.Eng.Fns) 1000 60 9 (.row [6]) .no) = true := by kernel_rfl
set_option maxRecDepth 100000 in
theorem r33_3 : Go.Eng.isTrue (Go.Eng.twoRun Try.prog Go.Eng.noSums (⟨14, 16, 17, 43, 58⟩ : Go.Eng.Fns) 1000 60 9 (.row [6]) .long) = true := by kernel_rfl
set_option maxRecDepth 100000 in
theorem r33_4 : Go.Eng.isTrue (Go.Eng.twoRun Try.prog Go.Eng.noSums (⟨14, 16, 17, 43, 58⟩ : Go.Eng.Fns) 1000 60 9 (.row [6]) (.row [])) = true := by kernel_rfl
set_option maxRecDepth 100000 in
theorem r33_5 : Go.Eng.isTrue (Go.Eng.twoRun Try.prog Go.Eng.noSums (⟨14, 16, 17, 43, 58⟩ : Go.Eng.Fns) 1000 60 9 (.row [6]) (.row [1])) = true := by kernel_rfl
set_option maxRecDepth 100000 in
theorem r33_6 : Go.Eng.isTrue (Go.Eng.twoRun Try.prog Go.Eng.noSums (⟨14, 16, 17, 43, 58⟩ : Go.Eng.Fns) 1000 60 9 (.row [6]) (.row [1, 1])) = true := by kernel_rfl
set_option maxRecDepth 100000 in
theorem r33_7 : Go.Eng.isTrue (Go.Eng.twoRun Try.prog Go.Eng.noSums (⟨14, 16, 17, 43, 58⟩ : Go.Eng.Fns) 1000 60 9 (.row [6]) (.row [1, 1, 1])) = true := by kernel_rfl
set_option maxRecDepth 100000 in
theorem r33_8 : Go.Eng.isTrue (Go.Eng.twoRun Try.prog Go.Eng.noSums (⟨14, 16, 17, 43, 58⟩ : Go.Eng.Fns) 1000 60 9 (.row [6]) (.row [1, 1, 1, 1])) = true := by kernel_rfl
set_option maxRecDepth 100000 in
theorem r33_9 : Go.Eng.isTrue (Go.Eng.twoRun Try.prog Go.Eng.noSums (⟨14, 16, 17, 43, 58⟩ : Go.Eng.Fns) 1000 60 9 (.row [6]) (.row [1, 1, 1, 1, 1])) = true := by kernel_rfl
set_option maxRecDepth 100000 in
theorem r33_10 : Go.Eng.isTrue (Go.Eng.twoRun Try.prog Go.Eng.noSums (⟨14, 16, 17, 43, 58⟩ : Go.Eng.Fns) 1000 60 9 (.row [6]) (.row [1, 1, 1, 1, 1, 1])) = true := by kernel_rfl
set_option maxRecDepth 100000 in
theorem r33_11 : Go.Eng.isTrue (Go.Eng.twoRun Try.prog Go.Eng.noSums (⟨14, 16, 17, 43, 58⟩ : Go.Eng.Fns) 1000 60 9 (.row [6]) (.row [2])) = true := by kernel_rfl
set_option maxRecDepth 100000 in
theorem r33_12 : Go.Eng.isTrue (Go.Eng.twoRun Try.prog Go.Eng.noSums (⟨14, 16, 17, 43, 58⟩ : Go.Eng.Fns) 1000 60 9 (.row [6]) (.row [2, 1])) = true := by kernel_rfl
set_option maxRecDepth 100000 in
theorem r33_13 : Go.Eng.isTrue (Go.Eng.twoRun Try.prog Go.Eng.noSums (⟨14, 16, 17, 43, 58⟩ : Go.Eng.Fns) 1000 60 9 (.row [6]) (.row [2, 1, 1])) = true := by kernel_rfl
set_option maxRecDepth 100000 in
theorem r33_14 : Go.Eng.isTrue (Go.Eng.twoRun Try.prog Go.Eng.noSums (⟨14, 16, 17, 43, 58⟩ : Go.Eng.Fns) 1000 60 9 (.row [6]) (.row [2, 1, 1, 1])) = true := by kernel_rfl
set_option maxRecDepth 100000 in
theorem r33_15 : Go.Eng.isTrue (Go.Eng.twoRun Try.prog Go.Eng.noSums (⟨14, 16, 17, 43, 58⟩ : Go.Eng.Fns) 1000 60 9 (.row [6]) (.row [2, 1, 1, 1, 1])) = true := by kernel_rfl
set_option maxRecDepth 100000 in
theorem r33_16 : Go.Eng.isTrue (Go.Eng.twoRun Try.prog Go.Eng.noSums (⟨14, 16, 17, 43, 58⟩ : Go.Eng.Fns) 1000 60 9 (.row [6]) (.row [2, 2])) = true := by kernel_rfl
set_option maxRecDepth 100000 in
theorem r33_17 : Go.Eng.isTrue (Go.Eng.twoRun Try.prog Go.Eng.noSums (⟨14, 16, 17, 43, 58⟩ : Go.Eng.Fns) 1000 60 9 (.row [6]) (.row [2, 2, 1])) = true := by kernel_rfl
set_option maxRecDepth 100000 in
theorem r33_18 : Go.Eng.isTrue (Go.Eng.twoRun Try.prog Go.Eng.noSums (⟨14, 16, 17, 43, 58⟩ : Go.Eng.Fns) 1000 60 9 (.row [6]) (.row [2, 2, 1, 1])) = true := by kernel_rfl
set_option maxRecDepth 100000 in
theorem r33_19 : Go.Eng.isTrue (Go.Eng.twoRun Try.prog Go.Eng.noSums (⟨14, 16, 17, 43, 58⟩ : Go.Eng.Fns) 1000 60 9 (.row [6]) (.row [2, 2, 2])) = true := by kernel_rfl
set_option maxRecDepth 100000 in
theorem r33_20 : Go.Eng.isTrue (Go.Eng.twoRun Try.prog Go.Eng.noSums (⟨14, 16, 17, 43, 58⟩ : Go.Eng.Fns) 1000 60 9 (.row [6]) (.row [3])) = true := by kernel_rfl
set_option maxRecDepth 100000 in
theorem r33_21 : Go.Eng.isTrue (Go.Eng.twoRun Try.prog Go.Eng.noSums (⟨14, 16, 17, 43, 58⟩ : Go.Eng.Fns) 1000 60 9 (.row [6]) (.row [3, 1])) = true := by kernel_rfl
set_option maxRecDepth 100000 in
theorem r33_22 : Go.Eng.isTrue (Go.Eng.twoRun Try.prog Go.Eng.noSums (⟨14, 16, 17, 43, 58⟩ : Go.Eng.Fns) 1000 60 9 (.row [6]) (.row [3, 1, 1])) = true := by kernel_rfl
set_option maxRecDepth 100000 in
theorem r33_23 : Go.Eng.isTrue (Go.Eng.twoRun Try.prog Go.Eng.noSums (⟨14, 16, 17, 43, 58⟩ : Go.Eng.Fns) 1000 60 9 (.row [6]) (.row [3, 1, 1, 1])) = true := by kernel_rfl
set_option maxRecDepth 100000 in
theorem r33_24 : Go.Eng.isTrue (Go.Eng.twoRun Try.prog Go.Eng.noSums (⟨14, 16, 17, 43, 58⟩ : Go.Eng.Fns) 1000 60 9 (.row [6]) (.row [3, 2])) = true := by kernel_rfl
set_option maxRecDepth 100000 in
theorem r33_25 : Go.Eng.isTrue (Go.Eng.twoRun Try.prog Go.Eng.noSums (⟨14, 16, 17, 43, 58⟩ : Go.Eng.Fns) 1000 60 9 (.row [6]) (.row [3, 2, 1])) = true := by kernel_rfl
set_option maxRecDepth 100000 in
theorem r33_26 : Go.Eng.isTrue (Go.Eng.twoRun Try.prog Go.Eng.noSums (⟨14, 16, 17, 43, 58⟩ : Go.Eng.Fns) 1000 60 9 (.row [6]) (.row [3, 3])) = true := by kernel_rfl
set_option maxRecDepth 100000 in
theorem r33_27 : Go.Eng.isTrue (Go.Eng.twoRun Try.prog Go.Eng.noSums (⟨14, 16, 17, 43, 58⟩ : Go.Eng.Fns) 1000 60 9 (.row [6]) (.row [4])) = true := by kernel_rfl
set_option maxRecDepth 100000 in
theorem r33_28 : Go.Eng.isTrue (Go.Eng.twoRun Try.prog Go.Eng.noSums (⟨14, 16, 17, 43, 58⟩ : Go.Eng.Fns) 1000 60 9 (.row [6]) (.row [4, 1])) = true := by kernel_rfl
set_option maxRecDepth 100000 in
theorem r33_29 : Go.Eng.isTrue (Go.Eng.twoRun Try.prog Go.Eng.noSums (⟨14, 16, 17, 43, 58⟩ : Go.Eng.Fns) 1000 60 9 (.row [6]) (.row [4, 1, 1])) = true := by kernel_rfl
set_option maxRecDepth 100000 in
theorem r33_30 : Go.Eng.isTrue (Go.Eng.twoRun Try.prog Go.Eng.noSums (⟨14, 16, 17, 43, 58⟩ : Go.Eng.Fns) 1000 60 9 (.row [6]) (.row [4, 2])) = true := by kernel_rfl
set_option maxRecDepth 100000 in
theorem r33_31 : Go.Eng.isTrue (Go.Eng.twoRun Try.prog Go.Eng.noSums (⟨14, 16, 17, 43, 58⟩ : Go.Eng.Fns) 1000 60 9 (.row [6]) (.row [5])) = true := by kernel_rfl
set_option maxRecDepth 100000 in
theorem r33_32 : Go.Eng.isTrue (Go.Eng.twoRun Try.prog Go.Eng.noSums (⟨14, 16, 17, 43, 58⟩ : Go.Eng.Fns) 1000 60 9 (.row [6]) (.row [5, 1])) = true := by kernel_rfl
set_option maxRecDepth 100000 in
theorem r33_33 : Go.Eng.isTrue (Go.Eng.twoRun Try.prog Go.Eng.noSums (⟨14, 16, 17, 43, 58⟩ : Go.Eng.Fns) 1000 60 9 (.row [6]) (.row [6])) = true := by kernel_rfl
theorem r33 : Go.Eng.AllL (fun c => Go.Eng.isTrue (Go.Eng.twoRun Try.prog Go.Eng.noSums (⟨14, 16, 17, 43, 58⟩ : Go.Eng.Fns) 1000 60 9 (.row [6]) c) = true) Go.Eng.classes := by
  unfold Go.Eng.classes
  rw [Go.Eng.shares_eq]
  exact ⟨r33_0, r33_1, r33_2, r33_3, r33_4, r33_5, r33_6, r33_7, r33_8, r33_9, r33_10, r33_11, r33_12, r33_13, r33_14, r33_15, r33_16, r33_17, r33_18, r33_19, r33_20, r33_21, r33_22, r33_23, r33_24, r33_25, r33_26, r33_27, r33_28, r33_29, r33_30, r33_31, r33_32, r33_33, trivial⟩
end Go.Proofs.Ytcjemdcffmfloaa.fnExactRestSumRuns
