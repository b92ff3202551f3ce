/- The runs of FnExactRestSum, part 3. -/
import Derived.Test.YtcjemdcffmfloaaEngZb
import Derived.Test.YtcjemdcffmfloaaProg
namespace Go.Proofs.Ytcjemdcffmfloaa.fnExactRestSumRuns
set_option linter.unusedVariables false
set_option linter.unusedSectionVars false
set_option linter.unusedSimpArgs false
set_option maxRecDepth 100000 in
theorem r3_0 : Go.Eng.isTrue (Go.Eng.twoRun Try.prog Go.Eng.noSums (⟨14, 16, 17, 43, 58⟩ : Go.Eng.Fns) 1000 60 9 .long .nil) = true := by kernel_rfl
set_option maxRecDepth 100000 in
theorem r3_1 : Go.Eng.isTrue (Go.Eng.twoRun Try.prog Go.Eng.noSums (⟨14, 16, 17, 43, 58⟩ : Go.Eng.Fns) 1000 60 9 .long .zero) = true := by kernel_rfl
set_option maxRecDepth 100000 in
theorem r3_2 : Go.Eng.isTrue (Go.Eng.twoRun Try.prog Go.Eng.noSums (⟨14, 16, 17, 43, 58⟩ : Go.Eng.Fns) 1000 60 9 .long .no) = true := by kernel_rfl
set_option maxRecDepth 100000 in
theorem r3_3 : Go.Eng.isTrue (Go.Eng.twoRun Try.prog Go.Eng.noSums (⟨14, 16, 17, 43, 58⟩ : Go.Eng.Fns) 1000 60 9 .long .long) = true := by kernel_rfl
set_option maxRecDepth 100000 in
theorem r3_4 : Go.Eng.isTrue (Go.Eng.twoRun Try.prog Go.Eng.noSums (⟨14, 16, 17, 43, 58⟩ : Go.Eng.Fns) 1000 60 9 .long (.row [])) = true := by kernel_rfl
set_option maxRecDepth 100000 in
theorem r3_5 : Go.Eng.isTrue (Go.Eng.twoRun Try.prog Go.Eng.noSums (⟨14, 16, 17, 43, 58⟩ : Go.Eng.Fns) 1000 60 9 .long (.row [1])) = true := by kernel_rfl
set_option maxRecDepth 100000 in
theorem r3_6 : Go.Eng.isTrue (Go.Eng.twoRun Try.prog Go.Eng.noSums (⟨14, 16, 17, 43, 58⟩ : Go.Eng.Fns) 1000 60 9 .long (.row [1, 1])) = true := by kernel_rfl
set_option maxRecDepth 100000 in
theorem r3_7 : Go.Eng.isTrue (Go.Eng.twoRun Try.prog Go.Eng.noSums (⟨14, 16, 17, 43, 58⟩ : Go.Eng.Fns) 1000 60 9 .long (.row [1, 1, 1])) = true := by kernel_rfl
set_option maxRecDepth 100000 in
theorem r3_8 : Go.Eng.isTrue (Go.Eng.twoRun Try.prog Go.Eng.noSums (⟨14, 16, 17, 43, 58⟩ : Go.Eng.Fns) 1000 60 9 .long (.row [1, 1, 1, 1])) = true := by kernel_rfl
set_option maxRecDepth 100000 in
theorem r3_9 : Go.Eng.isTrue (Go.Eng.twoRun Try.prog Go.Eng.noSums (⟨14, 16, 17, 43, 58⟩ : Go.Eng.Fns) 1000 60 9 .long (.row [1, 1, 1, 1, 1])) = true := by kernel_rfl
set_option maxRecDepth 100000 in
theorem r3_10 : Go.Eng.isTrue (Go.Eng.twoRun Try.prog Go.Eng.noSums (⟨14, 16, 17, 43, 58⟩ : Go.Eng.Fns) 1000 60 9 .long (.row [1, 1, 1, 1, 1, 1])) = true := by kernel_rfl
set_option maxRecDepth 100000 in
theorem r3_11 : Go.Eng.isTrue (Go.Eng.twoRun Try.prog Go.Eng.noSums (⟨14, 16, 17, 43, 58⟩ : Go.Eng.Fns) 1000 60 9 .long (.row [2])) = true := by kernel_rfl
set_option maxRecDepth 100000 in
theorem r3_12 : Go.Eng.isTrue (Go.Eng.twoRun Try.prog Go.Eng.noSums (⟨14, 16, 17, 43, 58⟩ : Go.Eng.Fns) 1000 60 9 .long (.row [2, 1])) = true := by kernel_rfl
set_option maxRecDepth 100000 in
theorem r3_13 : Go.Eng.isTrue (Go.Eng.twoRun Try.prog Go.Eng.noSums (⟨14, 16, 17, 43, 58⟩ : Go.Eng.Fns) 1000 60 9 .long (.row [2, 1, 1])) = true := by kernel_rfl
set_option maxRecDepth 100000 in
theorem r3_14 : Go.Eng.isTrue (Go.Eng.twoRun Try.prog Go.Eng.noSums (⟨14, 16, 17, 43, 58⟩ : Go.Eng.Fns) 1000 60 9 .long (.row [2, 1, 1, 1])) = true := by kernel_rfl
set_option maxRecDepth 100000 in
theorem r3_15 : Go.Eng.isTrue (Go.Eng.twoRun Try.prog Go.Eng.noSums (⟨14, 16, 17, 43, 58⟩ : Go.Eng.Fns) 1000 60 9 .long (.row [2, 1, 1, 1, 1])) = true := by kernel_rfl
set_option maxRecDepth 100000 in
theorem r3_16 : Go.Eng.isTrue (Go.Eng.twoRun Try.prog Go.Eng.noSums (⟨14, 16, 17, 43, 58⟩ : Go.Eng.Fns) 1000 60 9 .long (.row [2, 2])) = true := by kernel_rfl
set_option maxRecDepth 100000 in
theorem r3_17 : Go.Eng.isTrue (Go.Eng.twoRun Try.prog Go.Eng.noSums (⟨14, 16, 17, 43, 58⟩ : Go.Eng.Fns) 1000 60 9 .long (.row [2, 2, 1])) = true := by kernel_rfl
set_option maxRecDepth 100000 in
theorem r3_18 : Go.Eng.isTrue (Go.Eng.twoRun Try.prog Go.Eng.noSums (⟨14, 16, 17, 43, 58⟩ : Go.Eng.Fns) 1000 60 9 .long (.row [2, 2, 1, 1])) = true := by kernel_rfl
set_option maxRecDepth 100000 in
theorem r3_19 : Go.Eng.isTrue (Go.Eng.twoRun Try.prog Go.Eng.noSums (⟨14, 16, 17, 43, 58⟩ : Go.Eng.Fns) 1000 60 9 .long (.row [2, 2, 2])) = true := by kernel_rfl
set_option maxRecDepth 100000 in
theorem r3_20 : Go.Eng.isTrue (Go.Eng.twoRun Try.prog Go.Eng.noSums (⟨14, 16, 17, 43, 58⟩ : Go.Eng.Fns) 1000 60 9 .long (.row [3])) = true := by kernel_rfl
set_option maxRecDepth 100000 in
theorem r3_21 : Go.Eng.isTrue (Go.Eng.twoRun Try.prog Go.Eng.noSums (⟨14, 16, 17, 43, 58⟩ : Go.Eng.Fns) 1000 60 9 .long (.row [3, 1])) = true := by kernel_rfl
set_option maxRecDepth 100000 in
theorem r3_22 : Go.Eng.isTrue (Go.Eng.twoRun Try.prog Go.Eng.noSums (⟨14, 16, 17, 43, 58⟩ : Go.Eng.Fns) 1000 60 9 .long (.row [3, 1, 1])) = true := by kernel_rfl
set_option maxRecDepth 100000 in
theorem r3_23 : Go.Eng.isTrue (Go.Eng.twoRun Try.prog Go.Eng.noSums (⟨14, 16, 17, 43, 58⟩ : Go.Eng.Fns) 1000 60 9 .long (.row [3, 1, 1, 1])) = true := by kernel_rfl
set_option maxRecDepth 100000 in
theorem r3_24 : Go.Eng.isTrue (Go.Eng.twoRun Try.prog Go.Eng.noSums (⟨14, 16, 17, 43, 58⟩ : Go.Eng.Fns) 1000 60 9 .long (.row [3, 2])) = true := by kernel_rfl
set_option maxRecDepth 100000 in
theorem r3_25 : Go.Eng.isTrue (Go.Eng.twoRun Try.prog Go.Eng.noSums (⟨14, 16, 17, 43, 58⟩ : Go.Eng.Fns) 1000 60 9 .long (.row [3, 2, 1])) = true := by kernel_rfl
set_option maxRecDepth 100000 in
theorem r3_26 : Go.Eng.isTrue (Go.Eng.twoRun Try.prog Go.Eng.noSums (⟨14, 16, 17, 43, 58⟩ : Go.Eng.Fns) 1000 60 9 .long (.row [3, 3])) = true := by kernel_rfl
set_option maxRecDepth 100000 in
theorem r3_27 : Go.Eng.isTrue (Go.Eng.twoRun Try.prog Go.Eng.noSums (⟨14, 16, 17, 43, 58⟩ : Go.Eng.Fns) 1000 60 9 .long (.row [4])) = true := by kernel_rfl
set_option maxRecDepth 100000 in
theorem r3_28 : Go.Eng.isTrue (Go.Eng.twoRun Try.prog Go.Eng.noSums (⟨14, 16, 17, 43, 58⟩ : Go.Eng.Fns) 1000 60 9 .long (.row [4, 1])) = true := by kernel_rfl
set_option maxRecDepth 100000 in
theorem r3_29 : Go.Eng.isTrue (Go.Eng.twoRun Try.prog Go.Eng.noSums (⟨14, 16, 17, 43, 58⟩ : Go.Eng.Fns) 1000 60 9 .long (.row [4, 1, 1])) = true := by kernel_rfl
set_option maxRecDepth 100000 in
theorem r3_30 : Go.Eng.isTrue (Go.Eng.twoRun Try.prog Go.Eng.noSums (⟨14, 16, 17, 43, 58⟩ : Go.Eng.Fns) 1000 60 9 .long (.row [4, 2])) = true := by kernel_rfl
set_option maxRecDepth 100000 in
theorem r3_31 : Go.Eng.isTrue (Go.Eng.twoRun Try.prog Go.Eng.noSums (⟨14, 16, 17, 43, 58⟩ : Go.Eng.Fns) 1000 60 9 .long (.row [5])) = true := by kernel_rfl
set_option maxRecDepth 100000 in
theorem r3_32 : Go.Eng.isTrue (Go.Eng.twoRun Try.prog Go.Eng.noSums (⟨14, 16, 17, 43, 58⟩ : Go.Eng.Fns) 1000 60 9 .long (.row [5, 1])) = true := by kernel_rfl
set_option maxRecDepth 100000 in
theorem r3_33 : Go.Eng.isTrue (Go.Eng.twoRun Try.prog Go.Eng.noSums (⟨14, 16, 17, 43, 58⟩ : Go.Eng.Fns) 1000 60 9 .long (.row [6])) = true := by kernel_rfl
theorem r3 : Go.Eng.AllL (fun c => Go.Eng.isTrue (Go.Eng.twoRun Try.prog Go.Eng.noSums (⟨14, 16, 17, 43, 58⟩ : Go.Eng.Fns) 1000 60 9 .long c) = true) Go.Eng.classes := by
  unfold Go.Eng.classes
  rw [Go.Eng.shares_eq]
  exact ⟨r3_0, r3_1, r3_2, r3_3, r3_4, r3_5, r3_6, r3_7, r3_8, r3_9, r3_10, r3_11, r3_12, r3_13, r3_14, r3_15, r3_16, r3_17, r3_18, r3_19, r3_20, r3_21, r3_22, r3_23, r3_24, r3_25, r3_26, r3_27, r3_28, r3_29, r3_30, r3_31, r3_32, r3_33, trivial⟩
set_option maxRecDepth 100000 in
theorem r7_0 : Go.Eng.isTrue (Go.Eng.twoRun Try.prog Go.Eng.noSums (⟨14, 16, 17, 43, 58⟩ : Go.Eng.Fns) 1000 60 9 (.row [1, 1, 1]) .nil) = true := by kernel_rfl
set_option maxRecDepth 100000 in
theorem r7_1 : Go.Eng.isTrue (Go.Eng.twoRun Try.prog Go.Eng.noSums (⟨14, 16, 17, 43, 58⟩ : Go.Eng.Fns) 1000 60 9 (.row [1, 1, 1]) .zero) = true := by kernel_rfl
set_option maxRecDepth 100000 in
theorem r7_2 : Go.Eng.isTrue (Go.Eng.twoRun Try.prog Go.Eng.noSums (⟨14, 16, 17, 43, 58⟩ : Go.Eng.Fns) 1000 60 9 (.row [1, 1, 1]) .no) = true := by kernel_rfl
set_option maxRecDepth 100000 in
theorem r7_3 : Go.Eng.isTrue (Go.Eng.twoRun Try.prog Go.Eng.noSums (⟨14, 16, 17, 43, 58⟩ : Go.Eng.Fns) 1000 60 9 (.row [1, 1, 1]) .long) = true := by kernel_rfl
set_option maxRecDepth 100000 in
theorem r7_4 : Go.Eng.isTrue (Go.Eng.twoRun Try.prog Go.Eng.noSums (⟨14, 16, 17, 43, 58⟩ : Go.Eng.Fns) 1000 60 9 (.row [1, 1, 1]) (.row [])) = true := by kernel_rfl
set_option maxRecDepth 100000 in
theorem r7_5 : Go.Eng.isTrue (Go.Eng.twoRun Try.prog Go.Eng.noSums (⟨14, 16, 17, 43, 58⟩ : Go.Eng.Fns) 1000 60 9 (.row [1, 1, 1]) (.row [1])) = true := by kernel_rfl
set_option maxRecDepth 100000 in
theorem r7_6 : Go.Eng.isTrue (Go.Eng.twoRun Try.prog Go.Eng.noSums (⟨14, 16, 17, 43, 58⟩ : Go.Eng.Fns) 1000 60 9 (.row [1, 1, 1]) (.row [1, 1])) = true := by kernel_rfl
set_option maxRecDepth 100000 in
theorem r7_7 : Go.Eng.isTrue (Go.Eng.twoRun Try.prog Go.Eng.noSums (⟨14, 16, 17, 43, 58⟩ : Go.Eng.Fns) 1000 60 9 (.row [1, 1, 1]) (.row [1, 1, 1])) = true := by kernel_rfl
set_option maxRecDepth 100000 in
theorem r7_8 : Go.Eng.isTrue (Go.Eng.twoRun Try.prog Go.Eng.noSums (⟨14, 16, 17, 43, 58⟩ : Go.Eng.Fns) 1000 60 9 (.row [1, 1, 1]) (.row [1, 1, 1, 1])) = true := by kernel_rfl
set_option maxRecDepth 100000 in
theorem r7_9 : Go.Eng.isTrue (Go.Eng.twoRun Try.prog Go.Eng.noSums (⟨14, 16, 17, 43, 58⟩ : Go.Eng.Fns) 1000 60 9 (.row [1, 1, 1]) (.row [1, 1, 1, 1, 1])) = true := by kernel_rfl
set_option maxRecDepth 100000 in
theorem r7_10 : Go.Eng.isTrue (Go.Eng.twoRun Try.prog Go.Eng.noSums (⟨14, 16, 17, 43, 58⟩ : Go.Eng.Fns) 1000 60 9 (.row [1, 1, 1]) (.row [1, 1, 1, 1, 1, 1])) = true := by kernel_rfl
set_option maxRecDepth 100000 in
theorem r7_11 : Go.Eng.isTrue (Go.Eng.twoRun Try.prog Go.Eng.noSums (⟨14, 16, 17, 43, 58⟩ : Go.Eng.Fns) 1000 60 9 (.row [1, 1, 1]) (.row [2])) = true := by kernel_rfl
set_option maxRecDepth 100000 in
theorem r7_12 : Go.Eng.isTrue (Go.Eng.twoRun Try.prog Go.Eng.noSums (⟨14, 16, 17, 43, 58⟩ : Go.Eng.Fns) 1000 60 9 (.row [1, 1, 1]) (.row [2, 1])) = true := by kernel_rfl
set_option maxRecDepth 100000 in
theorem r7_13 : Go.Eng.isTrue (Go.Eng.twoRun Try.prog Go.Eng.noSums (⟨14, 16, 17, 43, 58⟩ : Go.Eng.Fns) 1000 60 9 (.row [1, 1, 1]) (.row [2, 1, 1])) = true := by kernel_rfl
set_option maxRecDepth 100000 in
theorem r7_14 : Go.Eng.isTrue (Go.Eng.twoRun Try.prog Go.Eng.noSums (⟨14, 16, 17, 43, 58⟩ : Go.Eng.Fns) 1000 60 9 (.row [1, 1, 1]) (.row [2, 1, 1, 1])) = true := by kernel_rfl
set_option maxRecDepth 100000 in
theorem r7_15 : Go.Eng.isTrue (Go.Eng.twoRun Try.prog Go.Eng.noSums (⟨14, 16, 17, 43, 58⟩ : Go.Eng.Fns) 1000 60 9 (.row [1, 1, 1]) (.row [2, 1, 1, 1, 1])) = true := by kernel_rfl
set_option maxRecDepth 100000 in
theorem r7_16 : Go.Eng.isTrue (Go.Eng.twoRun Try.prog Go.Eng.noSums (⟨14, 16, 17, 43, 58⟩ : Go.Eng.Fns) 1000 60 9 (.row [1, 1, 1]) (.row [2, 2])) = true := by kernel_rfl
set_option maxRecDepth 100000 in
theorem r7_17 : Go.Eng.isTrue (Go.Eng.twoRun Try.prog Go.Eng.noSums (⟨14, 16, 17, 43, 58⟩ : Go.Eng.Fns) 1000 60 9 (.row [1, 1, 1]) (.row [2, 2, 1])) = true := by kernel_rfl
set_option maxRecDepth 100000 in
theorem r7_18 : Go.Eng.isTrue (Go.Eng.twoRun Try.prog Go.Eng.noSums (⟨14, 16, 17, 43, 58⟩ : Go.Eng.Fns) 1000 60 9 (.row [1, 1, 1]) (.row [2, 2, 1, 1])) = true := by kernel_rfl
set_option maxRecDepth 100000 in
theorem r7_19 : Go.Eng.isTrue (Go.Eng.twoRun Try.prog Go.Eng.noSums (⟨14, 16, 17, 43, 58⟩ : Go.Eng.Fns) 1000 60 9 (.row [1, 1, 1]) (.row [2, 2, 2])) = true := by kernel_rfl
set_option maxRecDepth 100000 in
theorem r7_20 : Go.Eng.isTrue (Go.Eng.twoRun Try.prog Go.Eng.noSums (⟨14, 16, 17, 43, 58⟩ : Go.Eng.Fns) 1000 60 9 (.row [1, 1, 1]) (.row [3])) = true := by kernel_rfl
set_option maxRecDepth 100000 in
theorem r7_21 : Go.Eng.isTrue (Go.Eng.twoRun Try.prog Go.Eng.noSums (⟨14, 16, 17, 43, 58⟩ : Go.Eng.Fns) 1000 60 9 (.row [1, 1, 1]) (.row [3, 1])) = true := by kernel_rfl
set_option maxRecDepth 100000 in
theorem r7_22 : Go.Eng.isTrue (Go.Eng.twoRun Try.prog Go.Eng.noSums (⟨14, 16, 17, 43, 58⟩ : Go.Eng.Fns) 1000 60 9 (.row [1, 1, 1]) (.row [3, 1, 1])) = true := by kernel_rfl
set_option maxRecDepth 100000 in
theorem r7_23 : Go.Eng.isTrue (Go.Eng.twoRun Try.prog Go.Eng.noSums (⟨14, 16, 17, 43, 58⟩ : Go.Eng.Fns) 1000 60 9 (.row [1, 1, 1]) (.row [3, 1, 1, 1])) = true := by kernel_rfl
set_option maxRecDepth 100000 in
theorem r7_24 : Go.Eng.isTrue (Go.Eng.twoRun Try.prog Go.Eng.noSums (⟨14, 16, 17, 43, 58⟩ : Go.Eng.Fns) 1000 60 9 (.row [1, 1, 1]) (.row [3, 2])) = true := by kernel_rfl
set_option maxRecDepth 100000 in
theorem r7_25 : Go.Eng.isTrue (Go.Eng.twoRun Try.prog Go.Eng.noSums (⟨14, 16, 17, 43, 58⟩ : Go.Eng.Fns) 1000 60 9 (.row [1, 1, 1]) (.row [3, 2, 1])) = true := by kernel_rfl
set_option maxRecDepth 100000 in
theorem r7_26 : Go.Eng.isTrue (Go.Eng.twoRun Try.prog Go.Eng.noSums (⟨14, 16, 17, 43, 58⟩ : Go.Eng.Fns) 1000 60 9 (.row [1, 1, 1]) (.row [3, 3])) = true := by kernel_rfl
set_option maxRecDepth 100000 in
theorem r7_27 : Go.Eng.isTrue (Go.Eng.twoRun Try.prog Go.Eng.noSums (⟨14, 16, 17, 43, 58⟩ : Go.Eng.Fns) 1000 60 9 (.row [1, 1, 1]) (.row [4])) = true := by kernel_rfl
set_option maxRecDepth 100000 in
theorem r7_28 : Go.Eng.isTrue (Go.Eng.twoRun Try.prog Go.Eng.noSums (⟨14, 16, 17, 43, 58⟩ : Go.Eng.Fns) 1000 60 9 (.row [1, 1, 1]) (.row [4, 1])) = true := by kernel_rfl
set_option maxRecDepth 100000 in
theorem r7_29 : Go.Eng.isTrue (Go.Eng.twoRun Try.prog Go.Eng.noSums (⟨14, 16, 17, 43, 58⟩ : Go.Eng.Fns) 1000 60 9 (.row [1, 1, 1]) (.row [4, 1, 1])) = true := by kernel_rfl
set_option maxRecDepth 100000 in
theorem r7_30 : Go.Eng.isTrue (Go.Eng.twoRun Try.prog Go.Eng.noSums (⟨14, 16, 17, 43, 58⟩ : Go.Eng.Fns) 1000 60 9 (.row [1, 1, 1]) (.row [4, 2])) = true := by kernel_rfl
set_option maxRecDepth 100000 in
theorem r7_31 : Go.Eng.isTrue (Go.Eng.twoRun Try.prog Go.Eng.noSums (⟨14, 16, 17, 43, 58⟩ : Go.Eng.Fns) 1000 60 9 (.row [1, 1, 1]) (.row [5])) = true := by kernel_rfl
set_option maxRecDepth 100000 in
theorem r7_32 : Go.Eng.isTrue (Go.Eng.twoRun Try.prog Go.Eng.noSums (⟨14, 16, 17, 43, 58⟩ : Go.Eng.Fns) 1000 60 9 (.row [1, 1, 1]) (.row [5, 1])) = true := by kernel_rfl
set_option maxRecDepth 100000 in
theorem r7_33 : Go.Eng.isTrue (Go.Eng.twoRun Try.prog Go.Eng.noSums (⟨14, 16, 17, 43, 58⟩ : Go.Eng.Fns) 1000 60 9 (.row [1, 1, 1]) (.row [6])) = true := by kernel_rfl
theorem r7 : Go.Eng.AllL (fun c => Go.Eng.isTrue (Go.Eng.twoRun Try.prog Go.Eng.noSums (⟨14, 16, 17, 43, 58⟩ : Go.Eng.Fns) 1000 60 9 (.row [1, 1, 1]) c) = true) Go.Eng.classes := by
  unfold Go.Eng.classes
  rw [Go.Eng.shares_eq]
  exact ⟨r7_0, r7_1, r7_2, r7_3, r7_4, r7_5, r7_6, r7_7, r7_8, r7_9, r7_10, r7_11, r7_12, r7_13, r7_14, r7_15, r7_16, r7_17, r7_18, r7_19, r7_20, r7_21, r7_22, r7_23, r7_24, r7_25, r7_26, r7_27, r7_28, r7_29, r7_30, r7_31, r7_32, r7_33, trivial⟩
set_option maxRecDepth 100000 in
theorem r11_0 : Go.Eng.isTrue (Go.Eng.twoRun Try.prog Go.Eng.noSums (⟨14, 16, 17, 43, 58⟩ : Go.Eng.Fns) 1000 60 9 (.row [2]) .nil) = true := by kernel_rfl
set_option maxRecDepth 100000 in
theorem r11_1 : Go.Eng.isTrue (Go.Eng.twoRun Try.prog Go.Eng.noSums (⟨14, 16, 17, 43, 58⟩ : Go.Eng.Fns) 1000 60 9 (.row [2]) .zero) = true := by kernel_rfl
set_option maxRecDepth 100000 in
theorem r11_2 : Go.Eng.isTrue (Go.Eng.twoRun Try.prog Go.Eng.noSums (⟨14, 16, 17, 43, 58⟩ : Go.Eng.Fns) 1000 60 9 (.row [2]) .no) = true := by kernel_rfl
set_option maxRecDepth 100000 in
theorem r11_3 : Go.Eng.isTrue (Go.Eng.twoRun Try.prog Go.Eng.noSums (⟨14, 16, 17, 43, 58⟩ : Go.Eng.Fns) 1000 60 9 (.row [2]) .long) = true := by kernel_rfl
set_option maxRecDepth 100000 in
theorem r11_4 : Go.Eng.isTrue (Go.Eng.twoRun Try.prog Go.Eng.noSums (⟨14, 16, 17, 43, 58⟩ : Go.Eng.Fns) 1000 60 9 (.row [2]) (.row [])) = true := by kernel_rfl
set_option maxRecDepth 100000 in
theorem r11_5 : Go.Eng.isTrue (Go.Eng.twoRun Try.prog Go.Eng.noSums (⟨14, 16, 17, 43, 58⟩ : Go.Eng.Fns) 1000 60 9 (.row [2]) (.row [1])) = true := by kernel_rfl
set_option maxRecDepth 100000 in
theorem r11_6 : Go.Eng.isTrue (Go.Eng.twoRun Try.prog Go.Eng.noSums (⟨14, 16, 17, 43, 58⟩ : Go.Eng.Fns) 1000 60 9 (.row [2]) (.row [1, 1])) = true := by kernel_rfl
set_option maxRecDepth 100000 in
theorem r11_7 : Go.Eng.isTrue (Go.Eng.twoRun Try.prog Go.Eng.noSums (⟨14, 16, 17, 43, 58⟩ : Go.Eng.Fns) 1000 60 9 (.row [2]) (.row [1, 1, 1])) = true := by kernel_rfl
set_option maxRecDepth 100000 in
theorem r11_8 : Go.Eng.isTrue (Go.Eng.twoRun Try.prog Go.Eng.noSums (⟨14, 16, 17, 43, 58⟩ : Go.Eng.Fns) 1000 60 9 (.row [2]) (.row [1, 1, 1, 1])) = true := by kernel_rfl
set_option maxRecDepth 100000 in
theorem r11_9 : Go.Eng.isTrue (Go.Eng.twoRun Try.prog Go.Eng.noSums (⟨14, 16, 17, 43, 58⟩ : Go.Eng.Fns) 1000 60 9 (.row [2]) (.row [1, 1, 1, 1, 1])) = true := by kernel_rfl
set_option maxRecDepth 100000 in
theorem r11_10 : Go.Eng.isTrue (Go.Eng.twoRun Try.prog Go.Eng.noSums (⟨14, 16, 17, 43, 58⟩ : Go.Eng.Fns) 1000 60 9 (.row [2]) (.row [1, 1, 1, 1, 1, 1])) = true := by kernel_rfl
set_option maxRecDepth 100000 in
theorem r11_11 : Go.Eng.isTrue (Go.Eng.twoRun Try.prog Go.Eng.noSums (⟨14, 16, 17, 43, 58⟩ : Go.Eng.Fns) 1000 60 9 (.row [2]) (.row [2])) = true := by kernel_rfl
set_option maxRecDepth 100000 in
theorem r11_12 : Go.Eng.isTrue (Go.Eng.twoRun Try.prog Go.Eng.noSums (⟨14, 16, 17, 43, 58⟩ : Go.Eng.Fns) 1000 60 9 (.row [2]) (.row [2, 1])) = true := by kernel_rfl
set_option maxRecDepth 100000 in
theorem r11_13 : Go.Eng.isTrue (Go.Eng.twoRun Try.prog Go.Eng.noSums (⟨14, 16, 17, 43, 58⟩ : Go.Eng.Fns) 1000 60 9 (.row [2]) (.row [2, 1, 1])) = true := by kernel_rfl
set_option maxRecDepth 100000 in
theorem r11_14 : Go.Eng.isTrue (Go.Eng.twoRun Try.prog Go.Eng.noSums (⟨14, 16, 17, 43, 58⟩ : Go.Eng.Fns) 1000 60 9 (.row [2]) (.row [2, 1, 1, 1])) = true := by kernel_rfl
set_option maxRecDepth 100000 in
theorem r11_15 : Go.Eng.isTrue (Go.Eng.twoRun Try.prog Go.Eng.noSums (⟨14, 16, 17, 43, 58⟩ : Go.Eng.Fns) 1000 60 9 (.row [2]) (.row [2, 1, 1, 1, 1])) = true := by kernel_rfl
set_option maxRecDepth 100000 in
theorem r11_16 : Go.Eng.isTrue (Go.Eng.twoRun Try.prog Go.Eng.noSums (⟨14, 16, 17, 43, 58⟩ : Go.Eng.Fns) 1000 60 9 (.row [2]) (.row [2, 2])) = true := by kernel_rfl
set_option maxRecDepth 100000 in
theorem r11_17 : Go.Eng.isTrue (Go.Eng.twoRun Try.prog Go.Eng.noSums (⟨14, 16, 17, 43, 58⟩ : Go.Eng.Fns) 1000 60 9 (.row [2]) (.row [2, 2, 1])) = true := by kernel_rfl
set_option maxRecDepth 100000 in
theorem r11_18 : Go.Eng.isTrue (Go.Eng.twoRun Try.prog Go.Eng.noSums (⟨14, 16, 17, 43, 58⟩ : Go.Eng.Fns) 1000 60 9 (.row [2]) (.row [2, 2, 1, 1])) = true := by kernel_rfl
set_option maxRecDepth 100000 in
theorem r11_19 : Go.Eng.isTrue (Go.Eng.twoRun Try.prog Go.Eng.noSums (⟨14, 16, 17, 43, 58⟩ : Go.Eng.Fns) 1000 60 9 (.row [2]) (.row [2, 2, 2])) = true := by kernel_rfl
set_option maxRecDepth 100000 in
theorem r11_20 : Go.Eng.isTrue (Go.Eng.twoRun Try.prog Go.Eng.noSums (⟨14, 16, 17, 43, 58⟩ : Go.Eng.Fns) 1000 60 9 (.row [2]) (.row [3])) = true := by kernel_rfl
set_option maxRecDepth 100000 in
theorem r11_21 : Go.Eng.isTrue (Go.Eng.twoRun Try.prog Go.Eng.noSums (⟨14, 16, 17, 43, 58⟩ : Go.Eng.Fns) 1000 60 9 (.row [2]) (.row [3, 1])) = true := by kernel_rfl
set_option maxRecDepth 100000 in
theorem r11_22 : Go.Eng.isTrue (Go.Eng.twoRun Try.prog Go.Eng.noSums (⟨14, 16, 17, 43, 58⟩ : Go.Eng.Fns) 1000 60 9 (.row [2]) (.row [3, 1, 1])) = true := by kernel_rfl
set_option maxRecDepth 100000 in
theorem r11_23 : Go.Eng.isTrue (Go.Eng.twoRun Try.prog Go.Eng.noSums (⟨14, 16, 17, 43, 58⟩ : Go.Eng.Fns) 1000 60 9 (.row [2]) (.row [3, 1, 1, 1])) = true := by kernel_rfl
set_option maxRecDepth 100000 in
theorem r11_24 : Go.Eng.isTrue (Go.Eng.twoRun Try.prog Go.Eng.noSums (⟨14, 16, 17, 43, 58⟩ : Go.Eng.Fns) 1000 60 9 (.row [2]) (.row [3, 2])) = true := by kernel_rfl
set_option maxRecDepth 100000 in
theorem r11_25 : Go.Eng.isTrue (Go.Eng.twoRun Try.prog Go.Eng.noSums (⟨14, 16, 17, 43, 58⟩ : Go.Eng.Fns) 1000 60 9 (.row [2]) (.row [3, 2, 1])) = true := by kernel_rfl
set_option maxRecDepth 100000 in
theorem r11_26 : Go.Eng.isTrue (Go.Eng.twoRun Try.prog Go.Eng.noSums (⟨14, 16, 17, 43, 58⟩ : Go.Eng.Fns) 1000 60 9 (.row [2]) (.row [3, 3])) = true := by kernel_rfl
set_option maxRecDepth 100000 in
theorem r11_27 : Go.Eng.isTrue (Go.Eng.twoRun Try.prog Go.Eng.noSums (⟨14, 16, 17, 43, 58⟩ : Go.Eng.Fns) 1000 60 9 (.row [2]) (.row [4])) = true := by kernel_rfl
set_option maxRecDepth 100000 in
theorem r11_28 : Go.Eng.isTrue (Go.Eng.twoRun Try.prog Go.Eng.noSums (⟨14, 16, 17, 43, 58⟩ : Go.Eng.Fns) 1000 60 9 (.row [2]) (.row [4, 1])) = true := by kernel_rfl
set_option maxRecDepth 100000 in
theorem r11_29 : Go.Eng.isTrue (Go.Eng.twoRun Try.prog Go.Eng.noSums (⟨14, 16, 17, 43, 58⟩ : Go.Eng.Fns) 1000 60 9 (.row [2]) (.row [4, 1, 1])) = true := by kernel_rfl
set_option maxRecDepth 100000 in
theorem r11_30 : Go.Eng.isTrue (Go.Eng.twoRun Try.prog Go.Eng.noSums (⟨14, 16, 17, 43, 58⟩ : Go.Eng.Fns) 1000 60 9 (.row [2]) (.row [4, 2])) = true := by kernel_rfl
set_option maxRecDepth 100000 in
theorem r11_31 : Go.Eng.isTrue (Go.Eng.twoRun Try.prog Go.Eng.noSums (⟨14, 16, 17, 43, 58⟩ : Go.Eng.Fns) 1000 60 9 (.row [2]) (.row [5])) = true := by kernel_rfl
set_option maxRecDepth 100000 in
theorem r11_32 : Go.Eng.isTrue (Go.Eng.twoRun Try.prog Go.Eng.noSums (⟨14, 16, 17, 43, 58⟩ : Go.Eng.Fns) 1000 60 9 (.row [2]) (.row [5, 1])) = true := by kernel_rfl
set_option maxRecDepth 100000 in
theorem r11_33 : Go.Eng.isTrue (Go.Eng.twoRun Try.prog Go.Eng.noSums (⟨14, 16, 17, 43, 58⟩ : Go.Eng.Fns) 1000 60 9 (.row [2]) (.row [6])) = true := by kernel_rfl
theorem r11 : Go.Eng.AllL (fun c => Go.Eng.isTrue (Go.Eng.twoRun Try.prog Go.Eng.noSums (⟨14, 16, 17, 43, 58⟩ : Go.Eng.Fns) 1000 60 9 (.row [2]) c) = true) Go.Eng.classes := by
  unfold Go.Eng.classes
  rw [Go.Eng.shares_eq]
  exact ⟨r11_0, r11_1, r11_2, r11_3, r11_4, r11_5, r11_6, r11_7, r11_8, r11_9, r11_10, r11_11, r11_12, r11_13, r11_14, r11_15, r11_16, r11_17, r11_18, r11_19, r11_20, r11_21, r11_22, r11_23, r11_24, r11_25, r11_26, r11_27, r11_28, r11_29, r11_30, r11_31, r11_32, r11_33, trivial⟩
set_option maxRecDepth 100000 in
theorem r15_0 : Go.Eng.isTrue (Go.Eng.twoRun Try.prog Go.Eng.noSums (⟨14, 16, 17, 43, 58⟩ : Go.Eng.Fns) 1000 60 9 (.row [2, 1, 1, 1, 1]) .nil) = true := by kernel_rfl
set_option maxRecDepth 100000 in
theorem r15_1 : Go.Eng.isTrue (Go.Eng.twoRun Try.prog Go.Eng.noSums (⟨14, 16, 17, 43, 58⟩ : Go.Eng.Fns) 1000 60 9 (.row [2, 1, 1, 1, 1]) .zero) = true := by kernel_rfl
set_option maxRecDepth 100000 in
theorem r15_2 : Go.Eng.isTrue (Go.Eng.twoRun Try.prog Go.Eng.noSums (⟨14, 16, 17, 43, 58⟩ : Go.Eng.Fns) 1000 60 9 (.row [2, 1, 1, 1, 1]) .no) = true := by kernel_rfl
set_option maxRecDepth 100000 in
theorem r15_3 : Go.Eng.isTrue (Go.Eng.twoRun Try.prog Go.Eng.noSums (⟨14, 16, 17, 43, 58⟩ : Go.Eng.Fns) 1000 60 9 (.row [2, 1, 1, 1, 1]) .long) = true := by kernel_rfl
set_option maxRecDepth 100000 in
theorem r15_4 : Go.Eng.isTrue (Go.Eng.twoRun Try.prog Go.Eng.noSums (⟨14, 16, 17, 43, 58⟩ : Go.Eng.Fns) 1000 60 9 (.row [2, 1, 1, 1, 1]) (.row [])) = true := by kernel_rfl
set_option maxRecDepth 100000 in
theorem r15_5 : Go.Eng.isTrue (Go.Eng.twoRun Try.prog Go.Eng.noSums (⟨14, 16, 17, 43, 58⟩ : Go.Eng.Fns) 1000 60 9 (.row [2, 1, 1, 1, 1]) (.row [1])) = true := by kernel_rfl
set_option maxRecDepth 100000 in
theorem r15_6 : Go.Eng.isTrue (Go.Eng.twoRun Try.prog Go.Eng.noSums (⟨14, 16, 17, 43, 58⟩ : Go.Eng.Fns) 1000 60 9 (.row [2, 1, 1, 1, 1]) (.row [1, 1])) = true := by kernel_rfl
set_option maxRecDepth 100000 in
theorem r15_7 : Go.Eng.isTrue (Go.Eng.twoRun Try.prog Go.Eng.noSums (⟨14, 16, 17, 43, 58⟩ : Go.Eng.Fns) 1000 60 9 (.row [2, 1, 1, 1, 1]) (.row [1, 1, 1])) = true := by kernel_rfl
set_option maxRecDepth 100000 in
theorem r15_8 : Go.Eng.isTrue (Go.Eng.twoRun Try.prog Go.Eng.noSums (⟨14, 16, 17, 43, 58⟩ : Go.Eng.Fns) 1000 60 9 (.row [2, 1, 1, 1, 1]) (.row [1, 1, 1, 1])) = true := by kernel_rfl
set_option maxRecDepth 100000 in
theorem r15_9 : Go.Eng.isTrue (Go.Eng.twoRun Try.prog Go.Eng.noSums (⟨14, 16, 17, 43, 58⟩ : Go.Eng.Fns) 1000 60 9 (.row [2, 1, 1, 1, 1]) (.row [1, 1, 1, 1, 1])) = true := by kernel_rfl
set_option maxRecDepth 100000 in
theorem r15_10 : Go.Eng.isTrue (Go.Eng.twoRun Try.prog Go.Eng.noSums (⟨14, 16, 17, 43, 58⟩ : Go.Eng.Fns) 1000 60 9 (.row [2, 1, 1, 1, 1]) (.row [1, 1, 1, 1, 1, 1])) = true := by kernel_rfl
set_option maxRecDepth 100000 in
theorem r15_11 : Go.Eng.isTrue (Go.Eng.twoRun Try.prog Go.Eng.noSums (⟨14, 16, 17, 43, 58⟩ : Go.Eng.Fns) 1000 60 9 (.row [2, 1, 1, 1, 1]) (.row [2])) = true := by kernel_rfl
set_option maxRecDepth 100000 in
theorem r15_12 : Go.Eng.isTrue (Go.Eng.twoRun Try.prog Go.Eng.noSums (⟨14, 16, 17, 43, 58⟩ : Go.Eng.Fns) 1000 60 9 (.row [2, 1, 1, 1, 1]) (.row [2, 1])) = true := by kernel_rfl
set_option maxRecDepth 100000 in
theorem r15_13 : Go.Eng.isTrue (Go.Eng.twoRun Try.prog Go.Eng.noSums (⟨14, 16, 17, 43, 58⟩ : Go.Eng.Fns) 1000 60 9 (.row [2, 1, 1, 1, 1]) (.row [2, 1, 1])) = true := by kernel_rfl
set_option maxRecDepth 100000 in
theorem r15_14 : Go.Eng.isTrue (Go.Eng.twoRun Try.prog Go.Eng.noSums (⟨14, 16, 17, 43, 58⟩ : Go.Eng.Fns) 1000 60 9 (.row [2, 1, 1, 1, 1]) (.row [2, 1, 1, 1])) = true := by kernel_rfl
set_option maxRecDepth 100000 in
theorem r15_15 : Go.Eng.isTrue (Go.Eng.twoRun Try.prog Go.Eng.noSums (⟨14, 16, 17, 43, 58⟩ : Go.Eng.Fns) 1000 60 9 (.row [2, 1, 1, 1, 1]) (.row [2, 1, 1, 1, 1])) = true := by kernel_rfl
set_option maxRecDepth 100000 in
theorem r15_16 : Go.Eng.isTrue (Go.Eng.twoRun Try.prog Go.Eng.noSums (⟨14, 16, 17, 43, 58⟩ : Go.Eng.Fns) 1000 60 9 (.row [2, 1, 1, 1, 1]) (.row [2, 2])) = true := by kernel_rfl
set_option maxRecDepth 100000 in
theorem r15_17 : Go.Eng.isTrue (Go.Eng.twoRun Try.prog Go.Eng.noSums (⟨14, 16, 17, 43, 58⟩ : Go.Eng.Fns) 1000 60 9 (.row [2, 1, 1, 1, 1]) (.row [2, 2, 1])) = true := by kernel_rfl
set_option maxRecDepth 100000 in
theorem r15_18 : Go.Eng.isTrue (Go.Eng.twoRun Try.prog Go.Eng.noSums (⟨14, 16, 17, 43, 58⟩ : Go.Eng.Fns) 1000 60 9 (.row [2, 1, 1, 1, 1]) (.row [2, 2, 1, 1])) = true := by kernel_rfl
set_option maxRecDepth 100000 in
theorem r15_19 : Go.Eng.isTrue (Go.Eng.twoRun Try.prog Go.Eng.noSums (⟨14, 16, 17, 43, 58⟩ : Go.Eng.Fns) 1000 60 9 (.row [2, 1, 1, 1, 1]) (.row [2, 2, 2])) = true := by kernel_rfl
set_option maxRecDepth 100000 in
theorem r15_20 : Go.Eng.isTrue (Go.Eng.twoRun Try.prog Go.Eng.noSums (⟨14, 16, 17, 43, 58⟩ : Go.Eng.Fns) 1000 60 9 (.row [2, 1, 1, 1, 1]) (.row [3])) = true := by kernel_rfl
set_option maxRecDepth 100000 in
theorem r15_21 : Go.Eng.isTrue (Go.Eng.twoRun Try.prog Go.Eng.noSums (⟨14, 16, 17, 43, 58⟩ : Go.Eng.Fns) 1000 60 9 (.row [2, 1, 1, 1, 1]) (.row [3, 1])) = true := by kernel_rfl
set_option maxRecDepth 100000 in
theorem r15_22 : Go.Eng.isTrue (Go.Eng.twoRun Try.prog Go.Eng.noSums (⟨14, 16, 17, 43, 58⟩ : Go.Eng.Fns) 1000 60 9 (.row [2, 1, 1, 1, 1]) (.row [3, 1, 1])) = true := by kernel_rfl
set_option maxRecDepth 100000 in
theorem r15_23 : Go.Eng.isTrue (Go.Eng.twoRun Try.prog Go.Eng.noSums (⟨14, 16, 17, 43, 58⟩ : Go.Eng.Fns) 1000 60 9 (.row [2, 1, 1, 1, 1]) (.row [3, 1, 1, 1])) = true := by kernel_rfl
set_option maxRecDepth 100000 in
theorem r15_24 : Go.Eng.isTrue (Go.Eng.twoRun Try.prog Go.Eng.noSums (⟨14, 16, 17, 43, 58⟩ : Go.Eng.Fns) 1000 60 9 (.row [2, 1, 1, 1, 1]) (.row [3, 2])) = true := by kernel_rfl
set_option maxRecDepth 100000 in
theorem r15_25 : Go.Eng.isTrue (Go.Eng.twoRun Try.prog Go.Eng.noSums (⟨14, 16, 17, 43, 58⟩ : Go.Eng.Fns) 1000 60 9 (.row [2, 1, 1, 1, 1]) (.row [3, 2, 1])) = true := by kernel_rfl
set_option maxRecDepth 100000 in
theorem r15_26 : Go.Eng.isTrue (Go.Eng.twoRun Try.prog Go.Eng.noSums (⟨14, 16, 17, 43, 58⟩ : Go.Eng.Fns) 1000 60 9 (.row [2, 1, 1, 1, 1]) (.row [3, 3])) = true := by kernel_rfl
set_option maxRecDepth 100000 in
theorem r15_27 : Go.Eng.isTrue (Go.Eng.twoRun Try.prog Go.Eng.noSums (⟨14, 16, 17, 43, 58⟩ : Go.Eng.Fns) 1000 60 9 (.row [2, 1, 1, 1, 1]) (.row [4])) = true := by kernel_rfl
set_option maxRecDepth 100000 in
theorem r15_28 : Go.Eng.isTrue (Go.Eng.twoRun Try.prog Go.Eng.noSums (⟨14, 16, 17, 43, 58⟩ : Go.Eng.Fns) 1000 60 9 (.row [2, 1, 1, 1, 1]) (.row [4, 1])) = true := by kernel_rfl
set_option maxRecDepth 100000 in
theorem r15_29 : Go.Eng.isTrue (Go.Eng.twoRun Try.prog Go.Eng.noSums (⟨14, 16, 17, 43, 58⟩ : Go.Eng.Fns) 1000 60 9 (.row [2, 1, 1, 1, 1]) (.row [4, 1, 1])) = true := by kernel_rfl
set_option maxRecDepth 100000 in
theorem r15_30 : Go.Eng.isTrue (Go.Eng.twoRun Try.prog Go.Eng.noSums (⟨14, 16, 17, 43, 58⟩ : Go.Eng.Fns) 1000 60 9 (.row [2, 1, 1, 1, 1]) (.row [4, 2])) = true := by kernel_rfl
set_option maxRecDepth 100000 in
theorem r15_31 : Go.Eng.isTrue (Go.Eng.twoRun Try.prog Go.Eng.noSums (⟨14, 16, 17, 43, 58⟩ : Go.Eng.Fns) 1000 60 9 (.row [2, 1, 1, 1, 1]) (.row [5])) = true := by kernel_rfl
set_option maxRecDepth 100000 in
theorem r15_32 : Go.Eng.isTrue (Go.Eng.twoRun Try.prog Go.Eng.noSums (⟨14, 16, 17, 43, 58⟩ : Go.Eng.Fns) 1000 60 9 (.row [2, 1, 1, 1, 1]) (.row [5, 1])) = true := by kernel_rfl
set_option maxRecDepth 100000 in
theorem r15_33 : Go.Eng.isTrue (Go.Eng.twoRun Try.prog Go.Eng.noSums (⟨14, 16, 17, 43, 58⟩ : Go.Eng.Fns) 1000 60 9 (.row [2, 1, 1, 1, 1]) (.row [6])) = true := by kernel_rfl
theorem r15 : Go.Eng.AllL (fun c => Go.Eng.isTrue (Go.Eng.twoRun Try.prog Go.Eng.noSums (⟨14, 16, 17, 43, 58⟩ : Go.Eng.Fns) 1000 60 9 (.row [2, 1, 1, 1, 1]) c) = true) Go.Eng.classes := by
  unfold Go.Eng.classes
  rw [Go.Eng.shares_eq]
  exact ⟨r15_0, r15_1, r15_2, r15_3, r15_4, r15_5, r15_6, r15_7, r15_8, r15_9, r15_10, r15_11, r15_12, r15_13, r15_14, r15_15, r15_16, r15_17, r15_18, r15_19, r15_20, r15_21, r15_22, r15_23, r15_24, r15_25, r15_26, r15_27, r15_28, r15_29, r15_30, r15_31, r15_32, r15_33, trivial⟩
set_option maxRecDepth 100000 in
theorem r19_0 : Go.Eng.isTrue (Go.Eng.twoRun Try.prog Go.Eng.noSums (⟨14, 16, 17, 43, 58⟩ : Go.Eng.Fns) 1000 60 9 (.row [2, 2, 2]) .nil) = true := by kernel_rfl
set_option maxRecDepth 100000 in
theorem r19_1 : Go.Eng.isTrue (Go.Eng.twoRun Try.prog Go.Eng.noSums (⟨14, 16, 17, 43, 58⟩ : Go.Eng.Fns) 1000 60 9 (.row [2, 2, 2]) .zero) = true := by kernel_rfl
set_option maxRecDepth 100000 in
theorem r19_2 : Go.Eng.isTrue (Go.Eng.twoRun Try.prog Go.Eng.noSums (⟨14, 16, 17, 43, 58⟩ : Go.Eng.Fns) 1000 60 9 (.row [2, 2, 2]) .no) = true := by kernel_rfl
set_option maxRecDepth 100000 in
theorem r19_3 : Go.Eng.isTrue (Go.Eng.twoRun Try.prog Go.Eng.noSums (⟨14, 16, 17, 43, 58⟩ : Go.Eng.Fns) 1000 60 9 (.row [2, 2, 2]) .long) = true := by kernel_rfl
set_option maxRecDepth 100000 in
theorem r19_4 : Go.Eng.isTrue (Go.Eng.twoRun Try.prog Go.Eng.noSums (⟨14, 16, 17, 43, 58⟩ : Go.Eng.Fns) 1000 60 9 (.row [2, 2, 2]) (.row [])) = true := by kernel_rfl
set_option maxRecDepth 100000 in
theorem r19_5 : Go.Eng.isTrue (Go.Eng.twoRun Try.prog Go.Eng.noSums (⟨14, 16, 17, 43, 58⟩ : Go.Eng.Fns) 1000 60 9 (.row [2, 2, 2]) (.row [1])) = true := by kernel_rfl
set_option maxRecDepth 100000 in
theorem r19_6 : Go.Eng.isTrue (Go.Eng.twoRun Try.prog Go.Eng.noSums (⟨14, 16, 17, 43, 58⟩ : Go.Eng.Fns) 1000 60 9 (.row [2, 2, 2]) (.row [1, 1])) = true := by kernel_rfl
set_option maxRecDepth 100000 in
theorem r19_7 : Go.Eng.isTrue (Go.Eng.twoRun Try.prog Go.Eng.noSums (⟨14, 16, 17, 43, 58⟩ : Go.Eng.Fns) 1000 60 9 (.row [2, 2, 2]) (.row [1, 1, 1])) = true := by kernel_rfl
set_option maxRecDepth 100000 in
theorem r19_8 : Go.Eng.isTrue (Go.Eng.twoRun Try.prog Go.Eng.noSums (⟨14, 16, 17, 43, 58⟩ : Go.Eng.Fns) 1000 60 9 (.row [2, 2, 2]) (.row [1, 1, 1, 1])) = true := by kernel_rfl
set_option maxRecDepth 100000 in
theorem r19_9 : Go.Eng.isTrue (Go.Eng.twoRun Try.prog Go.Eng.noSums (⟨14, 16, 17, 43, 58⟩ : Go.Eng.Fns) 1000 60 9 (.row [2, 2, 2]) (.row [1, 1, 1, 1, 1])) = true := by kernel_rfl
set_option maxRecDepth 100000 in
theorem r19_10 : Go.Eng.isTrue (Go.Eng.twoRun Try.prog Go.Eng.noSums (⟨14, 16, 17, 43, 58⟩ : Go.Eng.Fns) 1000 60 9 (.row [2, 2, 2]) (.row [1, 1, 1, 1, 1, 1])) = true := by kernel_rfl
set_option maxRecDepth 100000 in
theorem r19_11 : Go.Eng.isTrue (Go.Eng.twoRun Try.prog Go.Eng.noSums (⟨14, 16, 17, 43, 58⟩ : Go.Eng.Fns) 1000 60 9 (.row [2, 2, 2]) (.row [2])) = true := by kernel_rfl
set_option maxRecDepth 100000 in
theorem r19_12 : Go.Eng.isTrue (Go.Eng.twoRun Try.prog Go.Eng.noSums (⟨14, 16, 17, 43, 58⟩ : Go.Eng.Fns) 1000 60 9 (.row [2, 2, 2]) (.row [2, 1])) = true := by kernel_rfl
set_option maxRecDepth 100000 in
theorem r19_13 : Go.Eng.isTrue (Go.Eng.twoRun Try.prog Go.Eng.noSums (⟨14, 16, 17, 43, 58⟩ : Go.Eng.Fns) 1000 60 9 (.row [2, 2, 2]) (.row [2, 1, 1])) = true := by kernel_rfl
set_option maxRecDepth 100000 in
theorem r19_14 : Go.Eng.isTrue (Go.Eng.twoRun Try.prog Go.Eng.noSums (⟨14, 16, 17, 43, 58⟩ : Go.Eng.Fns) 1000 60 9 (.row [2, 2, 2]) (.row [2, 1, 1, 1])) = true := by kernel_rfl
set_option maxRecDepth 100000 in
theorem r19_15 : Go.Eng.isTrue (Go.Eng.twoRun Try.prog Go.Eng.noSums (⟨14, 16, 17, 43, 58⟩ : Go.Eng.Fns) 1000 60 9 (.row [2, 2, 2]) (.row [2, 1, 1, 1, 1])) = true := by kernel_rfl
set_option maxRecDepth 100000 in
theorem r19_16 : Go.Eng.isTrue (Go.Eng.twoRun Try.prog Go.Eng.noSums (⟨14, 16, 17, 43, 58⟩ : Go.Eng.Fns) 1000 60 9 (.row [2, 2, 2]) (.row [2, 2])) = true := by kernel_rfl
set_option maxRecDepth 100000 in
theorem r19_17 : Go.Eng.isTrue (Go.Eng.twoRun Try.prog Go.Eng.noSums (⟨14, 16, 17, 43, 58⟩ : Go.Eng.Fns) 1000 60 9 (.row [2, 2, 2]) (.row [2, 2, 1])) = true := by kernel_rfl
set_option maxRecDepth 100000 in
theorem r19_18 : Go.Eng.isTrue (Go.Eng.twoRun Try.prog Go.Eng.noSums (⟨14, 16, 17, 43, 58⟩ : Go.Eng.Fns) 1000 60 9 (.row [2, 2, 2]) (.row [2, 2, 1, 1])) = true := by kernel_rfl
set_option maxRecDepth 100000 in
theorem r19_19 : Go.Eng.isTrue (Go.Eng.twoRun Try.prog Go.Eng.noSums (⟨14, 16, 17, 43, 58⟩ : Go.Eng.Fns) 1000 60 9 (.row [2, 2, 2]) (.row [2, 2, 2])) = true := by kernel_rfl
set_option maxRecDepth 100000 in
theorem r19_20 : Go.Eng.isTrue (Go.Eng.twoRun Try.prog Go.Eng.noSums (⟨14, 16, 17, 43, 58⟩ : Go.Eng.Fns) 1000 60 9 (.row [2, 2, 2]) (.row [3])) = true := by kernel_rfl
set_option maxRecDepth 100000 in
theorem r19_21 : Go.Eng.isTrue (Go.Eng.twoRun Try.prog Go.Eng.noSums (⟨14, 16, 17, 43, 58⟩ : Go.Eng.Fns) 1000 60 9 (.row [2, 2, 2]) (.row [3, 1])) = true := by kernel_rfl
set_option maxRecDepth 100000 in
theorem r19_22 : Go.Eng.isTrue (Go.Eng.twoRun Try.prog Go.Eng.noSums (⟨14, 16, 17, 43, 58⟩ : Go.Eng.Fns) 1000 60 9 (.row [2, 2, 2]) (.row [3, 1, 1])) = true := by kernel_rfl
set_option maxRecDepth 100000 in
theorem r19_23 : Go.Eng.isTrue (Go.Eng.twoRun Try.prog Go.Eng.noSums (⟨14, 16, 17, 43, 58⟩ : Go.Eng.Fns) 1000 60 9 (.row [2, 2, 2]) (.row [3, 1, 1, 1])) = true := by kernel_rfl
set_option maxRecDepth 100000 in
theorem r19_24 : Go.Eng.isTrue (Go.Eng.twoRun Try.prog Go.Eng.noSums (⟨14, 16, 17, 43, 58⟩ : Go.Eng.Fns) 1000 60 9 (.row [2, 2, 2]) (.row [3, 2])) = true := by kernel_rfl
set_option maxRecDepth 100000 in
theorem r19_25 : Go.Eng.isTrue (Go.Eng.twoRun Try.prog Go.Eng.noSums (⟨14, 16, 17, 43, 58⟩ : Go.Eng.Fns) 1000 60 9 (.row [2, 2, 2]) (.row [3, 2, 1])) = true := by kernel_rfl
set_option maxRecDepth 100000 in
theorem r19_26 : Go.Eng.isTrue (Go.Eng.twoRun Try.prog Go.Eng.noSums (⟨14, 16, 17, 43, 58⟩ : Go.Eng.Fns) 1000 60 9 (.row [2, 2, 2]) (.row [3, 3])) = true := by kernel_rfl
set_option maxRecDepth 100000 in
theorem r19_27 : Go.Eng.isTrue (Go.Eng.twoRun Try.prog Go.Eng.noSums (⟨14, 16, 17, 43, 58⟩ : Go.Eng.Fns) 1000 60 9 (.row [2, 2, 2]) (.row [4])) = true := by kernel_rfl
set_option maxRecDepth 100000 in
theorem r19_28 : Go.Eng.isTrue (Go.Eng.twoRun Try.prog Go.Eng.noSums (⟨14, 16, 17, 43, 58⟩ : Go.Eng.Fns) 1000 60 9 (.row [2, 2, 2]) (.row [4, 1])) = true := by kernel_rfl
set_option maxRecDepth 100000 in
theorem r19_29 : Go.Eng.isTrue (Go.Eng.twoRun Try.prog Go.Eng.noSums (⟨14, 16, 17, 43, 58⟩ : Go.Eng.Fns) 1000 60 9 (.row [2, 2, 2]) (.row [4, 1, 1])) = true := by kernel_rfl
set_option maxRecDepth 100000 in
theorem r19_30 : Go.Eng.isTrue (Go.Eng.twoRun Try.prog Go.Eng.noSums (⟨14, 16, 17, 43, 58⟩ : Go.Eng.Fns) 1000 60 9 (.row [2, 2, 2]) (.row [4, 2])) = true := by kernel_rfl
set_option maxRecDepth 100000 in
theorem r19_31 : Go.Eng.isTrue (Go.Eng.twoRun Try.prog Go.Eng.noSums (⟨14, 16, 17, 43, 58⟩ : Go.Eng.Fns) 1000 60 9 (.row [2, 2, 2]) (.row [5])) = true := by kernel_rfl
set_option maxRecDepth 100000 in
theorem r19_32 : Go.Eng.isTrue (Go.Eng.twoRun Try.prog Go.Eng.noSums (⟨14, 16, 17, 43, 58⟩ : Go.Eng.Fns) 1000 60 9 (.row [2, 2, 2]) (.row [5, 1])) = true := by kernel_rfl
set_option maxRecDepth 100000 in
theorem r19_33 : Go.Eng.isTrue (Go.Eng.twoRun Try.prog Go.Eng.noSums (⟨14, 16, 17, 43, 58⟩ : Go.Eng.Fns) 1000 60 9 (.row [2, 2, 2]) (.row [6])) = true := by kernel_rfl
theorem r19 : Go.Eng.AllL (fun c => Go.Eng.isTrue (Go.Eng.twoRun Try.prog Go.Eng.noSums (⟨14, 16, 17, 43, 58⟩ : Go.Eng.Fns) 1000 60 9 (.row [2, 2, 2]) c) = true) Go.Eng.classes := by
  unfold Go.Eng.classes
  rw [Go.Eng.shares_eq]
  exact ⟨r19_0, r19_1, r19_2, r19_3, r19_4, r19_5, r19_6, r19_7, r19_8, r19_9, r19_10, r19_11, r19_12, r19_13, r19_14, r19_15, r19_16, r19_17, r19_18, r19_19, r19_20, r19_21, r19_22, r19_23, r19_24, r19_25, r19_26, r19_27, r19_28, r19_29, r19_30, r19_31, r19_32, r19_33, trivial⟩
set_option maxRecDepth 100000 in
theorem r23_0 : Go.Eng.isTrue (Go.Eng.twoRun Try.prog Go.Eng.noSums (⟨14, 16, 17, 43, 58⟩ : Go.Eng.Fns) 1000 60 9 (.row [3, 1, 1, 1]) .nil) = true := by kernel_rfl
set_option maxRecDepth 100000 in
theorem r23_1 : Go.Eng.isTrue (Go.Eng.twoRun Try.prog Go.Eng.noSums (⟨14, 16, 17, 43, 58⟩ : Go.Eng.Fns) 1000 60 9 (.row [3, 1, 1, 1]) .zero) = true := by kernel_rfl
set_option maxRecDepth 100000 in
theorem r23_2 : Go.Eng.isTrue (Go.Eng.twoRun Try.prog Go.Eng.noSums (⟨14, 16, 17, 43, 58⟩ : Go.Eng.Fns) 1000 60 9 (.row [3, 1, 1, 1]) .no) = true := by kernel_rfl
set_option maxRecDepth 100000 in
theorem r23_3 : Go.Eng.isTrue (Go.Eng.twoRun Try.prog Go.Eng.noSums (⟨14, 16, 17, 43, 58⟩ : Go.Eng.Fns) 1000 60 9 (.row [3, 1, 1, 1]) .long) = true := by kernel_rfl
set_option maxRecDepth 100000 in
theorem r23_4 : Go.Eng.isTrue (Go.Eng.twoRun Try.prog Go.Eng.noSums (⟨14, 16, 17, 43, 58⟩ : Go.Eng.Fns) 1000 60 9 (.row [3, 1, 1, 1]) (.row [])) = true := by kernel_rfl
set_option maxRecDepth 100000 in
theorem r23_5 : Go.Eng.isTrue (Go.Eng.twoRun Try.prog Go.Eng.noSums (⟨14, 16, 17, 43, 58⟩ : Go.Eng.Fns) 1000 60 9 (.row [3, 1, 1, 1]) (.row [1])) = true := by kernel_rfl
set_option maxRecDepth 100000 in
theorem r23_6 : Go.Eng.isTrue (Go.Eng.twoRun Try.prog Go.Eng.noSums (⟨14, 16, 17, 43, 58⟩ : Go.Eng.Fns) 1000 60 9 (.row [3, 1, 1, 1]) (.row [1, 1])) = true := by kernel_rfl
set_option maxRecDepth 100000 in
theorem r23_7 : Go.Eng.isTrue (Go.Eng.twoRun Try.prog Go.Eng.noSums (⟨14, 16, 17, 43, 58⟩ : Go.Eng.Fns) 1000 60 9 (.row [3, 1, 1, 1]) (.row [1, 1, 1])) = true := by kernel_rfl
set_option maxRecDepth 100000 in
theorem r23_8 : Go.Eng.isTrue (Go.Eng.twoRun Try.prog Go.Eng.noSums (⟨14, 16, 17, 43, 58⟩ : Go.Eng.Fns) 1000 60 9 (.row [3, 1, 1, 1]) (.row [1, 1, 1, 1])) = true := by kernel_rfl
set_option maxRecDepth 100000 in
theorem r23_9 : Go.Eng.isTrue (Go.Eng.twoRun Try.prog Go.Eng.noSums (⟨14, 16, 17, 43, 58⟩ : Go.Eng.Fns) 1000 60 9 (.row [3, 1, 1, 1]) (.row [1, 1, 1, 1, 1])) = true := by kernel_rfl
set_option maxRecDepth 100000 in
theorem r23_10 : Go.Eng.isTrue (Go.Eng.twoRun Try.prog Go.Eng.noSums (⟨14, 16, 17, 43, 58⟩ : Go.Eng.Fns) 1000 60 9 (.row [3, 1, 1, 1]) (.row [1, 1, 1, 1, 1, 1])) = true := by kernel_rfl
set_option maxRecDepth 100000 in
theorem r23_11 : Go.Eng.isTrue (Go.Eng.twoRun Try.prog Go.Eng.noSums (⟨14, 16, 17, 43, 58⟩ : Go.Eng.Fns) 1000 60 9 (.row [3, 1, 1, 1]) (.row [2])) = true := by kernel_rfl
set_option maxRecDepth 100000 in
theorem r23_12 : Go.Eng.isTrue (Go.Eng.twoRun Try.prog Go.Eng.noSums (⟨14, 16, 17, 43, 58⟩ : Go.Eng.Fns) 1000 60 9 (.row [3, 1, 1, 1]) (.row [2, 1])) = true := by kernel_rfl
set_option maxRecDepth 100000 in
theorem r23_13 : Go.Eng.isTrue (Go.Eng.twoRun Try.prog Go.Eng.noSums (⟨14, 16, 17, 43, 58⟩ : Go.Eng.Fns) 1000 60 9 (.row [3, 1, 1, 1]) (.row [2, 1, 1])) = true := by kernel_rfl
set_option maxRecDepth 100000 in
theorem r23_14 : Go.Eng.isTrue (Go.Eng.twoRun Try.prog Go.Eng.noSums (⟨14, 16, 17, 43, 58⟩ : Go.Eng.Fns) 1000 60 9 (.row [3, 1, 1, 1]) (.row [2, 1, 1, 1])) = true := by kernel_rfl
set_option maxRecDepth 100000 in
theorem r23_15 : Go.Eng.isTrue (Go.Eng.twoRun Try.prog Go.Eng.noSums (⟨14, 16, 17, 43, 58⟩ : Go.Eng.Fns) 1000 60 9 (.row [3, 1, 1, 1]) (.row [2, 1, 1, 1, 1])) = true := by kernel_rfl
set_option maxRecDepth 100000 in
theorem r23_16 : Go.Eng.isTrue (Go.Eng.twoRun Try.prog Go.Eng.noSums (⟨14, 16, 17, 43, 58⟩ : Go.Eng.Fns) 1000 60 9 (.row [3, 1, 1, 1]) (.row [2, 2])) = true := by kernel_rfl
set_option maxRecDepth 100000 in
theorem r23_17 : Go.Eng.isTrue (Go.Eng.twoRun Try.prog Go.Eng.noSums (⟨14, 16, 17, 43, 58⟩ : Go.Eng.Fns) 1000 60 9 (.row [3, 1, 1, 1]) (.row [2, 2, 1])) = true := by kernel_rfl
set_option maxRecDepth 100000 in
theorem r23_18 : Go.Eng.isTrue (Go.Eng.twoRun Try.prog Go.Eng.noSums (⟨14, 16, 17, 43, 58⟩ : Go.Eng.Fns) 1000 60 9 (.row [3, 1, 1, 1]) (.row [2, 2, 1, 1])) = true := by kernel_rfl
set_option maxRecDepth 100000 in
theorem r23_19 : Go.Eng.isTrue (Go.Eng.twoRun Try.prog Go.Eng.noSums (⟨14, 16, 17, 43, 58⟩ : Go.Eng.Fns) 1000 60 9 (.row [3, 1, 1, 1]) (.row [2, 2, 2])) = true := by kernel_rfl
set_option maxRecDepth 100000 in
theorem r23_20 : Go.Eng.isTrue (Go.Eng.twoRun Try.prog Go.Eng.noSums (⟨14, 16, 17, 43, 58⟩ : Go.Eng.Fns) 1000 60 9 (.row [3, 1, 1, 1]) (.row [3])) = true := by kernel_rfl
set_option maxRecDepth 100000 in
theorem r23_21 : Go.Eng.isTrue (Go.Eng.twoRun Try.prog Go.Eng.noSums (⟨14, 16, 17, 43, 58⟩ : Go.Eng.Fns) 1000 60 9 (.row [3, 1, 1, 1]) (.row [3, 1])) = true := by kernel_rfl
set_option maxRecDepth 100000 in
theorem r23_22 : Go.Eng.isTrue (Go.Eng.twoRun Try.prog Go.Eng.noSums (⟨14, 16, 17, 43, 58⟩ : Go.Eng.Fns) 1000 60 9 (.row [3, 1, 1, 1]) (.row [3, 1, 1])) = true := by kernel_rfl
set_option maxRecDepth 100000 in
theorem r23_23 : Go.Eng.isTrue (Go.Eng.twoRun Try.prog Go.Eng.noSums (⟨14, 16, 17, 43, 58⟩ : Go.Eng.Fns) 1000 60 9 (.row [3, 1, 1, 1]) (.row [3, 1, 1, 1])) = true := by kernel_rfl
set_option maxRecDepth 100000 in
theorem r23_24 : Go.Eng.isTrue (Go.Eng.twoRun Try.prog Go.Eng.noSums (⟨14, 16, 17, 43, 58⟩ : Go.Eng.Fns) 1000 60 9 (.row [3, 1, 1, 1]) (.row [3, 2])) = true := by kernel_rfl
set_option maxRecDepth 100000 in
theorem r23_25 : Go.Eng.isTrue (Go.Eng.twoRun Try.prog Go.Eng.noSums (⟨14, 16, 17, 43, 58⟩ : Go.Eng.Fns) 1000 60 9 (.row [3, 1, 1, 1]) (.row [3, 2, 1])) = true := by kernel_rfl
set_option maxRecDepth 100000 in
theorem r23_26 : Go.Eng.isTrue (Go.Eng.twoRun Try.prog Go.Eng.noSums (⟨14, 16, 17, 43, 58⟩ : Go.Eng.Fns) 1000 60 9 (.row [3, 1, 1, 1]) (.row [3, 3])) = true := by kernel_rfl
set_option maxRecDepth 100000 in
theorem r23_27 : Go.Eng.isTrue (Go.Eng.twoRun Try.prog Go.Eng.noSums (⟨14, 16, 17, 43, 58⟩ : Go.Eng.Fns) 1000 60 9 (.row [3, 1, 1, 1]) (.row [4])) = true := by kernel_rfl
set_option maxRecDepth 100000 in
theorem r23_28 : Go.Eng.isTrue (Go.Eng.twoRun Try.prog Go.Eng.noSums (⟨14, 16, 17, 43, 58⟩ : Go.Eng.Fns) 1000 60 9 (.row [3, 1, 1, 1]) (.row [4, 1])) = true := by kernel_rfl
set_option maxRecDepth 100000 in
theorem r23_29 : Go.Eng.isTrue (Go.Eng.twoRun Try.prog Go.Eng.noSums (⟨14, 16, 17, 43, 58⟩ : Go.Eng.Fns) 1000 60 9 (.row [3, 1, 1, 1]) (.row [4, 1, 1])) = true := by kernel_rfl
set_option maxRecDepth 100000 in
theorem r23_30 : Go.Eng.isTrue (Go.Eng.twoRun Try.prog Go.Eng.noSums (⟨14, 16, 17, 43, 58⟩ : Go.Eng.Fns) 1000 60 9 (.row [3, 1, 1, 1]) (.row [4, 2])) = true := by kernel_rfl
set_option maxRecDepth 100000 in
theorem r23_31 : Go.Eng.isTrue (Go.Eng.twoRun Try.prog Go.Eng.noSums (⟨14, 16, 17, 43, 58⟩ : Go.Eng.Fns) 1000 60 9 (.row [3, 1, 1, 1]) (.row [5])) = true := by kernel_rfl
set_option maxRecDepth 100000 in
theorem r23_32 : Go.Eng.isTrue (Go.Eng.twoRun Try.prog Go.Eng.noSums (⟨14, 16, 17, 43, 58⟩ : Go.Eng.Fns) 1000 60 9 (.row [3, 1, 1, 1]) (.row [5, 1])) = true := by kernel_rfl
set_option maxRecDepth 100000 in
theorem r23_33 : Go.Eng.isTrue (Go.Eng.twoRun Try.prog Go.Eng.noSums (⟨14, 16, 17, 43, 58⟩ : Go.Eng.Fns) 1000 60 9 (.row [3, 1, 1, 1]) (.row [6])) = true := by kernel_rfl
theorem r23 : Go.Eng.AllL (fun c => Go.Eng.isTrue (Go.Eng.twoRun Try.prog Go.Eng.noSums (⟨14, 16, 17, 43, 58⟩ : Go.Eng.Fns) 1000 60 9 (.row [3, 1, 1, 1]) c) = true) Go.Eng.classes := by
  unfold Go.Eng.classes
  rw [Go.Eng.shares_eq]
  exact ⟨r23_0, r23_1, r23_2, r23_3, r23_4, r23_5, r23_6, r23_7, r23_8, r23_9, r23_10, r23_11, r23_12, r23_13, r23_14, r23_15, r23_16, r23_17, r23_18, r23_19, r23_20, r23_21, r23_22, r23_23, r23_24, r23_25, r23_26, r23_27, r23_28, r23_29, r23_30, r23_31, r23_32, r23_33, trivial⟩
set_option maxRecDepth 100000 in
theorem r27_0 : Go.Eng.isTrue (Go.Eng.twoRun Try.prog Go.Eng.noSums (⟨14, 16, 17, 43, 58⟩ : Go.Eng.Fns) 1000 60 9 (.row [4]) .nil) = true := by kernel_rfl
set_option maxRecDepth 100000 in
theorem r27_1 : Go.Eng.isTrue (Go.Eng.twoRun Try.prog Go.Eng.noSums (⟨14, 16, 17, 43, 58⟩ : Go.Eng.Fns) 1000 60 9 (.row [4]) .zero) = true := by kernel_rfl
set_option maxRecDepth 100000 in
theorem r27_2 : Go.Eng.isTrue (Go.Eng.twoRun Try.prog Go.Eng.noSums (⟨14, 16, 17, 43, 58⟩ : Go.Eng.Fns) 1000 60 9 (.row [4]) .no) = true := by kernel_rfl
set_option maxRecDepth 100000 in
theorem r27_3 : Go.Eng.isTrue (Go.Eng.twoRun Try.prog Go.Eng.noSums (⟨14, 16, 17, 43, 58⟩ : Go.Eng.Fns) 1000 60 9 (.row [4]) .long) = true := by kernel_rfl
set_option maxRecDepth 100000 in
theorem r27_4 : Go.Eng.isTrue (Go.Eng.twoRun Try.prog Go.Eng.noSums (⟨14, 16, 17, 43, 58⟩ : Go.Eng.Fns) 1000 60 9 (.row [4]) (.row [])) = true := by kernel_rfl
set_option maxRecDepth 100000 in
theorem r27_5 : Go.Eng.isTrue (Go.Eng.twoRun Try.prog Go.Eng.noSums (⟨14, 16, 17, 43, 58⟩ : Go.Eng.Fns) 1000 60 9 (.row [4]) (.row [1])) = true := by kernel_rfl
set_option maxRecDepth 100000 in
theorem r27_6 : Go.Eng.isTrue (Go.Eng.twoRun Try.prog Go.Eng.noSums (⟨14, 16, 17, 43, 58⟩ : Go.Eng.Fns) 1000 60 9 (.row [4]) (.row [1, 1])) = true := by kernel_rfl
set_option maxRecDepth 100000 in
theorem r27_7 : Go.Eng.isTrue (Go.Eng.twoRun Try.prog Go.Eng.noSums (⟨14, 16, 17, 43, 58⟩ : Go.Eng.Fns) 1000 60 9 (.row [4]) (.row [1, 1, 1])) = true := by kernel_rfl
set_option maxRecDepth 100000 in
theorem r27_8 : Go.Eng.isTrue (Go.Eng.twoRun Try.prog Go.Eng.noSums (⟨14, 16, 17, 43, 58⟩ : Go.Eng.Fns) 1000 60 9 (.row [4]) (.row [1, 1, 1, 1])) = true := by kernel_rfl
set_option maxRecDepth 100000 in
theorem r27_9 : Go.Eng.isTrue (Go.Eng.twoRun Try.prog Go.Eng.noSums (⟨14, 16, 17, 43, 58⟩ : Go.Eng.Fns) 1000 60 9 (.row [4]) (.row [1, 1, 1, 1, 1])) = true := by kernel_rfl
set_option maxRecDepth 100000 in
theorem r27_10 : Go.Eng.isTrue (Go.Eng.twoRun Try.prog Go.Eng.noSums (⟨14, 16, 17, 43, 58⟩ : Go.Eng.Fns) 1000 60 9 (.row [4]) (.row [1, 1, 1, 1, 1, 1])) = true := by kernel_rfl
set_option maxRecDepth 100000 in
theorem r27_11 : Go.Eng.isTrue (Go.Eng.twoRun Try.prog Go.Eng.noSums (⟨14, 16, 17, 43, 58⟩ : Go.Eng.Fns) 1000 60 9 (.row [4]) (.row [2])) = true := by kernel_rfl
set_option maxRecDepth 100000 in
theorem r27_12 : Go.Eng.isTrue (Go.Eng.twoRun Try.prog Go.Eng.noSums (⟨14, 16, 17, 43, 58⟩ : Go.Eng.Fns) 1000 60 9 (.row [4]) (.row [2, 1])) = true := by kernel_rfl
set_option maxRecDepth 100000 in
theorem r27_13 : Go.Eng.isTrue (Go.Eng.twoRun Try.prog Go.Eng.noSums (⟨14, 16, 17, 43, 58⟩ : Go.Eng.Fns) 1000 60 9 (.row [4]) (.row [2, 1, 1])) = true := by kernel_rfl
set_option maxRecDepth 100000 in
theorem r27_14 : Go.Eng.isTrue (Go.Eng.twoRun Try.prog Go.Eng.noSums (⟨14, 16, 17, 43, 58⟩ : Go.Eng.Fns) 1000 60 9 (.row [4]) (.row [2, 1, 1, 1])) = true := by kernel_rfl
set_option maxRecDepth 100000 in
theorem r27_15 : Go.Eng.isTrue (Go.Eng.twoRun Try.prog Go.Eng.noSums (⟨14, 16, 17, 43, 58⟩ : Go.Eng.Fns) 1000 60 9 (.row [4]) (.row [2, 1, 1, 1, 1])) = true := by kernel_rfl
set_option maxRecDepth 100000 in
theorem r27_16 : Go.Eng.isTrue (Go.Eng.twoRun Try.prog Go.Eng.noSums (⟨14, 16, 17, 43, 58⟩ : Go.Eng.Fns) 1000 60 9 (.row [4]) (.row [2, 2])) = true := by kernel_rfl
set_option maxRecDepth 100000 in
theorem r27_17 : Go.Eng.isTrue (Go.Eng.twoRun Try.prog Go.Eng.noSums (⟨14, 16, 17, 43, 58⟩ : Go.Eng.Fns) 1000 60 9 (.row [4]) (.row [2, 2, 1])) = true := by kernel_rfl
set_option maxRecDepth 100000 in
theorem r27_18 : Go.Eng.isTrue (Go.Eng.twoRun Try.prog Go.Eng.noSums (⟨14, 16, 17, 43, 58⟩ : Go.Eng.Fns) 1000 60 9 (.row [4]) (.row [2, 2, 1, 1])) = true := by kernel_rfl
set_option maxRecDepth 100000 in
theorem r27_19 : Go.Eng.isTrue (Go.Eng.twoRun Try.prog Go.Eng.noSums (⟨14, 16, 17, 43, 58⟩ : Go.Eng.Fns) 1000 60 9 (.row [4]) (.row [2, 2, 2])) = true := by kernel_rfl
set_option maxRecDepth 100000 in
theorem r27_20 : Go.Eng.isTrue (Go.Eng.twoRun Try.prog Go.Eng.noSums (⟨14, 16, 17, 43, 58⟩ : Go.Eng.Fns) 1000 60 9 (.row [4]) (.row [3])) = true := by kernel_rfl
set_option maxRecDepth 100000 in
theorem r27_21 : Go.Eng.isTrue (Go.Eng.twoRun Try.prog Go.Eng.noSums (⟨14, 16, 17, 43, 58⟩ : Go.Eng.Fns) 1000 60 9 (.row [4]) (.row [3, 1])) = true := by kernel_rfl
set_option maxRecDepth 100000 in
theorem r27_22 : Go.Eng.isTrue (Go.Eng.twoRun Try.prog Go.Eng.noSums (⟨14, 16, 17, 43, 58⟩ : Go.Eng.Fns) 1000 60 9 (.row [4]) (.row [3, 1, 1])) = true := by kernel_rfl
set_option maxRecDepth 100000 in
theorem r27_23 : Go.Eng.isTrue (Go.Eng.twoRun Try.prog Go.Eng.noSums (⟨14, 16, 17, 43, 58⟩ : Go.Eng.Fns) 1000 60 9 (.row [4]) (.row [3, 1, 1, 1])) = true := by kernel_rfl
set_option maxRecDepth 100000 in
theorem r27_24 : Go.Eng.isTrue (Go.Eng.twoRun Try.prog Go.Eng.noSums (⟨14, 16, 17, 43, 58⟩ : Go.Eng.Fns) 1000 60 9 (.row [4]) (.row [3, 2])) = true := by kernel_rfl
set_option maxRecDepth 100000 in
theorem r27_25 : Go.Eng.isTrue (Go.Eng.twoRun Try.prog Go.Eng.noSums (⟨14, 16, 17, 43, 58⟩ : Go.Eng.Fns) 1000 60 9 (.row [4]) (.row [3, 2, 1])) = true := by kernel_rfl
set_option maxRecDepth 100000 in
theorem r27_26 : Go.Eng.isTrue (Go.Eng.twoRun Try.prog Go.Eng.noSums (⟨14, 16, 17, 43, 58⟩ : Go.Eng.Fns) 1000 60 9 (.row [4]) (.row [3, 3])) = true := by kernel_rfl
set_option maxRecDepth 100000 in
theorem r27_27 : Go.Eng.isTrue (Go.Eng.twoRun Try.prog Go.Eng.noSums (⟨14, 16, 17, 43, 58⟩ : Go.Eng.Fns) 1000 60 9 (.row [4]) (.row [4])) = true := by kernel_rfl
set_option maxRecDepth 100000 in
theorem r27_28 : Go.Eng.isTrue (Go.Eng.twoRun Try.prog Go.Eng.noSums (⟨14, 16, 17, 43, 58⟩ : Go.Eng.Fns) 1000 60 9 (.row [4]) (.row [4, 1])) = true := by kernel_rfl
set_option maxRecDepth 100000 in
theorem r27_29 : Go.Eng.isTrue (Go.Eng.twoRun Try.prog Go.Eng.noSums (⟨14, 16, 17, 43, 58⟩ : Go.Eng.Fns) 1000 60 9 (.row [4]) (.row [4, 1, 1])) = true := by kernel_rfl
set_option maxRecDepth 100000 in
theorem r27_30 : Go.Eng.isTrue (Go.Eng.twoRun Try.prog Go.Eng.noSums (⟨14, 16, 17, 43, 58⟩ : Go.Eng.Fns) 1000 60 9 (.row [4]) (.row [4, 2])) = true := by kernel_rfl
set_option maxRecDepth 100000 in
theorem r27_31 : Go.Eng.isTrue (Go.Eng.twoRun Try.prog Go.Eng.noSums (⟨14, 16, 17, 43, 58⟩ : Go.Eng.Fns) 1000 60 9 (.row [4]) (.row [5])) = true := by kernel_rfl
set_option maxRecDepth 100000 in
theorem r27_32 : Go.Eng.isTrue (Go.Eng.twoRun Try.prog Go.Eng.noSums (⟨14, 16, 17, 43, 58⟩ : Go.Eng.Fns) 1000 60 9 (.row [4]) (.row [5, 1])) = true := by kernel_rfl
set_option maxRecDepth 100000 in
theorem r27_33 : Go.Eng.isTrue (Go.Eng.twoRun Try.prog Go.Eng.noSums (⟨14, 16, 17, 43, 58⟩ : Go.Eng.Fns) 1000 60 9 (.row [4]) (.row [6])) = true := by kernel_rfl
theorem r27 : Go.Eng.AllL (fun c => Go.Eng.isTrue (Go.Eng.twoRun Try.prog Go.Eng.noSums (⟨14, 16, 17, 43, 58⟩ : Go.Eng.Fns) 1000 60 9 (.row [4]) c) = true) Go.Eng.classes := by
  unfold Go.Eng.classes
  rw [Go.Eng.shares_eq]
  exact ⟨r27_0, r27_1, r27_2, r27_3, r27_4, r27_5, r27_6, r27_7, r27_8, r27_9, r27_10, r27_11, r27_12, r27_13, r27_14, r27_15, r27_16, r27_17, r27_18, r27_19, r27_20, r27_21, r27_22, r27_23, r27_24, r27_25, r27_26, r27_27, r27_28, r27_29, r27_30, r27_31, r27_32, r27_33, trivial⟩
set_option maxRecDepth 100000 in
theorem r31_0 : Go.Eng.isTrue (Go.Eng.twoRun Try.prog Go.Eng.noSums (⟨14, 16, 17, 43, 58⟩ : Go.Eng.Fns) 1000 60 9 (.row [5]) .nil) = true := by kernel_rfl
set_option maxRecDepth 100000 in
theorem r31_1 : Go.Eng.isTrue (Go.Eng.twoRun Try.prog Go.Eng.noSums (⟨14, 16, 17, 43, 58⟩ : Go.Eng.Fns) 1000 60 9 (.row [5]) .zero) = true := by kernel_rfl
set_option maxRecDepth 100000 in
theorem r31_2 : Go.Eng.isTrue (Go.Eng.twoRun Try.prog Go.Eng.noSums (⟨14, 16, 17, 43, 58⟩ : Go.Eng.Fns) 1000 60 9 (.row [5]) .no) = true := by kernel_rfl
set_option maxRecDepth 100000 in
theorem r31_3 : Go.Eng.isTrue (Go.Eng.twoRun Try.prog Go.Eng.noSums (⟨14, 16, 17, 43, 58⟩ : Go.Eng.Fns) 1000 60 9 (.row [5]) .long) = true := by kernel_rfl
set_option maxRecDepth 100000 in
theorem r31_4 : Go.Eng.isTrue (Go.Eng.twoRun Try.prog Go.Eng.noSums (⟨14, 16, 17, 43, 58⟩ : Go.Eng.Fns) 1000 60 9 (.row [5]) (.row [])) = true := by kernel_rfl
set_option maxRecDepth 100000 in
theorem r31_5 : Go.Eng.isTrue (Go.Eng.twoRun Try.prog Go.Eng.noSums (⟨14, 16, 17, 43, 58⟩ : Go.Eng.Fns) 1000 60 9 (.row [5]) (.row [1])) = true := by kernel_rfl
set_option maxRecDepth 100000 in
theorem r31_6 : Go.Eng.isTrue (Go.Eng.twoRun Try.prog Go.Eng.noSums (⟨14, 16, 17, 43, 58⟩ : Go.Eng.Fns) 1000 60 9 (.row [5]) (.row [1, 1])) = true := by kernel_rfl
set_option maxRecDepth 100000 in
theorem r31_7 : Go.Eng.isTrue (Go.Eng.twoRun Try.prog Go.Eng.noSums (⟨14, 16, 17, 43, 58⟩ : Go.Eng.Fns) 1000 60 9 (.row [5]) (.row [1, 1, 1])) = true := by kernel_rfl
set_option maxRecDepth 100000 in
theorem r31_8 : Go.Eng.isTrue (Go.Eng.twoRun Try.prog Go.Eng.noSums (⟨14, 16, 17, 43, 58⟩ : Go.Eng.Fns) 1000 60 9 (.row [5]) (.row [1, 1, 1, 1])) = true := by kernel_rfl
set_option maxRecDepth 100000 in
theorem r31_9 : Go.Eng.isTrue (Go.Eng.twoRun Try.prog Go.Eng.noSums (⟨14, 16, 17, 43, 58⟩ : Go.Eng.Fns) 1000 60 9 (.row [5]) (.row [1, 1, 1, 1, 1])) = true := by kernel_rfl
set_option maxRecDepth 100000 in
theorem r31_10 : Go.Eng.isTrue (Go.Eng.twoRun Try.prog Go.Eng.noSums (⟨14, 16, 17, 43, 58⟩ : Go.Eng.Fns) 1000 60 9 (.row [5]) (.row [1, 1, 1, 1, 1, 1])) = true := by kernel_rfl
set_option maxRecDepth 100000 in
theorem r31_11 : Go.Eng.isTrue (Go.Eng.twoRun Try.prog Go.Eng.noSums (⟨14, 16, 17, 43, 58⟩ : Go.Eng.Fns) 1000 60 9 (.row [5]) (.row [2])) = true := by kernel_rfl
set_option maxRecDepth 100000 in
theorem r31_12 : Go.Eng.isTrue (Go.Eng.twoRun Try.prog Go.Eng.noSums (⟨14, 16, 17, 43, 58⟩ : Go.Eng.Fns) 1000 60 9 (.row [5]) (.row [2, 1])) = true := by kernel_rfl
set_option maxRecDepth 100000 in
theorem r31_13 : Go.Eng.isTrue (Go.Eng.twoRun Try.prog Go.Eng.noSums (⟨14, 16, 17, 43, 58⟩ : Go.Eng.Fns) 1000 60 9 (.row [5]) (.row [2, 1, 1])) = true := by kernel_rfl
set_option maxRecDepth 100000 in
theorem r31_14 : Go.Eng.isTrue (Go.Eng.twoRun Try.prog Go.Eng.noSums (⟨14, 16, 17, 43, 58⟩ : Go.Eng.Fns) 1000 60 9 (.row [5]) (.row [2, 1, 1, 1])) = true := by kernel_rfl
set_option maxRecDepth 100000 in
theorem r31_15 : Go.Eng.isTrue (Go.Eng.twoRun Try.prog Go.Eng.noSums (⟨14, 16, 17, 43, 58⟩ : Go.Eng.Fns) 1000 60 9 (.row [5]) (.row [2, 1, 1, 1, 1])) = true := by kernel_rfl
set_option maxRecDepth 100000 in
theorem r31_16 : Go.Eng.isTrue (Go.Eng.twoRun Try.prog Go.Eng.noSums (⟨14, 16, 17, 43, 58⟩ : Go.Eng.Fns) 1000 60 9 (.row [5]) (.row [2, 2])) = true := by kernel_rfl
set_option maxRecDepth 100000 in
theorem r31_17 : Go.Eng.isTrue (Go.Eng.twoRun Try.prog Go.Eng.noSums (⟨14, 16, 17, 43, 58⟩ : Go.Eng.Fns) 1000 60 9 (.row [5]) (.row [2, 2, 1])) = true := by kernel_rfl
set_option maxRecDepth 100000 in
theorem r31_18 : Go.Eng.isTrue (Go.Eng.twoRun Try.prog Go.Eng.noSums (⟨14, 16, 17, 43, 58⟩ : Go.Eng.Fns) 1000 60 9 (.row [5]) (.row [2, 2, 1, 1])) = true := by kernel_rfl
set_option maxRecDepth 100000 in
theorem r31_19 : Go.Eng.isTrue (Go.Eng.twoRun Try.prog Go.Eng.noSums (⟨14, 16, 17, 43, 58⟩ : Go.Eng.Fns) 1000 60 9 (.row [5]) (.row [2, 2, 2])) = true := by kernel_rfl
set_option maxRecDepth 100000 in
theorem r31_20 : Go.Eng.isTrue (Go.Eng.twoRun Try.prog Go.Eng.noSums (⟨14, 16, 17, 43, 58⟩ : Go.Eng.Fns) 1000 60 9 (.row [5]) (.row [3])) = true := by kernel_rfl
set_option maxRecDepth 100000 in
theorem r31_21 : Go.Eng.isTrue (Go.Eng.twoRun Try.prog Go.Eng.noSums (⟨14, 16, 17, 43, 58⟩ : Go.Eng.Fns) 1000 60 9 (.row [5]) (.row [3, 1])) = true := by kernel_rfl
set_option maxRecDepth 100000 in
theorem r31_22 : Go.Eng.isTrue (Go.Eng.twoRun Try.prog Go.Eng.noSums (⟨14, 16, 17, 43, 58⟩ : Go.Eng.Fns) 1000 60 9 (.row [5]) (.row [3, 1, 1])) = true := by kernel_rfl
set_option maxRecDepth 100000 in
theorem r31_23 : Go.Eng.isTrue (Go.Eng.twoRun Try.prog Go.Eng.noSums (⟨14, 16, 17, 43, 58⟩ : Go.Eng.Fns) 1000 60 9 (.row [5]) (.row [3, 1, 1, 1])) = true := by kernel_rfl
set_option maxRecDepth 100000 in
theorem r31_24 : Go.Eng.isTrue (Go.Eng.twoRun Try.prog Go.Eng.noSums (⟨14, 16, 17, 43, 58⟩ : Go.Eng.Fns) 1000 60 9 (.row [5]) (.row [3, 2])) = true := by kernel_rfl
set_option maxRecDepth 100000 in
theorem r31_25 : Go.Eng.isTrue (Go.Eng.twoRun Try.prog Go.Eng.noSums (⟨14, 16, 17, 43, 58⟩ : Go.Eng.Fns) 1000 60 9 (.row [5]) (.row [3, 2, 1])) = true := by kernel_rfl
set_option maxRecDepth 100000 in
theorem r31_26 : Go.Eng.isTrue (Go.Eng.twoRun Try.prog Go.Eng.noSums (⟨14, 16, 17, 43, 58⟩ : Go.Eng.Fns) 1000 60 9 (.row [5]) (.row [3, 3])) = true := by kernel_rfl
set_option maxRecDepth 100000 in
theorem r31_27 : Go.Eng.isTrue (Go.Eng.twoRun Try.prog Go.Eng.noSums (⟨14, 16, 17, 43, 58⟩ : Go.Eng.Fns) 1000 60 9 (.row [5]) (.row [4])) = true := by kernel_rfl
set_option maxRecDepth 100000 in
theorem r31_28 : Go.Eng.isTrue (Go.Eng.twoRun Try.prog Go.Eng.noSums (⟨14, 16, 17, 43, 58⟩ : Go.Eng.Fns) 1000 60 9 (.row [5]) (.row [4, 1])) = true := by kernel_rfl
set_option maxRecDepth 100000 in
theorem r31_29 : Go.Eng.isTrue (Go.Eng.twoRun Try.prog Go.Eng.noSums (⟨14, 16, 17, 43, 58⟩ : Go.Eng.Fns) 1000 60 9 (.row [5]) (.row [4, 1, 1])) = true := by kernel_rfl
set_option maxRecDepth 100000 in
theorem r31_30 : Go.Eng.isTrue (Go.Eng.twoRun Try.prog Go.Eng.noSums (⟨14, 16, 17, 43, 58⟩ : Go.Eng.Fns) 1000 60 9 (.row [5]) (.row [4, 2])) = true := by kernel_rfl
set_option maxRecDepth 100000 in
theorem r31_31 : Go.Eng.isTrue (Go.Eng.twoRun Try.prog Go.Eng.noSums (⟨14, 16, 17, 43, 58⟩ : Go.Eng.Fns) 1000 60 9 (.row [5]) (.row [5])) = true := by kernel_rfl
set_option maxRecDepth 100000 in
theorem r31_32 : Go.Eng.isTrue (Go.Eng.twoRun Try.prog Go.Eng.noSums (⟨14, 16, 17, 43, 58⟩ : Go.Eng.Fns) 1000 60 9 (.row [5]) (.row [5, 1])) = true := by kernel_rfl
set_option maxRecDepth 100000 in
theorem r31_33 : Go.Eng.isTrue (Go.Eng.twoRun Try.prog Go.Eng.noSums (⟨14, 16, 17, 43, 58⟩ : Go.Eng.Fns) 1000 60 9 (.row [5]) (.row [6])) = true := by kernel_rfl
theorem r31 : Go.Eng.AllL (fun c => Go.Eng.isTrue (Go.Eng.twoRun Try.prog Go.Eng.noSums (⟨14, 16, 17, 43, 58⟩ : Go.Eng.Fns) 1000 60 9 (.row [5]) c) = true) Go.Eng.classes := by
  unfold Go.Eng.classes
  rw [Go.Eng.shares_eq]
  exact ⟨r31_0, r31_1, r31_2, r31_3, r31_4, r31_5, r31_6, r31_7, r31_8, r31_9, r31_10, r31_11, r31_12, r31_13, r31_14, r31_15, r31_16, r31_17, r31_18, r31_19, r31_20, r31_21, r31_22, r31_23, r31_24, r31_25, r31_26, r31_27, r31_28, r31_29, r31_30, r31_31, r31_32, r31_33, trivial⟩
end Go.Proofs.Ytcjemdcffmfloaa.fnExactRestSumRuns
