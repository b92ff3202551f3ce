/- The runs of FnExactRestSum, part 2. -/
import Derived.Test.YtcjemdcffmfloaaEngZb
import Derived.Test.YtcjemdcffmfloaaProg
namespace Go.Proofs.Ytcjemdcffmfloaa.fnExactRestSumRuns
set_option linter.unusedVariables false
set_option linter.unusedSectionVars false
set_option linter.unusedSimpArgs false
set_option maxRecDepth 100000 in
theorem r2_0 : Go.Eng.isTrue (Go.Eng.twoRun Try.prog Go.Eng.noSums (⟨14, 16, 17, 43, 58⟩ : Go.Eng.Fns) 1000 60 9 .no .nil) = true := by kernel_rfl
set_option maxRecDepth 100000 in
theorem r2_1 : Go.Eng.isTrue (Go.Eng.twoRun Try.prog Go.Eng.noSums (⟨14, 16, 17, 43, 58⟩ : Go.Eng.Fns) 1000 60 9 .no .zero) = true := by kernel_rfl
set_option maxRecDepth 100000 in
theorem r2_2 : Go.Eng.isTrue (Go.Eng.twoRun Try.prog Go.Eng.noSums (⟨14, 16, 17, 43, 58⟩ : Go.Eng.Fns) 1000 60 9 .no .no) = true := by kernel_rfl
set_option maxRecDepth 100000 in
theorem r2_3 : Go.Eng.isTrue (Go.Eng.twoRun Try.prog Go.Eng.noSums (⟨14, 16, 17, 43, 58⟩ : Go.Eng.Fns) 1000 60 9 .no .long) = true := by kernel_rfl
set_option maxRecDepth 100000 in
theorem r2_4 : Go.Eng.isTrue (Go.Eng.twoRun Try.prog Go.Eng.noSums (⟨14, 16, 17, 43, 58⟩ : Go.Eng.Fns) 1000 60 9 .no (.row [])) = true := by kernel_rfl
set_option maxRecDepth 100000 in
theorem r2_5 : Go.Eng.isTrue (Go.Eng.twoRun Try.prog Go.Eng.noSums (⟨14, 16, 17, 43, 58⟩ : Go.Eng.Fns) 1000 60 9 .no (.row [1])) = true := by kernel_rfl
set_option maxRecDepth 100000 in
theorem r2_6 : Go.Eng.isTrue (Go.Eng.twoRun Try.prog Go.Eng.noSums (⟨14, 16, 17, 43, 58⟩ : Go.Eng.Fns) 1000 60 9 .no (.row [1, 1])) = true := by kernel_rfl
set_option maxRecDepth 100000 in
theorem r2_7 : Go.Eng.isTrue (Go.Eng.twoRun Try.prog Go.Eng.noSums (⟨14, 16, 17, 43, 58⟩ : Go.Eng.Fns) 1000 60 9 .no (.row [1, 1, 1])) = true := by kernel_rfl
set_option maxRecDepth 100000 in
theorem r2_8 : Go.Eng.isTrue (Go.Eng.twoRun Try.prog Go.Eng.noSums (⟨14, 16, 17, 43, 58⟩ : Go.Eng.Fns) 1000 60 9 .no (.row [1, 1, 1, 1])) = true := by kernel_rfl
set_option maxRecDepth 100000 in
theorem r2_9 : Go.Eng.isTrue (Go.Eng.twoRun Try.prog Go.Eng.noSums (⟨14, 16, 17, 43, 58⟩ : Go.Eng.Fns) 1000 60 9 .no (.row [1, 1, 1, 1, 1])) = true := by kernel_rfl
set_option maxRecDepth 100000 in
theorem r2_10 : Go.Eng.isTrue (Go.Eng.twoRun Try.prog Go.Eng.noSums (⟨14, 16, 17, 43, 58⟩ : Go.Eng.Fns) 1000 60 9 .no (.row [1, 1, 1, 1, 1, 1])) = true := by kernel_rfl
set_option maxRecDepth 100000 in
theorem r2_11 : Go.Eng.isTrue (Go.Eng.twoRun Try.prog Go.Eng.noSums (⟨14, 16, 17, 43, 58⟩ : Go.Eng.Fns) 1000 60 9 .no (.row [2])) = true := by kernel_rfl
set_option maxRecDepth 100000 in
theorem r2_12 : Go.Eng.isTrue (Go.Eng.twoRun Try.prog Go.Eng.noSums (⟨14, 16, 17, 43, 58⟩ : Go.Eng.Fns) 1000 60 9 .no (.row [2, 1])) = true := by kernel_rfl
set_option maxRecDepth 100000 in
theorem r2_13 : Go.Eng.isTrue (Go.Eng.twoRun Try.prog Go.Eng.noSums (⟨14, 16, 17, 43, 58⟩ : Go.Eng.Fns) 1000 60 9 .no (.row [2, 1, 1])) = true := by kernel_rfl
set_option maxRecDepth 100000 in
theorem r2_14 : Go.Eng.isTrue (Go.Eng.twoRun Try.prog Go.Eng.noSums (⟨14, 16, 17, 43, 58⟩ : Go.Eng.Fns) 1000 60 9 .no (.row [2, 1, 1, 1])) = true := by kernel_rfl
set_option maxRecDepth 100000 in
theorem r2_15 : Go.Eng.isTrue (Go.Eng.twoRun Try.prog Go.Eng.noSums (⟨14, 16, 17, 43, 58⟩ : Go.Eng.Fns) 1000 60 9 .no (.row [2, 1, 1, 1, 1])) = true := by kernel_rfl
set_option maxRecDepth 100000 in
theorem r2_16 : Go.Eng.isTrue (Go.Eng.twoRun Try.prog Go.Eng.noSums (⟨14, 16, 17, 43, 58⟩ : Go.Eng.Fns) 1000 60 9 .no (.row [2, 2])) = true := by kernel_rfl
set_option maxRecDepth 100000 in
theorem r2_17 : Go.Eng.isTrue (Go.Eng.twoRun Try.prog Go.Eng.noSums (⟨14, 16, 17, 43, 58⟩ : Go.Eng.Fns) 1000 60 9 .no (.row [2, 2, 1])) = true := by kernel_rfl
set_option maxRecDepth 100000 in
theorem r2_18 : Go.Eng.isTrue (Go.Eng.twoRun Try.prog Go.Eng.noSums (⟨14, 16, 17, 43, 58⟩ : Go.Eng.Fns) 1000 60 9 .no (.row [2, 2, 1, 1])) = true := by kernel_rfl
set_option maxRecDepth 100000 in
theorem r2_19 : Go.Eng.isTrue (Go.Eng.twoRun Try.prog Go.Eng.noSums (⟨14, 16, 17, 43, 58⟩ : Go.Eng.Fns) 1000 60 9 .no (.row [2, 2, 2])) = true := by kernel_rfl
set_option maxRecDepth 100000 in
theorem r2_20 : Go.Eng.isTrue (Go.Eng.twoRun Try.prog Go.Eng.noSums (⟨14, 16, 17, 43, 58⟩ : Go.Eng.Fns) 1000 60 9 .no (.row [3])) = true := by kernel_rfl
set_option maxRecDepth 100000 in
theorem r2_21 : Go.Eng.isTrue (Go.Eng.twoRun Try.prog Go.Eng.noSums (⟨14, 16, 17, 43, 58⟩ : Go.Eng.Fns) 1000 60 9 .no (.row [3, 1])) = true := by kernel_rfl
set_option maxRecDepth 100000 in
theorem r2_22 : Go.Eng.isTrue (Go.Eng.twoRun Try.prog Go.Eng.noSums (⟨14, 16, 17, 43, 58⟩ : Go.Eng.Fns) 1000 60 9 .no (.row [3, 1, 1])) = true := by kernel_rfl
set_option maxRecDepth 100000 in
theorem r2_23 : Go.Eng.isTrue (Go.Eng.twoRun Try.prog Go.Eng.noSums (⟨14, 16, 17, 43, 58⟩ : Go.Eng.Fns) 1000 60 9 .no (.row [3, 1, 1, 1])) = true := by kernel_rfl
set_option maxRecDepth 100000 in
theorem r2_24 : Go.Eng.isTrue (Go.Eng.twoRun Try.prog Go.Eng.noSums (⟨14, 16, 17, 43, 58⟩ : Go.Eng.Fns) 1000 60 9 .no (.row [3, 2])) = true := by kernel_rfl
set_option maxRecDepth 100000 in
theorem r2_25 : Go.Eng.isTrue (Go.Eng.twoRun Try.prog Go.Eng.noSums (⟨14, 16, 17, 43, 58⟩ : Go.Eng.Fns) 1000 60 9 .no (.row [3, 2, 1])) = true := by kernel_rfl
set_option maxRecDepth 100000 in
theorem r2_26 : Go.Eng.isTrue (Go.Eng.twoRun Try.prog Go.Eng.noSums (⟨14, 16, 17, 43, 58⟩ : Go.Eng.Fns) 1000 60 9 .no (.row [3, 3])) = true := by kernel_rfl
set_option maxRecDepth 100000 in
theorem r2_27 : Go.Eng.isTrue (Go.Eng.twoRun Try.prog Go.Eng.noSums (⟨14, 16, 17, 43, 58⟩ : Go.Eng.Fns) 1000 60 9 .no (.row [4])) = true := by kernel_rfl
set_option maxRecDepth 100000 in
theorem r2_28 : Go.Eng.isTrue (Go.Eng.twoRun Try.prog Go.Eng.noSums (⟨14, 16, 17, 43, 58⟩ : Go.Eng.Fns) 1000 60 9 .no (.row [4, 1])) = true := by kernel_rfl
set_option maxRecDepth 100000 in
theorem r2_29 : Go.Eng.isTrue (Go.Eng.twoRun Try.prog Go.Eng.noSums (⟨14, 16, 17, 43, 58⟩ : Go.Eng.Fns) 1000 60 9 .no (.row [4, 1, 1])) = true := by kernel_rfl
set_option maxRecDepth 100000 in
theorem r2_30 : Go.Eng.isTrue (Go.Eng.twoRun Try.prog Go.Eng.noSums (⟨14, 16, 17, 43, 58⟩ : Go.Eng.Fns) 1000 60 9 .no (.row [4, 2])) = true := by kernel_rfl
set_option maxRecDepth 100000 in
theorem r2_31 : Go.Eng.isTrue (Go.Eng.twoRun Try.prog Go.Eng.noSums (⟨14, 16, 17, 43, 58⟩ : Go.Eng.Fns) 1000 60 9 .no (.row [5])) = true := by kernel_rfl
set_option maxRecDepth 100000 in
theorem r2_32 : Go.Eng.isTrue (Go.Eng.twoRun Try.prog Go.Eng.noSums (⟨14, 16, 17, 43, 58⟩ : Go.Eng.Fns) 1000 60 9 .no (.row [5, 1])) = true := by kernel_rfl
set_option maxRecDepth 100000 in
theorem r2_33 : Go.Eng.isTrue (Go.Eng.twoRun Try.prog Go.Eng.noSums (⟨14, 16, 17, 43, 58⟩ : Go.Eng.Fns) 1000 60 9 .no (.row [6])) = true := by kernel_rfl
theorem r2 : Go.Eng.AllL (fun c => Go.Eng.isTrue (Go.Eng.twoRun Try.prog Go.Eng.noSums (⟨14, 16, 17, 43, 58⟩ : Go.Eng.Fns) 1000 60 9 .no c) = true) Go.Eng.classes := by
  unfold Go.Eng.classes
  rw [Go.Eng.shares_eq]
  exact ⟨r2_0, r2_1, r2_2, r2_3, r2_4, r2_5, r2_6, r2_7, r2_8, r2_9, r2_10, r2_11, r2_12, r2_13, r2_14, r2_15, r2_16, r2_17, r2_18, r2_19, r2_20, r2_21, r2_22, r2_23, r2_24, r2_25, r2_26, r2_27, r2_28, r2_29, r2_30, r2_31, r2_32, r2_33, trivial⟩
set_option maxRecDepth 100000 in
theorem r6_0 : Go.Eng.isTrue (Go.Eng.twoRun Try.prog Go.Eng.noSums (⟨14, 16, 17, 43, 58⟩ : Go.Eng.Fns) 1000 60 9 (.row [1, 1]) .nil) = true := by kernel_rfl
set_option maxRecDepth 100000 in
theorem r6_1 : Go.Eng.isTrue (Go.Eng.twoRun Try.prog Go.Eng.noSums (⟨14, 16, 17, 43, 58⟩ : Go.Eng.Fns) 1000 60 9 (.row [1, 1]) .zero) = true := by kernel_rfl
set_option maxRecDepth 100000 in
theorem r6_2 : Go.Eng.isTrue (Go.Eng.twoRun Try.prog Go.Eng.noSums (⟨14, 16, 17, 43, 58⟩ : Go.Eng.Fns) 1000 60 9 (.row [1, 1]) .no) = true := by kernel_rfl
set_option maxRecDepth 100000 in
theorem r6_3 : Go.Eng.isTrue (Go.Eng.twoRun Try.prog Go.Eng.noSums (⟨14, 16, 17, 43, 58⟩ : Go.Eng.Fns) 1000 60 9 (.row [1, 1]) .long) = true := by kernel_rfl
set_option maxRecDepth 100000 in
theorem r6_4 : Go.Eng.isTrue (Go.Eng.twoRun Try.prog Go.Eng.noSums (⟨14, 16, 17, 43, 58⟩ : Go.Eng.Fns) 1000 60 9 (.row [1, 1]) (.row [])) = true := by kernel_rfl
set_option maxRecDepth 100000 in
theorem r6_5 : Go.Eng.isTrue (Go.Eng.twoRun Try.prog Go.Eng.noSums (⟨14, 16, 17, 43, 58⟩ : Go.Eng.Fns) 1000 60 9 (.row [1, 1]) (.row [1])) = true := by kernel_rfl
set_option maxRecDepth 100000 in
theorem r6_6 : Go.Eng.isTrue (Go.Eng.twoRun Try.prog Go.Eng.noSums (⟨14, 16, 17, 43, 58⟩ : Go.Eng.Fns) 1000 60 9 (.row [1, 1]) (.row [1, 1])) = true := by kernel_rfl
set_option maxRecDepth 100000 in
theorem r6_7 : Go.Eng.isTrue (Go.Eng.twoRun Try.prog Go.Eng.noSums (⟨14, 16, 17, 43, 58⟩ : Go.Eng.Fns) 1000 60 9 (.row [1, 1]) (.row [1, 1, 1])) = true := by kernel_rfl
set_option maxRecDepth 100000 in
theorem r6_8 : Go.Eng.isTrue (Go.Eng.twoRun Try.prog Go.Eng.noSums (⟨14, 16, 17, 43, 58⟩ : Go.Eng.Fns) 1000 60 9 (.row [1, 1]) (.row [1, 1, 1, 1])) = true := by kernel_rfl
set_option maxRecDepth 100000 in
theorem r6_9 : Go.Eng.isTrue (Go.Eng.twoRun Try.prog Go.Eng.noSums (⟨14, 16, 17, 43, 58⟩ : Go.Eng.Fns) 1000 60 9 (.row [1, 1]) (.row [1, 1, 1, 1, 1])) = true := by kernel_rfl
set_option maxRecDepth 100000 in
theorem r6_10 : Go.Eng.isTrue (Go.Eng.twoRun Try.prog Go.Eng.noSums (⟨14, 16, 17, 43, 58⟩ : Go.Eng.Fns) 1000 60 9 (.row [1, 1]) (.row [1, 1, 1, 1, 1, 1])) = true := by kernel_rfl
set_option maxRecDepth 100000 in
theorem r6_11 : Go.Eng.isTrue (Go.Eng.twoRun Try.prog Go.Eng.noSums (⟨14, 16, 17, 43, 58⟩ : Go.Eng.Fns) 1000 60 9 (.row [1, 1]) (.row [2])) = true := by kernel_rfl
set_option maxRecDepth 100000 in
theorem r6_12 : Go.Eng.isTrue (Go.Eng.twoRun Try.prog Go.Eng.noSums (⟨14, 16, 17, 43, 58⟩ : Go.Eng.Fns) 1000 60 9 (.row [1, 1]) (.row [2, 1])) = true := by kernel_rfl
set_option maxRecDepth 100000 in
theorem r6_13 : Go.Eng.isTrue (Go.Eng.twoRun Try.prog Go.Eng.noSums (⟨14, 16, 17, 43, 58⟩ : Go.Eng.Fns) 1000 60 9 (.row [1, 1]) (.row [2, 1, 1])) = true := by kernel_rfl
set_option maxRecDepth 100000 in
theorem r6_14 : Go.Eng.isTrue (Go.Eng.twoRun Try.prog Go.Eng.noSums (⟨14, 16, 17, 43, 58⟩ : Go.Eng.Fns) 1000 60 9 (.row [1, 1]) (.row [2, 1, 1, 1])) = true := by kernel_rfl
set_option maxRecDepth 100000 in
theorem r6_15 : Go.Eng.isTrue (Go.Eng.twoRun Try.prog Go.Eng.noSums (⟨14, 16, 17, 43, 58⟩ : Go.Eng.Fns) 1000 60 9 (.row [1, 1]) (.row [2, 1, 1, 1, 1])) = true := by kernel_rfl
set_option maxRecDepth 100000 in
theorem r6_16 : Go.Eng.isTrue (Go.Eng.twoRun Try.prog Go.Eng.noSums (⟨14, 16, 17, 43, 58⟩ : Go.Eng.Fns) 1000 60 9 (.row [1, 1]) (.row [2, 2])) = true := by kernel_rfl
set_option maxRecDepth 100000 in
theorem r6_17 : Go.Eng.isTrue (Go.Eng.twoRun Try.prog Go.Eng.noSums (⟨14, 16, 17, 43, 58⟩ : Go.Eng.Fns) 1000 60 9 (.row [1, 1]) (.row [2, 2, 1])) = true := by kernel_rfl
set_option maxRecDepth 100000 in
theorem r6_18 : Go.Eng.isTrue (Go.Eng.twoRun Try.prog Go.Eng.noSums (⟨14, 16, 17, 43, 58⟩ : Go.Eng.Fns) 1000 60 9 (.row [1, 1]) (.row [2, 2, 1, 1])) = true := by kernel_rfl
set_option maxRecDepth 100000 in
theorem r6_19 : Go.Eng.isTrue (Go.Eng.twoRun Try.prog Go.Eng.noSums (⟨14, 16, 17, 43, 58⟩ : Go.Eng.Fns) 1000 60 9 (.row [1, 1]) (.row [2, 2, 2])) = true := by kernel_rfl
set_option maxRecDepth 100000 in
theorem r6_20 : Go.Eng.isTrue (Go.Eng.twoRun Try.prog Go.Eng.noSums (⟨14, 16, 17, 43, 58⟩ : Go.Eng.Fns) 1000 60 9 (.row [1, 1]) (.row [3])) = true := by kernel_rfl
set_option maxRecDepth 100000 in
theorem r6_21 : Go.Eng.isTrue (Go.Eng.twoRun Try.prog Go.Eng.noSums (⟨14, 16, 17, 43, 58⟩ : Go.Eng.Fns) 1000 60 9 (.row [1, 1]) (.row [3, 1])) = true := by kernel_rfl
set_option maxRecDepth 100000 in
theorem r6_22 : Go.Eng.isTrue (Go.Eng.twoRun Try.prog Go.Eng.noSums (⟨14, 16, 17, 43, 58⟩ : Go.Eng.Fns) 1000 60 9 (.row [1, 1]) (.row [3, 1, 1])) = true := by kernel_rfl
set_option maxRecDepth 100000 in
theorem r6_23 : Go.Eng.isTrue (Go.Eng.twoRun Try.prog Go.Eng.noSums (⟨14, 16, 17, 43, 58⟩ : Go.Eng.Fns) 1000 60 9 (.row [1, 1]) (.row [3, 1, 1, 1])) = true := by kernel_rfl
set_option maxRecDepth 100000 in
theorem r6_24 : Go.Eng.isTrue (Go.Eng.twoRun Try.prog Go.Eng.noSums (⟨14, 16, 17, 43, 58⟩ : Go.Eng.Fns) 1000 60 9 (.row [1, 1]) (.row [3, 2])) = true := by kernel_rfl
set_option maxRecDepth 100000 in
theorem r6_25 : Go.Eng.isTrue (Go.Eng.twoRun Try.prog Go.Eng.noSums (⟨14, 16, 17, 43, 58⟩ : Go.Eng.Fns) 1000 60 9 (.row [1, 1]) (.row [3, 2, 1])) = true := by kernel_rfl
set_option maxRecDepth 100000 in
theorem r6_26 : Go.Eng.isTrue (Go.Eng.twoRun Try.prog Go.Eng.noSums (⟨14, 16, 17, 43, 58⟩ : Go.Eng.Fns) 1000 60 9 (.row [1, 1]) (.row [3, 3])) = true := by kernel_rfl
set_option maxRecDepth 100000 in
theorem r6_27 : Go.Eng.isTrue (Go.Eng.twoRun Try.prog Go.Eng.noSums (⟨14, 16, 17, 43, 58⟩ : Go.Eng.Fns) 1000 60 9 (.row [1, 1]) (.row [4])) = true := by kernel_rfl
set_option maxRecDepth 100000 in
theorem r6_28 : Go.Eng.isTrue (Go.Eng.twoRun Try.prog Go.Eng.noSums (⟨14, 16, 17, 43, 58⟩ : Go.Eng.Fns) 1000 60 9 (.row [1, 1]) (.row [4, 1])) = true := by kernel_rfl
set_option maxRecDepth 100000 in
theorem r6_29 : Go.Eng.isTrue (Go.Eng.twoRun Try.prog Go.Eng.noSums (⟨14, 16, 17, 43, 58⟩ : Go.Eng.Fns) 1000 60 9 (.row [1, 1]) (.row [4, 1, 1])) = true := by kernel_rfl
set_option maxRecDepth 100000 in
theorem r6_30 : Go.Eng.isTrue (Go.Eng.twoRun Try.prog Go.Eng.noSums (⟨14, 16, 17, 43, 58⟩ : Go.Eng.Fns) 1000 60 9 (.row [1, 1]) (.row [4, 2])) = true := by kernel_rfl
set_option maxRecDepth 100000 in
theorem r6_31 : Go.Eng.isTrue (Go.Eng.twoRun Try.prog Go.Eng.noSums (⟨14, 16, 17, 43, 58⟩ : Go.Eng.Fns) 1000 60 9 (.row [1, 1]) (.row [5])) = true := by kernel_rfl
set_option maxRecDepth 100000 in
theorem r6_32 : Go.Eng.isTrue (Go.Eng.twoRun Try.prog Go.Eng.noSums (⟨14, 16, 17, 43, 58⟩ : Go.Eng.Fns) 1000 60 9 (.row [1, 1]) (.row [5, 1])) = true := by kernel_rfl
set_option maxRecDepth 100000 in
theorem r6_33 : Go.Eng.isTrue (Go.Eng.twoRun Try.prog Go.Eng.noSums (⟨14, 16, 17, 43, 58⟩ : Go.Eng.Fns) 1000 60 9 (.row [1, 1]) (.row [6])) = true := by kernel_rfl
theorem r6 : Go.Eng.AllL (fun c => Go.Eng.isTrue (Go.Eng.twoRun Try.prog Go.Eng.noSums (⟨14, 16, 17, 43, 58⟩ : Go.Eng.Fns) 1000 60 9 (.row [1, 1]) c) = true) Go.Eng.classes := by
  unfold Go.Eng.classes
  rw [Go.Eng.shares_eq]
  exact ⟨r6_0, r6_1, r6_2, r6_3, r6_4, r6_5, r6_6, r6_7, r6_8, r6_9, r6_10, r6_11, r6_12, r6_13, r6_14, r6_15, r6_16, r6_17, r6_18, r6_19, r6_20, r6_21, r6_22, r6_23, r6_24, r6_25, r6_26, r6_27, r6_28, r6_29, r6_30, r6_31, r6_32, r6_33, trivial⟩
set_option maxRecDepth 100000 in
theorem r10_0 : Go.Eng.isTrue (Go.Eng.twoRun Try.prog Go.Eng.noSums (⟨14, 16, 17, 43, 58⟩ : Go.Eng.Fns) 1000 60 9 (.row [1, 1, 1, 1, 1, 1]) .nil) = true := by kernel_rfl
set_option maxRecDepth 100000 in
theorem r10_1 : Go.Eng.isTrue (Go.Eng.twoRun Try.prog Go.Eng.noSums (⟨14, 16, 17, 43, 58⟩ : Go.Eng.Fns) 1000 60 9 (.row [1, 1, 1, 1, 1, 1]) .zero) = true := by kernel_rfl
set_option maxRecDepth 100000 in
theorem r10_2 : Go.Eng.isTrue (Go.Eng.twoRun Try.prog Go.Eng.noSums (⟨14, 16, 17, 43, 58⟩ : Go.Eng.Fns) 1000 60 9 (.row [1, 1, 1, 1, 1, 1]) .no) = true := by kernel_rfl
set_option maxRecDepth 100000 in
theorem r10_3 : Go.Eng.isTrue (Go.Eng.twoRun Try.prog Go.Eng.noSums (⟨14, 16, 17, 43, 58⟩ : Go.Eng.Fns) 1000 60 9 (.row [1, 1, 1, 1, 1, 1]) .long) = true := by kernel_rfl
set_option maxRecDepth 100000 in
theorem r10_4 : Go.Eng.isTrue (Go.Eng.twoRun Try.prog Go.Eng.noSums (⟨14, 16, 17, 43, 58⟩ : Go.Eng.Fns) 1000 60 9 (.row [1, 1, 1, 1, 1, 1]) (.row [])) = true := by kernel_rfl
set_option maxRecDepth 100000 in
theorem r10_5 : Go.Eng.isTrue (Go.Eng.twoRun Try.prog Go.Eng.noSums (⟨14, 16, 17, 43, 58⟩ : Go.Eng.Fns) 1000 60 9 (.row [1, 1, 1, 1, 1, 1]) (.row [1])) = true := by kernel_rfl
set_option maxRecDepth 100000 in
theorem r10_6 : Go.Eng.isTrue (Go.Eng.twoRun Try.prog Go.Eng.noSums (⟨14, 16, 17, 43, 58⟩ : Go.Eng.Fns) 1000 60 9 (.row [1, 1, 1, 1, 1, 1]) (.row [1, 1])) = true := by kernel_rfl
set_option maxRecDepth 100000 in
theorem r10_7 : Go.Eng.isTrue (Go.Eng.twoRun Try.prog Go.Eng.noSums (⟨14, 16, 17, 43, 58⟩ : Go.Eng.Fns) 1000 60 9 (.row [1, 1, 1, 1, 1, 1]) (.row [1, 1, 1])) = true := by kernel_rfl
set_option maxRecDepth 100000 in
theorem r10_8 : Go.Eng.isTrue (Go.Eng.twoRun Try.prog Go.Eng.noSums (⟨14, 16, 17, 43, 58⟩ : Go.Eng.Fns) 1000 60 9 (.row [1, 1, 1, 1, 1, 1]) (.row [1, 1, 1, 1])) = true := by kernel_rfl
set_option maxRecDepth 100000 in
theorem r10_9 : Go.Eng.isTrue (Go.Eng.twoRun Try.prog Go.Eng.noSums (⟨14, 16, 17, 43, 58⟩ : Go.Eng.Fns) 1000 60 9 (.row [1, 1, 1, 1, 1, 1]) (.row [1, 1, 1, 1, 1])) = true := by kernel_rfl
set_option maxRecDepth 100000 in
theorem r10_10 : Go.Eng.isTrue (Go.Eng.twoRun Try.prog Go.Eng.noSums (⟨14, 16, 17, 43, 58⟩ : Go.Eng.Fns) 1000 60 9 (.row [1, 1, 1, 1, 1, 1]) (.row [1, 1, 1, 1, 1, 1])) = true := by kernel_rfl
set_option maxRecDepth 100000 in
theorem r10_11 : Go.Eng.isTrue (Go.Eng.twoRun Try.prog Go.Eng.noSums (⟨14, 16, 17, 43, 58⟩ : Go.Eng.Fns) 1000 60 9 (.row [1, 1, 1, 1, 1, 1]) (.row [2])) = true := by kernel_rfl
set_option maxRecDepth 100000 in
theorem r10_12 : Go.Eng.isTrue (Go.Eng.twoRun Try.prog Go.Eng.noSums (⟨14, 16, 17, 43, 58⟩ : Go.Eng.Fns) 1000 60 9 (.row [1, 1, 1, 1, 1, 1]) (.row [2, 1])) = true := by kernel_rfl
set_option maxRecDepth 100000 in
theorem r10_13 : Go.Eng.isTrue (Go.Eng.twoRun Try.prog Go.Eng.noSums (⟨14, 16, 17, 43, 58⟩ : Go.Eng.Fns) 1000 60 9 (.row [1, 1, 1, 1, 1, 1]) (.row [2, 1, 1])) = true := by kernel_rfl
set_option maxRecDepth 100000 in
theorem r10_14 : Go.Eng.isTrue (Go.Eng.twoRun Try.prog Go.Eng.noSums (⟨14, 16, 17, 43, 58⟩ : Go.Eng.Fns) 1000 60 9 (.row [1, 1, 1, 1, 1, 1]) (.row [2, 1, 1, 1])) = true := by kernel_rfl
set_option maxRecDepth 100000 in
theorem r10_15 : Go.Eng.isTrue (Go.Eng.twoRun Try.prog Go.Eng.noSums (⟨14, 16, 17, 43, 58⟩ : Go.Eng.Fns) 1000 60 9 (.row [1, 1, 1, 1, 1, 1]) (.row [2, 1, 1, 1, 1])) = true := by kernel_rfl
set_option maxRecDepth 100000 in
theorem r10_16 : Go.Eng.isTrue (Go.Eng.twoRun Try.prog Go.Eng.noSums (⟨14, 16, 17, 43, 58⟩ : Go.Eng.Fns) 1000 60 9 (.row [1, 1, 1, 1, 1, 1]) (.row [2, 2])) = true := by kernel_rfl
set_option maxRecDepth 100000 in
theorem r10_17 : Go.Eng.isTrue (Go.Eng.twoRun Try.prog Go.Eng.noSums (⟨14, 16, 17, 43, 58⟩ : Go.Eng.Fns) 1000 60 9 (.row [1, 1, 1, 1, 1, 1]) (.row [2, 2, 1])) = true := by kernel_rfl
set_option maxRecDepth 100000 in
theorem r10_18 : Go.Eng.isTrue (Go.Eng.twoRun Try.prog Go.Eng.noSums (⟨14, 16, 17, 43, 58⟩ : Go.Eng.Fns) 1000 60 9 (.row [1, 1, 1, 1, 1, 1]) (.row [2, 2, 1, 1])) = true := by kernel_rfl
set_option maxRecDepth 100000 in
theorem r10_19 : Go.Eng.isTrue (Go.Eng.twoRun Try.prog Go.Eng.noSums (⟨14, 16, 17, 43, 58⟩ : Go.Eng.Fns) 1000 60 9 (.row [1, 1, 1, 1, 1, 1]) (.row [2, 2, 2])) = true := by kernel_rfl
set_option maxRecDepth 100000 in
theorem r10_20 : Go.Eng.isTrue (Go.Eng.twoRun Try.prog Go.Eng.noSums (⟨14, 16, 17, 43, 58⟩ : Go.Eng.Fns) 1000 60 9 (.row [1, 1, 1, 1, 1, 1]) (.row [3])) = true := by kernel_rfl
set_option maxRecDepth 100000 in
theorem r10_21 : Go.Eng.isTrue (Go.Eng.twoRun Try.prog Go.Eng.noSums (⟨14, 16, 17, 43, 58⟩ : Go.Eng.Fns) 1000 60 9 (.row [1, 1, 1, 1, 1, 1]) (.row [3, 1])) = true := by kernel_rfl
set_option maxRecDepth 100000 in
theorem r10_22 : Go.Eng.isTrue (Go.Eng.twoRun Try.prog Go.Eng.noSums (⟨14, 16, 17, 43, 58⟩ : Go.Eng.Fns) 1000 60 9 (.row [1, 1, 1, 1, 1, 1]) (.row [3, 1, 1])) = true := by kernel_rfl
set_option maxRecDepth 100000 in
theorem r10_23 : Go.Eng.isTrue (Go.Eng.twoRun Try.prog Go.Eng.noSums (⟨14, 16, 17, 43, 58⟩ : Go.Eng.Fns) 1000 60 9 (.row [1, 1, 1, 1, 1, 1]) (.row [3, 1, 1, 1])) = true := by kernel_rfl
set_option maxRecDepth 100000 in
theorem r10_24 : Go.Eng.isTrue (Go.Eng.twoRun Try.prog Go.Eng.noSums (⟨14, 16, 17, 43, 58⟩ : Go.Eng.Fns) 1000 60 9 (.row [1, 1, 1, 1, 1, 1]) (.row [3, 2])) = true := by kernel_rfl
set_option maxRecDepth 100000 in
theorem r10_25 : Go.Eng.isTrue (Go.Eng.twoRun Try.prog Go.Eng.noSums (⟨14, 16, 17, 43, 58⟩ : Go.Eng.Fns) 1000 60 9 (.row [1, 1, 1, 1, 1, 1]) (.row [3, 2, 1])) = true := by kernel_rfl
set_option maxRecDepth 100000 in
theorem r10_26 : Go.Eng.isTrue (Go.Eng.twoRun Try.prog Go.Eng.noSums (⟨14, 16, 17, 43, 58⟩ : Go.Eng.Fns) 1000 60 9 (.row [1, 1, 1, 1, 1, 1]) (.row [3, 3])) = true := by kernel_rfl
set_option maxRecDepth 100000 in
theorem r10_27 : Go.Eng.isTrue (Go.Eng.twoRun Try.prog Go.Eng.noSums (⟨14, 16, 17, 43, 58⟩ : Go.Eng.Fns) 1000 60 9 (.row [1, 1, 1, 1, 1, 1]) (.row [4])) = true := by kernel_rfl
set_option maxRecDepth 100000 in
theorem r10_28 : Go.Eng.isTrue (Go.Eng.twoRun Try.prog Go.Eng.noSums (⟨14, 16, 17, 43, 58⟩ : Go.Eng.Fns) 1000 60 9 (.row [1, 1, 1, 1, 1, 1]) (.row [4, 1])) = true := by kernel_rfl
set_option maxRecDepth 100000 in
theorem r10_29 : Go.Eng.isTrue (Go.Eng.twoRun Try.prog Go.Eng.noSums (⟨14, 16, 17, 43, 58⟩ : Go.Eng.Fns) 1000 60 9 (.row [1, 1, 1, 1, 1, 1]) (.row [4, 1, 1])) = true := by kernel_rfl
set_option maxRecDepth 100000 in
theorem r10_30 : Go.Eng.isTrue (Go.Eng.twoRun Try.prog Go.Eng.noSums (⟨14, 16, 17, 43, 58⟩ : Go.Eng.Fns) 1000 60 9 (.row [1, 1, 1, 1, 1, 1]) (.row [4, 2])) = true := by kernel_rfl
set_option maxRecDepth 100000 in
theorem r10_31 : Go.Eng.isTrue (Go.Eng.twoRun Try.prog Go.Eng.noSums (⟨14, 16, 17, 43, 58⟩ : Go.Eng.Fns) 1000 60 9 (.row [1, 1, 1, 1, 1, 1]) (.row [5])) = true := by kernel_rfl
set_option maxRecDepth 100000 in
theorem r10_32 : Go.Eng.isTrue (Go.Eng.twoRun Try.prog Go.Eng.noSums (⟨14, 16, 17, 43, 58⟩ : Go.Eng.Fns) 1000 60 9 (.row [1, 1, 1, 1, 1, 1]) (.row [5, 1])) = true := by kernel_rfl
set_option maxRecDepth 100000 in
theorem r10_33 : Go.Eng.isTrue (Go.Eng.twoRun Try.prog Go.Eng.noSums (⟨14, 16, 17, 43, 58⟩ : Go.Eng.Fns) 1000 60 9 (.row [1, 1, 1, 1, 1, 1]) (.row [6])) = true := by kernel_rfl
theorem r10 : Go.Eng.AllL (fun c => Go.Eng.isTrue (Go.Eng.twoRun Try.prog Go.Eng.noSums (⟨14, 16, 17, 43, 58⟩ : Go.Eng.Fns) 1000 60 9 (.row [1, 1, 1, 1, 1, 1]) c) = true) Go.Eng.classes := by
  unfold Go.Eng.classes
  rw [Go.Eng.shares_eq]
  exact ⟨r10_0, r10_1, r10_2, r10_3, r10_4, r10_5, r10_6, r10_7, r10_8, r10_9, r10_10, r10_11, r10_12, r10_13, r10_14, r10_15, r10_16, r10_17, r10_18, r10_19, r10_20, r10_21, r10_22, r10_23, r10_24, r10_25, r10_26, r10_27, r10_28, r10_29, r10_30, r10_31, r10_32, r10_33, trivial⟩
set_option maxRecDepth 100000 in
theorem r14_0 : Go.Eng.isTrue (Go.Eng.twoRun Try.prog Go.Eng.noSums (⟨14, 16, 17, 43, 58⟩ : Go.Eng.Fns) 1000 60 9 (.row [2, 1, 1, 1]) .nil) = true := by kernel_rfl
set_option maxRecDepth 100000 in
theorem r14_1 : Go.Eng.isTrue (Go.Eng.twoRun Try.prog Go.Eng.noSums (⟨14, 16, 17, 43, 58⟩ : Go.Eng.Fns) 1000 60 9 (.row [2, 1, 1, 1]) .zero) = true := by kernel_rfl
set_option maxRecDepth 100000 in
theorem r14_2 : Go.Eng.isTrue (Go.Eng.twoRun Try.prog Go.Eng.noSums (⟨14, 16, 17, 43, 58⟩ : Go.Eng.Fns) 1000 60 9 (.row [2, 1, 1, 1]) .no) = true := by kernel_rfl
set_option maxRecDepth 100000 in
theorem r14_3 : Go.Eng.isTrue (Go.Eng.twoRun Try.prog Go.Eng.noSums (⟨14, 16, 17, 43, 58⟩ : Go.Eng.Fns) 1000 60 9 (.row [2, 1, 1, 1]) .long) = true := by kernel_rfl
set_option maxRecDepth 100000 in
theorem r14_4 : Go.Eng.isTrue (Go.Eng.twoRun Try.prog Go.Eng.noSums (⟨14, 16, 17, 43, 58⟩ : Go.Eng.Fns) 1000 60 9 (.row [2, 1, 1, 1]) (.row [])) = true := by kernel_rfl
set_option maxRecDepth 100000 in
theorem r14_5 : Go.Eng.isTrue (Go.Eng.twoRun Try.prog Go.Eng.noSums (⟨14, 16, 17, 43, 58⟩ : Go.Eng.Fns) 1000 60 9 (.row [2, 1, 1, 1]) (.row [1])) = true := by kernel_rfl
set_option maxRecDepth 100000 in
theorem r14_6 : Go.Eng.isTrue (Go.Eng.twoRun Try.prog Go.Eng.noSums (⟨14, 16, 17, 43, 58⟩ : Go.Eng.Fns) 1000 60 9 (.row [2, 1, 1, 1]) (.row [1, 1])) = true := by kernel_rfl
set_option maxRecDepth 100000 in
theorem r14_7 : Go.Eng.isTrue (Go.Eng.twoRun Try.prog Go.Eng.noSums (⟨14, 16, 17, 43, 58⟩ : Go.Eng.Fns) 1000 60 9 (.row [2, 1, 1, 1]) (.row [1, 1, 1])) = true := by kernel_rfl
set_option maxRecDepth 100000 in
theorem r14_8 : Go.Eng.isTrue (Go.Eng.twoRun Try.prog Go.Eng.noSums (⟨14, 16, 17, 43, 58⟩ : Go.Eng.Fns) 1000 60 9 (.row [2, 1, 1, 1]) (.row [1, 1, 1, 1])) = true := by kernel_rfl
set_option maxRecDepth 100000 in
theorem r14_9 : Go.Eng.isTrue (Go.Eng.twoRun Try.prog Go.Eng.noSums (⟨14, 16, 17, 43, 58⟩ : Go.Eng.Fns) 1000 60 9 (.row [2, 1, 1, 1]) (.row [1, 1, 1, 1, 1])) = true := by kernel_rfl
set_option maxRecDepth 100000 in
theorem r14_10 : Go.Eng.isTrue (Go.Eng.twoRun Try.prog Go.Eng.noSums (⟨14, 16, 17, 43, 58⟩ : Go.Eng.Fns) 1000 60 9 (.row [2, 1, 1, 1]) (.row [1, 1, 1, 1, 1, 1])) = true := by kernel_rfl
set_option maxRecDepth 100000 in
theorem r14_11 : Go.Eng.isTrue (Go.Eng.twoRun Try.prog Go.Eng.noSums (⟨14, 16, 17, 43, 58⟩ : Go.Eng.Fns) 1000 60 9 (.row [2, 1, 1, 1]) (.row [2])) = true := by kernel_rfl
set_option maxRecDepth 100000 in
theorem r14_12 : Go.Eng.isTrue (Go.Eng.twoRun Try.prog Go.Eng.noSums (⟨14, 16, 17, 43, 58⟩ : Go.Eng.Fns) 1000 60 9 (.row [2, 1, 1, 1]) (.row [2, 1])) = true := by kernel_rfl
set_option maxRecDepth 100000 in
theorem r14_13 : Go.Eng.isTrue (Go.Eng.twoRun Try.prog Go.Eng.noSums (⟨14, 16, 17, 43, 58⟩ : Go.Eng.Fns) 1000 60 9 (.row [2, 1, 1, 1]) (.row [2, 1, 1])) = true := by kernel_rfl
set_option maxRecDepth 100000 in
theorem r14_14 : Go.Eng.isTrue (Go.Eng.twoRun Try.prog Go.Eng.noSums (⟨14, 16, 17, 43, 58⟩ : Go.Eng.Fns) 1000 60 9 (.row [2, 1, 1, 1]) (.row [2, 1, 1, 1])) = true := by kernel_rfl
set_option maxRecDepth 100000 in
theorem r14_15 : Go.Eng.isTrue (Go.Eng.twoRun Try.prog Go.Eng.noSums (⟨14, 16, 17, 43, 58⟩ : Go.Eng.Fns) 1000 60 9 (.row [2, 1, 1, 1]) (.row [2, 1, 1, 1, 1])) = true := by kernel_rfl
set_option maxRecDepth 100000 in
theorem r14_16 : Go.Eng.isTrue (Go.Eng.twoRun Try.prog Go.Eng.noSums (⟨14, 16, 17, 43, 58⟩ : Go.Eng.Fns) 1000 60 9 (.row [2, 1, 1, 1]) (.row [2, 2])) = true := by kernel_rfl
set_option maxRecDepth 100000 in
theorem r14_17 : Go.Eng.isTrue (Go.Eng.twoRun Try.prog Go.Eng.noSums (⟨14, 16, 17, 43, 58⟩ : Go.Eng.Fns) 1000 60 9 (.row [2, 1, 1, 1]) (.row [2, 2, 1])) = true := by kernel_rfl
set_option maxRecDepth 100000 in
theorem r14_18 : Go.Eng.isTrue (Go.Eng.twoRun Try.prog Go.Eng.noSums (⟨14, 16, 17, 43, 58⟩ : Go.Eng.Fns) 1000 60 9 (.row [2, 1, 1, 1]) (.row [2, 2, 1, 1])) = true := by kernel_rfl
set_option maxRecDepth 100000 in
theorem r14_19 : Go.Eng.isTrue (Go.Eng.twoRun Try.prog Go.Eng.noSums (⟨14, 16, 17, 43, 58⟩ : Go.Eng.Fns) 1000 60 9 (.row [2, 1, 1, 1]) (.row [2, 2, 2])) = true := by kernel_rfl
set_option maxRecDepth 100000 in
theorem r14_20 : Go.Eng.isTrue (Go.Eng.twoRun Try.prog Go.Eng.noSums (⟨14, 16, 17, 43, 58⟩ : Go.Eng.Fns) 1000 60 9 (.row [2, 1, 1, 1]) (.row [3])) = true := by kernel_rfl
set_option maxRecDepth 100000 in
theorem r14_21 : Go.Eng.isTrue (Go.Eng.twoRun Try.prog Go.Eng.noSums (⟨14, 16, 17, 43, 58⟩ : Go.Eng.Fns) 1000 60 9 (.row [2, 1, 1, 1]) (.row [3, 1])) = true := by kernel_rfl
set_option maxRecDepth 100000 in
theorem r14_22 : Go.Eng.isTrue (Go.Eng.twoRun Try.prog Go.Eng.noSums (⟨14, 16, 17, 43, 58⟩ : Go.Eng.Fns) 1000 60 9 (.row [2, 1, 1, 1]) (.row [3, 1, 1])) = true := by kernel_rfl
set_option maxRecDepth 100000 in
theorem r14_23 : Go.Eng.isTrue (Go.Eng.twoRun Try.prog Go.Eng.noSums (⟨14, 16, 17, 43, 58⟩ : Go.Eng.Fns) 1000 60 9 (.row [2, 1, 1, 1]) (.row [3, 1, 1, 1])) = true := by kernel_rfl
set_option maxRecDepth 100000 in
theorem r14_24 : Go.Eng.isTrue (Go.Eng.twoRun Try.prog Go.Eng.noSums (⟨14, 16, 17, 43, 58⟩ : Go.Eng.Fns) 1000 60 9 (.row [2, 1, 1, 1]) (.row [3, 2])) = true := by kernel_rfl
set_option maxRecDepth 100000 in
theorem r14_25 : Go.Eng.isTrue (Go.Eng.twoRun Try.prog Go.Eng.noSums (⟨14, 16, 17, 43, 58⟩ : Go.Eng.Fns) 1000 60 9 (.row [2, 1, 1, 1]) (.row [3, 2, 1])) = true := by kernel_rfl
set_option maxRecDepth 100000 in
theorem r14_26 : Go.Eng.isTrue (Go.Eng.twoRun Try.prog Go.Eng.noSums (⟨14, 16, 17, 43, 58⟩ : Go.Eng.Fns) 1000 60 9 (.row [2, 1, 1, 1]) (.row [3, 3])) = true := by kernel_rfl
set_option maxRecDepth 100000 in
theorem r14_27 : Go.Eng.isTrue (Go.Eng.twoRun Try.prog Go.Eng.noSums (⟨14, 16, 17, 43, 58⟩ : Go.Eng.Fns) 1000 60 9 (.row [2, 1, 1, 1]) (.row [4])) = true := by kernel_rfl
set_option maxRecDepth 100000 in
theorem r14_28 : Go.Eng.isTrue (Go.Eng.twoRun Try.prog Go.Eng.noSums (⟨14, 16, 17, 43, 58⟩ : Go.Eng.Fns) 1000 60 9 (.row [2, 1, 1, 1]) (.row [4, 1])) = true := by kernel_rfl
set_option maxRecDepth 100000 in
theorem r14_29 : Go.Eng.isTrue (Go.Eng.twoRun Try.prog Go.Eng.noSums (⟨14, 16, 17, 43, 58⟩ : Go.Eng.Fns) 1000 60 9 (.row [2, 1, 1, 1]) (.row [4, 1, 1])) = true := by kernel_rfl
set_option maxRecDepth 100000 in
theorem r14_30 : Go.Eng.isTrue (Go.Eng.twoRun Try.prog Go.Eng.noSums (⟨14, 16, 17, 43, 58⟩ : Go.Eng.Fns) 1000 60 9 (.row [2, 1, 1, 1]) (.row [4, 2])) = true := by kernel_rfl
set_option maxRecDepth 100000 in
theorem r14_31 : Go.Eng.isTrue (Go.Eng.twoRun Try.prog Go.Eng.noSums (⟨14, 16, 17, 43, 58⟩ : Go.Eng.Fns) 1000 60 9 (.row [2, 1, 1, 1]) (.row [5])) = true := by kernel_rfl
set_option maxRecDepth 100000 in
theorem r14_32 : Go.Eng.isTrue (Go.Eng.twoRun Try.prog Go.Eng.noSums (⟨14, 16, 17, 43, 58⟩ : Go.Eng.Fns) 1000 60 9 (.row [2, 1, 1, 1]) (.row [5, 1])) = true := by kernel_rfl
set_option maxRecDepth 100000 in
theorem r14_33 : Go.Eng.isTrue (Go.Eng.twoRun Try.prog Go.Eng.noSums (⟨14, 16, 17, 43, 58⟩ : Go.Eng.Fns) 1000 60 9 (.row [2, 1, 1, 1]) (.row [6])) = true := by kernel_rfl
theorem r14 : Go.Eng.AllL (fun c => Go.Eng.isTrue (Go.Eng.twoRun Try.prog Go.Eng.noSums (⟨14, 16, 17, 43, 58⟩ : Go.Eng.Fns) 1000 60 9 (.row [2, 1, 1, 1]) c) = true) Go.Eng.classes := by
  unfold Go.Eng.classes
  rw [Go.Eng.shares_eq]
  exact ⟨r14_0, r14_1, r14_2, r14_3, r14_4, r14_5, r14_6, r14_7, r14_8, r14_9, r14_10, r14_11, r14_12, r14_13, r14_14, r14_15, r14_16, r14_17, r14_18, r14_19, r14_20, r14_21, r14_22, r14_23, r14_24, r14_25, r14_26, r14_27, r14_28, r14_29, r14_30, r14_31, r14_32, r14_33, trivial⟩
set_option maxRecDepth 100000 in
theorem r18_0 : Go.Eng.isTrue (Go.Eng.twoRun Try.prog Go.Eng.noSums (⟨14, 16, 17, 43, 58⟩ : Go.Eng.Fns) 1000 60 9 (.row [2, 2, 1, 1]) .nil) = true := by kernel_rfl
set_option maxRecDepth 100000 in
theorem r18_1 : Go.Eng.isTrue (Go.Eng.twoRun Try.prog Go.Eng.noSums (⟨14, 16, 17, 43, 58⟩ : Go.Eng.Fns) 1000 60 9 (.row [2, 2, 1, 1]) .zero) = true := by kernel_rfl
set_option maxRecDepth 100000 in
theorem r18_2 : Go.Eng.isTrue (Go.Eng.twoRun Try.prog Go.Eng.noSums (⟨14, 16, 17, 43, 58⟩ : Go.Eng.Fns) 1000 60 9 (.row [2, 2, 1, 1]) .no) = true := by kernel_rfl
set_option maxRecDepth 100000 in
theorem r18_3 : Go.Eng.isTrue (Go.Eng.twoRun Try.prog Go.Eng.noSums (⟨14, 16, 17, 43, 58⟩ : Go.Eng.Fns) 1000 60 9 (.row [2, 2, 1, 1]) .long) = true := by kernel_rfl
set_option maxRecDepth 100000 in
theorem r18_4 : Go.Eng.isTrue (Go.Eng.twoRun Try.prog Go.Eng.noSums (⟨14, 16, 17, 43, 58⟩ : Go.Eng.Fns) 1000 60 9 (.row [2, 2, 1, 1]) (.row [])) = true := by kernel_rfl
set_option maxRecDepth 100000 in
theorem r18_5 : Go.Eng.isTrue (Go.Eng.twoRun Try.prog Go.Eng.noSums (⟨14, 16, 17, 43, 58⟩ : Go.Eng.Fns) 1000 60 9 (.row [2, 2, 1, 1]) (.row [1])) = true := by kernel_rfl
set_option maxRecDepth 100000 in
theorem r18_6 : Go.Eng.isTrue (Go.Eng.twoRun Try.prog Go.Eng.noSums (⟨14, 16, 17, 43, 58⟩ : Go.Eng.Fns) 1000 60 9 (.row [2, 2, 1, 1]) (.row [1, 1])) = true := by kernel_rfl
set_option maxRecDepth 100000 in
theorem r18_7 : Go.Eng.isTrue (Go.Eng.twoRun Try.prog Go.Eng.noSums (⟨14, 16, 17, 43, 58⟩ : Go.Eng.Fns) 1000 60 9 (.row [2, 2, 1, 1]) (.row [1, 1, 1])) = true := by kernel_rfl
set_option maxRecDepth 100000 in
theorem r18_8 : Go.Eng.isTrue (Go.Eng.twoRun Try.prog Go.Eng.noSums (⟨14, 16, 17, 43, 58⟩ : Go.Eng.Fns) 1000 60 9 (.row [2, 2, 1, 1]) (.row [1, 1, 1, 1])) = true := by kernel_rfl
set_option maxRecDepth 100000 in
theorem r18_9 : Go.Eng.isTrue (Go.Eng.twoRun Try.prog Go.Eng.noSums (⟨14, 16, 17, 43, 58⟩ : Go.Eng.Fns) 1000 60 9 (.row [2, 2, 1, 1]) (.row [1, 1, 1, 1, 1])) = true := by kernel_rfl
set_option maxRecDepth 100000 in
theorem r18_10 : Go.Eng.isTrue (Go.Eng.twoRun Try.prog Go.Eng.noSums (⟨14, 16, 17, 43, 58⟩ : Go.Eng.Fns) 1000 60 9 (.row [2, 2, 1, 1]) (.row [1, 1, 1, 1, 1, 1])) = true := by kernel_rfl
set_option maxRecDepth 100000 in
theorem r18_11 : Go.Eng.isTrue (Go.Eng.twoRun Try.prog Go.Eng.noSums (⟨14, 16, 17, 43, 58⟩ : Go.Eng.Fns) 1000 60 9 (.row [2, 2, 1, 1]) (.row [2])) = true := by kernel_rfl
set_option maxRecDepth 100000 in
theorem r18_12 : Go.Eng.isTrue (Go.Eng.twoRun Try.prog Go.Eng.noSums (⟨14, 16, 17, 43, 58⟩ : Go.Eng.Fns) 1000 60 9 (.row [2, 2, 1, 1]) (.row [2, 1])) = true := by kernel_rfl
set_option maxRecDepth 100000 in
theorem r18_13 : Go.Eng.isTrue (Go.Eng.twoRun Try.prog Go.Eng.noSums (⟨14, 16, 17, 43, 58⟩ : Go.Eng.Fns) 1000 60 9 (.row [2, 2, 1, 1]) (.row [2, 1, 1])) = true := by kernel_rfl
set_option maxRecDepth 100000 in
theorem r18_14 : Go.Eng.isTrue (Go.Eng.twoRun Try.prog Go.Eng.noSums (⟨14, 16, 17, 43, 58⟩ : Go.Eng.Fns) 1000 60 9 (.row [2, 2, 1, 1]) (.row [2, 1, 1, 1])) = true := by kernel_rfl
set_option maxRecDepth 100000 in
theorem r18_15 : Go.Eng.isTrue (Go.Eng.twoRun Try.prog Go.Eng.noSums (⟨14, 16, 17, 43, 58⟩ : Go.Eng.Fns) 1000 60 9 (.row [2, 2, 1, 1]) (.row [2, 1, 1, 1, 1])) = true := by kernel_rfl
set_option maxRecDepth 100000 in
theorem r18_16 : Go.Eng.isTrue (Go.Eng.twoRun Try.prog Go.Eng.noSums (⟨14, 16, 17, 43, 58⟩ : Go.Eng.Fns) 1000 60 9 (.row [2, 2, 1, 1]) (.row [2, 2])) = true := by kernel_rfl
set_option maxRecDepth 100000 in
theorem r18_17 : Go.Eng.isTrue (Go.Eng.twoRun Try.prog Go.Eng.noSums (⟨14, 16, 17, 43, 58⟩ : Go.Eng.Fns) 1000 60 9 (.row [2, 2, 1, 1]) (.row [2, 2, 1])) = true := by kernel_rfl
set_option maxRecDepth 100000 in
theorem r18_18 : Go.Eng.isTrue (Go.Eng.twoRun Try.prog Go.Eng.noSums (⟨14, 16, 17, 43, 58⟩ : Go.Eng.Fns) 1000 60 9 (.row [2, 2, 1, 1]) (.row [2, 2, 1, 1])) = true := by kernel_rfl
set_option maxRecDepth 100000 in
theorem r18_19 : Go.Eng.isTrue (Go.Eng.twoRun Try.prog Go.Eng.noSums (⟨14, 16, 17, 43, 58⟩ : Go.Eng.Fns) 1000 60 9 (.row [2, 2, 1, 1]) (.row [2, 2, 2])) = true := by kernel_rfl
set_option maxRecDepth 100000 in
theorem r18_20 : Go.Eng.isTrue (Go.Eng.twoRun Try.prog Go.Eng.noSums (⟨14, 16, 17, 43, 58⟩ : Go.Eng.Fns) 1000 60 9 (.row [2, 2, 1, 1]) (.row [3])) = true := by kernel_rfl
set_option maxRecDepth 100000 in
theorem r18_21 : Go.Eng.isTrue (Go.Eng.twoRun Try.prog Go.Eng.noSums (⟨14, 16, 17, 43, 58⟩ : Go.Eng.Fns) 1000 60 9 (.row [2, 2, 1, 1]) (.row [3, 1])) = true := by kernel_rfl
set_option maxRecDepth 100000 in
theorem r18_22 : Go.Eng.isTrue (Go.Eng.twoRun Try.prog Go.Eng.noSums (⟨14, 16, 17, 43, 58⟩ : Go.Eng.Fns) 1000 60 9 (.row [2, 2, 1, 1]) (.row [3, 1, 1])) = true := by kernel_rfl
set_option maxRecDepth 100000 in
theorem r18_23 : Go.Eng.isTrue (Go.Eng.twoRun Try.prog Go.Eng.noSums (⟨14, 16, 17, 43, 58⟩ : Go.Eng.Fns) 1000 60 9 (.row [2, 2, 1, 1]) (.row [3, 1, 1, 1])) = true := by kernel_rfl
set_option maxRecDepth 100000 in
theorem r18_24 : Go.Eng.isTrue (Go.Eng.twoRun Try.prog Go.Eng.noSums (⟨14, 16, 17, 43, 58⟩ : Go.Eng.Fns) 1000 60 9 (.row [2, 2, 1, 1]) (.row [3, 2])) = true := by kernel_rfl
set_option maxRecDepth 100000 in
theorem r18_25 : Go.Eng.isTrue (Go.Eng.twoRun Try.prog Go.Eng.noSums (⟨14, 16, 17, 43, 58⟩ : Go.Eng.Fns) 1000 60 9 (.row [2, 2, 1, 1]) (.row [3, 2, 1])) = true := by kernel_rfl
set_option maxRecDepth 100000 in
theorem r18_26 : Go.Eng.isTrue (Go.Eng.twoRun Try.prog Go.Eng.noSums (⟨14, 16, 17, 43, 58⟩ : Go.Eng.Fns) 1000 60 9 (.row [2, 2, 1, 1]) (.row [3, 3])) = true := by kernel_rfl
set_option maxRecDepth 100000 in
theorem r18_27 : Go.Eng.isTrue (Go.Eng.twoRun Try.prog Go.Eng.noSums (⟨14, 16, 17, 43, 58⟩ : Go.Eng.Fns) 1000 60 9 (.row [2, 2, 1, 1]) (.row [4])) = true := by kernel_rfl
set_option maxRecDepth 100000 in
theorem r18_28 : Go.Eng.isTrue (Go.Eng.twoRun Try.prog Go.Eng.noSums (⟨14, 16, 17, 43, 58⟩ : Go.Eng.Fns) 1000 60 9 (.row [2, 2, 1, 1]) (.row [4, 1])) = true := by kernel_rfl
set_option maxRecDepth 100000 in
theorem r18_29 : Go.Eng.isTrue (Go.Eng.twoRun Try.prog Go.Eng.noSums (⟨14, 16, 17, 43, 58⟩ : Go.Eng.Fns) 1000 60 9 (.row [2, 2, 1, 1]) (.row [4, 1, 1])) = true := by kernel_rfl
set_option maxRecDepth 100000 in
theorem r18_30 : Go.Eng.isTrue (Go.Eng.twoRun Try.prog Go.Eng.noSums (⟨14, 16, 17, 43, 58⟩ : Go.Eng.Fns) 1000 60 9 (.row [2, 2, 1, 1]) (.row [4, 2])) = true := by kernel_rfl
set_option maxRecDepth 100000 in
theorem r18_31 : Go.Eng.isTrue (Go.Eng.twoRun Try.prog Go.Eng.noSums (⟨14, 16, 17, 43, 58⟩ : Go.Eng.Fns) 1000 60 9 (.row [2, 2, 1, 1]) (.row [5])) = true := by kernel_rfl
set_option maxRecDepth 100000 in
theorem r18_32 : Go.Eng.isTrue (Go.Eng.twoRun Try.prog Go.Eng.noSums (⟨14, 16, 17, 43, 58⟩ : Go.Eng.Fns) 1000 60 9 (.row [2, 2, 1, 1]) (.row [5, 1])) = true := by kernel_rfl
set_option maxRecDepth 100000 in
theorem r18_33 : Go.Eng.isTrue (Go.Eng.twoRun Try.prog Go.Eng.noSums (⟨14, 16, 17, 43, 58⟩ : Go.Eng.Fns) 1000 60 9 (.row [2, 2, 1, 1]) (.row [6])) = true := by kernel_rfl
theorem r18 : Go.Eng.AllL (fun c => Go.Eng.isTrue (Go.Eng.twoRun Try.prog Go.Eng.noSums (⟨14, 16, 17, 43, 58⟩ : Go.Eng.Fns) 1000 60 9 (.row [2, 2, 1, 1]) c) = true) Go.Eng.classes := by
  unfold Go.Eng.classes
  rw [Go.Eng.shares_eq]
  exact ⟨r18_0, r18_1, r18_2, r18_3, r18_4, r18_5, r18_6, r18_7, r18_8, r18_9, r18_10, r18_11, r18_12, r18_13, r18_14, r18_15, r18_16, r18_17, r18_18, r18_19, r18_20, r18_21, r18_22, r18_23, r18_24, r18_25, r18_26, r18_27, r18_28, r18_29, r18_30, r18_31, r18_32, r18_33, trivial⟩
set_option maxRecDepth 100000 in
theorem r22_0 : Go.Eng.isTrue (Go.Eng.twoRun Try.prog Go.Eng.noSums (⟨14, 16, 17, 43, 58⟩ : Go.Eng.Fns) 1000 60 9 (.row [3, 1, 1]) .nil) = true := by kernel_rfl
set_option maxRecDepth 100000 in
theorem r22_1 : Go.Eng.isTrue (Go.Eng.twoRun Try.prog Go.Eng.noSums (⟨14, 16, 17, 43, 58⟩ : Go.Eng.Fns) 1000 60 9 (.row [3, 1, 1]) .zero) = true := by kernel_rfl
set_option maxRecDepth 100000 in
theorem r22_2 : Go.Eng.isTrue (Go.Eng.twoRun Try.prog Go.Eng.noSums (⟨14, 16, 17, 43, 58⟩ : Go.Eng.Fns) 1000 60 9 (.row [3, 1, 1]) .no) = true := by kernel_rfl
set_option maxRecDepth 100000 in
theorem r22_3 : Go.Eng.isTrue (Go.Eng.twoRun Try.prog Go.Eng.noSums (⟨14, 16, 17, 43, 58⟩ : Go.Eng.Fns) 1000 60 9 (.row [3, 1, 1]) .long) = true := by kernel_rfl
set_option maxRecDepth 100000 in
theorem r22_4 : Go.Eng.isTrue (Go.Eng.twoRun Try.prog Go.Eng.noSums (⟨14, 16, 17, 43, 58⟩ : Go.Eng.Fns) 1000 60 9 (.row [3, 1, 1]) (.row [])) = true := by kernel_rfl
set_option maxRecDepth 100000 in
theorem r22_5 : Go.Eng.isTrue (Go.Eng.twoRun Try.prog Go.Eng.noSums (⟨14, 16, 17, 43, 58⟩ : Go.Eng.Fns) 1000 60 9 (.row [3, 1, 1]) (.row [1])) = true := by kernel_rfl
set_option maxRecDepth 100000 in
theorem r22_6 : Go.Eng.isTrue (Go.Eng.twoRun Try.prog Go.Eng.noSums (⟨14, 16, 17, 43, 58⟩ : Go.Eng.Fns) 1000 60 9 (.row [3, 1, 1]) (.row [1, 1])) = true := by kernel_rfl
set_option maxRecDepth 100000 in
theorem r22_7 : Go.Eng.isTrue (Go.Eng.twoRun Try.prog Go.Eng.noSums (⟨14, 16, 17, 43, 58⟩ : Go.Eng.Fns) 1000 60 9 (.row [3, 1, 1]) (.row [1, 1, 1])) = true := by kernel_rfl
set_option maxRecDepth 100000 in
theorem r22_8 : Go.Eng.isTrue (Go.Eng.twoRun Try.prog Go.Eng.noSums (⟨14, 16, 17, 43, 58⟩ : Go.Eng.Fns) 1000 60 9 (.row [3, 1, 1]) (.row [1, 1, 1, 1])) = true := by kernel_rfl
set_option maxRecDepth 100000 in
theorem r22_9 : Go.Eng.isTrue (Go.Eng.twoRun Try.prog Go.Eng.noSums (⟨14, 16, 17, 43, 58⟩ : Go.Eng.Fns) 1000 60 9 (.row [3, 1, 1]) (.row [1, 1, 1, 1, 1])) = true := by kernel_rfl
set_option maxRecDepth 100000 in
theorem r22_10 : Go.Eng.isTrue (Go.Eng.twoRun Try.prog Go.Eng.noSums (⟨14, 16, 17, 43, 58⟩ : Go.Eng.Fns) 1000 60 9 (.row [3, 1, 1]) (.row [1, 1, 1, 1, 1, 1])) = true := by kernel_rfl
set_option maxRecDepth 100000 in
theorem r22_11 : Go.Eng.isTrue (Go.Eng.twoRun Try.prog Go.Eng.noSums (⟨14, 16, 17, 43, 58⟩ : Go.Eng.Fns) 1000 60 9 (.row [3, 1, 1]) (.row [2])) = true := by kernel_rfl
set_option maxRecDepth 100000 in
theorem r22_12 : Go.Eng.isTrue (Go.Eng.twoRun Try.prog Go.Eng.noSums (⟨14, 16, 17, 43, 58⟩ : Go.Eng.Fns) 1000 60 9 (.row [3, 1, 1]) (.row [2, 1])) = true := by kernel_rfl
set_option maxRecDepth 100000 in
theorem r22_13 : Go.Eng.isTrue (Go.Eng.twoRun Try.prog Go.Eng.noSums (⟨14, 16, 17, 43, 58⟩ : Go.Eng.Fns) 1000 60 9 (.row [3, 1, 1]) (.row [2, 1, 1])) = true := by kernel_rfl
set_option maxRecDepth 100000 in
theorem r22_14 : Go.Eng.isTrue (Go.Eng.twoRun Try.prog Go.Eng.noSums (⟨14, 16, 17, 43, 58⟩ : Go.Eng.Fns) 1000 60 9 (.row [3, 1, 1]) (.row [2, 1, 1, 1])) = true := by kernel_rfl
set_option maxRecDepth 100000 in
theorem r22_15 : Go.Eng.isTrue (Go.Eng.twoRun Try.prog Go.Eng.noSums (⟨14, 16, 17, 43, 58⟩ : Go.Eng.Fns) 1000 60 9 (.row [3, 1, 1]) (.row [2, 1, 1, 1, 1])) = true := by kernel_rfl
set_option maxRecDepth 100000 in
theorem r22_16 : Go.Eng.isTrue (Go.Eng.twoRun Try.prog Go.Eng.noSums (⟨14, 16, 17, 43, 58⟩ : Go.Eng.Fns) 1000 60 9 (.row [3, 1, 1]) (.row [2, 2])) = true := by kernel_rfl
set_option maxRecDepth 100000 in
theorem r22_17 : Go.Eng.isTrue (Go.Eng.twoRun Try.prog Go.Eng.noSums (⟨14, 16, 17, 43, 58⟩ : Go.Eng.Fns) 1000 60 9 (.row [3, 1, 1]) (.row [2, 2, 1])) = true := by kernel_rfl
set_option maxRecDepth 100000 in
theorem r22_18 : Go.Eng.isTrue (Go.Eng.twoRun Try.prog Go.Eng.noSums (⟨14, 16, 17, 43, 58⟩ : Go.Eng.Fns) 1000 60 9 (.row [3, 1, 1]) (.row [2, 2, 1, 1])) = true := by kernel_rfl
set_option maxRecDepth 100000 in
theorem r22_19 : Go.Eng.isTrue (Go.Eng.twoRun Try.prog Go.Eng.noSums (⟨14, 16, 17, 43, 58⟩ : Go.Eng.Fns) 1000 60 9 (.row [3, 1, 1]) (.row [2, 2, 2])) = true := by kernel_rfl
set_option maxRecDepth 100000 in
theorem r22_20 : Go.Eng.isTrue (Go.Eng.twoRun Try.prog Go.Eng.noSums (⟨14, 16, 17, 43, 58⟩ : Go.Eng.Fns) 1000 60 9 (.row [3, 1, 1]) (.row [3])) = true := by kernel_rfl
set_option maxRecDepth 100000 in
theorem r22_21 : Go.Eng.isTrue (Go.Eng.twoRun Try.prog Go.Eng.noSums (⟨14, 16, 17, 43, 58⟩ : Go.Eng.Fns) 1000 60 9 (.row [3, 1, 1]) (.row [3, 1])) = true := by kernel_rfl
set_option maxRecDepth 100000 in
theorem r22_22 : Go.Eng.isTrue (Go.Eng.twoRun Try.prog Go.Eng.noSums (⟨14, 16, 17, 43, 58⟩ : Go.Eng.Fns) 1000 60 9 (.row [3, 1, 1]) (.row [3, 1, 1])) = true := by kernel_rfl
set_option maxRecDepth 100000 in
theorem r22_23 : Go.Eng.isTrue (Go.Eng.twoRun Try.prog Go.Eng.noSums (⟨14, 16, 17, 43, 58⟩ : Go.Eng.Fns) 1000 60 9 (.row [3, 1, 1]) (.row [3, 1, 1, 1])) = true := by kernel_rfl
set_option maxRecDepth 100000 in
theorem r22_24 : Go.Eng.isTrue (Go.Eng.twoRun Try.prog Go.Eng.noSums (⟨14, 16, 17, 43, 58⟩ : Go.Eng.Fns) 1000 60 9 (.row [3, 1, 1]) (.row [3, 2])) = true := by kernel_rfl
set_option maxRecDepth 100000 in
theorem r22_25 : Go.Eng.isTrue (Go.Eng.twoRun Try.prog Go.Eng.noSums (⟨14, 16, 17, 43, 58⟩ : Go.Eng.Fns) 1000 60 9 (.row [3, 1, 1]) (.row [3, 2, 1])) = true := by kernel_rfl
set_option maxRecDepth 100000 in
theorem r22_26 : Go.Eng.isTrue (Go.Eng.twoRun Try.prog Go.Eng.noSums (⟨14, 16, 17, 43, 58⟩ : Go.Eng.Fns) 1000 60 9 (.row [3, 1, 1]) (.row [3, 3])) = true := by kernel_rfl
set_option maxRecDepth 100000 in
theorem r22_27 : Go.Eng.isTrue (Go.Eng.twoRun Try.prog Go.Eng.noSums (⟨14, 16, 17, 43, 58⟩ : Go.Eng.Fns) 1000 60 9 (.row [3, 1, 1]) (.row [4])) = true := by kernel_rfl
set_option maxRecDepth 100000 in
theorem r22_28 : Go.Eng.isTrue (Go.Eng.twoRun Try.prog Go.Eng.noSums (⟨14, 16, 17, 43, 58⟩ : Go.Eng.Fns) 1000 60 9 (.row [3, 1, 1]) (.row [4, 1])) = true := by kernel_rfl
set_option maxRecDepth 100000 in
theorem r22_29 : Go.Eng.isTrue (Go.Eng.twoRun Try.prog Go.Eng.noSums (⟨14, 16, 17, 43, 58⟩ : Go.Eng.Fns) 1000 60 9 (.row [3, 1, 1]) (.row [4, 1, 1])) = true := by kernel_rfl
set_option maxRecDepth 100000 in
theorem r22_30 : Go.Eng.isTrue (Go.Eng.twoRun Try.prog Go.Eng.noSums (⟨14, 16, 17, 43, 58⟩ : Go.Eng.Fns) 1000 60 9 (.row [3, 1, 1]) (.row [4, 2])) = true := by kernel_rfl
set_option maxRecDepth 100000 in
theorem r22_31 : Go.Eng.isTrue (Go.Eng.twoRun Try.prog Go.Eng.noSums (⟨14, 16, 17, 43, 58⟩ : Go.Eng.Fns) 1000 60 9 (.row [3, 1, 1]) (.row [5])) = true := by kernel_rfl
set_option maxRecDepth 100000 in
theorem r22_32 : Go.Eng.isTrue (Go.Eng.twoRun Try.prog Go.Eng.noSums (⟨14, 16, 17, 43, 58⟩ : Go.Eng.Fns) 1000 60 9 (.row [3, 1, 1]) (.row [5, 1])) = true := by kernel_rfl
set_option maxRecDepth 100000 in
theorem r22_33 : Go.Eng.isTrue (Go.Eng.twoRun Try.prog Go.Eng.noSums (⟨14, 16, 17, 43, 58⟩ : Go.Eng.Fns) 1000 60 9 (.row [3, 1, 1]) (.row [6])) = true := by kernel_rfl
theorem r22 : Go.Eng.AllL (fun c => Go.Eng.isTrue (Go.Eng.twoRun Try.prog Go.Eng.noSums (⟨14, 16, 17, 43, 58⟩ : Go.Eng.Fns) 1000 60 9 (.row [3, 1, 1]) c) = true) Go.Eng.classes := by
  unfold Go.Eng.classes
  rw [Go.Eng.shares_eq]
  exact ⟨r22_0, r22_1, r22_2, r22_3, r22_4, r22_5, r22_6, r22_7, r22_8, r22_9, r22_10, r22_11, r22_12, r22_13, r22_14, r22_15, r22_16, r22_17, r22_18, r22_19, r22_20, r22_21, r22_22, r22_23, r22_24, r22_25, r22_26, r22_27, r22_28, r22_29, r22_30, r22_31, r22_32, r22_33, trivial⟩
set_option maxRecDepth 100000 in
theorem r26_0 : Go.Eng.isTrue (Go.Eng.twoRun Try.prog Go.Eng.noSums (⟨14, 16, 17, 43, 58⟩ : Go.Eng.Fns) 1000 60 9 (.row [3, 3]) .nil) = true := by kernel_rfl
set_option maxRecDepth 100000 in
theorem r26_1 : Go.Eng.isTrue (Go.Eng.twoRun Try.prog Go.Eng.noSums (⟨14, 16, 17, 43, 58⟩ : Go.Eng.Fns) 1000 60 9 (.row [3, 3]) .zero) = true := by kernel_rfl
set_option maxRecDepth 100000 in
theorem r26_2 : Go.Eng.isTrue (Go.Eng.twoRun Try.prog Go.Eng.noSums (⟨14, 16, 17, 43, 58⟩ : Go.Eng.Fns) 1000 60 9 (.row [3, 3]) .no) = true := by kernel_rfl
set_option maxRecDepth 100000 in
theorem r26_3 : Go.Eng.isTrue (Go.Eng.twoRun Try.prog Go.Eng.noSums (⟨14, 16, 17, 43, 58⟩ : Go.Eng.Fns) 1000 60 9 (.row [3, 3]) .long) = true := by kernel_rfl
set_option maxRecDepth 100000 in
theorem r26_4 : Go.Eng.isTrue (Go.Eng.twoRun Try.prog Go.Eng.noSums (⟨14, 16, 17, 43, 58⟩ : Go.Eng.Fns) 1000 60 9 (.row [3, 3]) (.row [])) = true := by kernel_rfl
set_option maxRecDepth 100000 in
theorem r26_5 : Go.Eng.isTrue (Go.Eng.twoRun Try.prog Go.Eng.noSums (⟨14, 16, 17, 43, 58⟩ : Go.Eng.Fns) 1000 60 9 (.row [3, 3]) (.row [1])) = true := by kernel_rfl
set_option maxRecDepth 100000 in
theorem r26_6 : Go.Eng.isTrue (Go.Eng.twoRun Try.prog Go.Eng.noSums (⟨14, 16, 17, 43, 58⟩ : Go.Eng.Fns) 1000 60 9 (.row [3, 3]) (.row [1, 1])) = true := by kernel_rfl
set_option maxRecDepth 100000 in
theorem r26_7 : Go.Eng.isTrue (Go.Eng.twoRun Try.prog Go.Eng.noSums (⟨14, 16, 17, 43, 58⟩ : Go.Eng.Fns) 1000 60 9 (.row [3, 3]) (.row [1, 1, 1])) = true := by kernel_rfl
set_option maxRecDepth 100000 in
theorem r26_8 : Go.Eng.isTrue (Go.Eng.twoRun Try.prog Go.Eng.noSums (⟨14, 16, 17, 43, 58⟩ : Go.Eng.Fns) 1000 60 9 (.row [3, 3]) (.row [1, 1, 1, 1])) = true := by kernel_rfl
set_option maxRecDepth 100000 in
theorem r26_9 : Go.Eng.isTrue (Go.Eng.twoRun Try.prog Go.Eng.noSums (⟨14, 16, 17, 43, 58⟩ : Go.Eng.Fns) 1000 60 9 (.row [3, 3]) (.row [1, 1, 1, 1, 1])) = true := by kernel_rfl
set_option maxRecDepth 100000 in
theorem r26_10 : Go.Eng.isTrue (Go.Eng.twoRun Try.prog Go.Eng.noSums (⟨14, 16, 17, 43, 58⟩ : Go.Eng.Fns) 1000 60 9 (.row [3, 3]) (.row [1, 1, 1, 1, 1, 1])) = true := by kernel_rfl
set_option maxRecDepth 100000 in
theorem r26_11 : Go.Eng.isTrue (Go.Eng.twoRun Try.prog Go.Eng.noSums (⟨14, 16, 17, 43, 58⟩ : Go.Eng.Fns) 1000 60 9 (.row [3, 3]) (.row [2])) = true := by kernel_rfl
set_option maxRecDepth 100000 in
theorem r26_12 : Go.Eng.isTrue (Go.Eng.twoRun Try.prog Go.Eng.noSums (⟨14, 16, 17, 43, 58⟩ : Go.Eng.Fns) 1000 60 9 (.row [3, 3]) (.row [2, 1])) = true := by kernel_rfl
set_option maxRecDepth 100000 in
theorem r26_13 : Go.Eng.isTrue (Go.Eng.twoRun Try.prog Go.Eng.noSums (⟨14, 16, 17, 43, 58⟩ : Go.Eng.Fns) 1000 60 9 (.row [3, 3]) (.row [2, 1, 1])) = true := by kernel_rfl
set_option maxRecDepth 100000 in
theorem r26_14 : Go.Eng.isTrue (Go.Eng.twoRun Try.prog Go.Eng.noSums (⟨14, 16, 17, 43, 58⟩ : Go.Eng.Fns) 1000 60 9 (.row [3, 3]) (.row [2, 1, 1, 1])) = true := by kernel_rfl
set_option maxRecDepth 100000 in
theorem r26_15 : Go.Eng.isTrue (Go.Eng.twoRun Try.prog Go.Eng.noSums (⟨14, 16, 17, 43, 58⟩ : Go.Eng.Fns) 1000 60 9 (.row [3, 3]) (.row [2, 1, 1, 1, 1])) = true := by kernel_rfl
set_option maxRecDepth 100000 in
theorem r26_16 : Go.Eng.isTrue (Go.Eng.twoRun Try.prog Go.Eng.noSums (⟨14, 16, 17, 43, 58⟩ : Go.Eng.Fns) 1000 60 9 (.row [3, 3]) (.row [2, 2])) = true := by kernel_rfl
set_option maxRecDepth 100000 in
theorem r26_17 : Go.Eng.isTrue (Go.Eng.twoRun Try.prog Go.Eng.noSums (⟨14, 16, 17, 43, 58⟩ : Go.Eng.Fns) 1000 60 9 (.row [3, 3]) (.row [2, 2, 1])) = true := by kernel_rfl
set_option maxRecDepth 100000 in
theorem r26_18 : Go.Eng.isTrue (Go.Eng.twoRun Try.prog Go.Eng.noSums (⟨14, 16, 17, 43, 58⟩ : Go.Eng.Fns) 1000 60 9 (.row [3, 3]) (.row [2, 2, 1, 1])) = true := by kernel_rfl
set_option maxRecDepth 100000 in
theorem r26_19 : Go.Eng.isTrue (Go.Eng.twoRun Try.prog Go.Eng.noSums (⟨14, 16, 17, 43, 58⟩ : Go.Eng.Fns) 1000 60 9 (.row [3, 3]) (.row [2, 2, 2])) = true := by kernel_rfl
set_option maxRecDepth 100000 in
theorem r26_20 : Go.Eng.isTrue (Go.Eng.twoRun Try.prog Go.Eng.noSums (⟨14, 16, 17, 43, 58⟩ : Go.Eng.Fns) 1000 60 9 (.row [3, 3]) (.row [3])) = true := by kernel_rfl
set_option maxRecDepth 100000 in
theorem r26_21 : Go.Eng.isTrue (Go.Eng.twoRun Try.prog Go.Eng.noSums (⟨14, 16, 17, 43, 58⟩ : Go.Eng.Fns) 1000 60 9 (.row [3, 3]) (.row [3, 1])) = true := by kernel_rfl
set_option maxRecDepth 100000 in
theorem r26_22 : Go.Eng.isTrue (Go.Eng.twoRun Try.prog Go.Eng.noSums (⟨14, 16, 17, 43, 58⟩ : Go.Eng.Fns) 1000 60 9 (.row [3, 3]) (.row [3, 1, 1])) = true := by kernel_rfl
set_option maxRecDepth 100000 in
theorem r26_23 : Go.Eng.isTrue (Go.Eng.twoRun Try.prog Go.Eng.noSums (⟨14, 16, 17, 43, 58⟩ : Go.Eng.Fns) 1000 60 9 (.row [3, 3]) (.row [3, 1, 1, 1])) = true := by kernel_rfl
set_option maxRecDepth 100000 in
theorem r26_24 : Go.Eng.isTrue (Go.Eng.twoRun Try.prog Go.Eng.noSums (⟨14, 16, 17, 43, 58⟩ : Go.Eng.Fns) 1000 60 9 (.row [3, 3]) (.row [3, 2])) = true := by kernel_rfl
set_option maxRecDepth 100000 in
theorem r26_25 : Go.Eng.isTrue (Go.Eng.twoRun Try.prog Go.Eng.noSums (⟨14, 16, 17, 43, 58⟩ : Go.Eng.Fns) 1000 60 9 (.row [3, 3]) (.row [3, 2, 1])) = true := by kernel_rfl
set_option maxRecDepth 100000 in
theorem r26_26 : Go.Eng.isTrue (Go.Eng.twoRun Try.prog Go.Eng.noSums (⟨14, 16, 17, 43, 58⟩ : Go.Eng.Fns) 1000 60 9 (.row [3, 3]) (.row [3, 3])) = true := by kernel_rfl
set_option maxRecDepth 100000 in
theorem r26_27 : Go.Eng.isTrue (Go.Eng.twoRun Try.prog Go.Eng.noSums (⟨14, 16, 17, 43, 58⟩ : Go.Eng.Fns) 1000 60 9 (.row [3, 3]) (.row [4])) = true := by kernel_rfl
set_option maxRecDepth 100000 in
theorem r26_28 : Go.Eng.isTrue (Go.Eng.twoRun Try.prog Go.Eng.noSums (⟨14, 16, 17, 43, 58⟩ : Go.Eng.Fns) 1000 60 9 (.row [3, 3]) (.row [4, 1])) = true := by kernel_rfl
set_option maxRecDepth 100000 in
theorem r26_29 : Go.Eng.isTrue (Go.Eng.twoRun Try.prog Go.Eng.noSums (⟨14, 16, 17, 43, 58⟩ : Go.Eng.Fns) 1000 60 9 (.row [3, 3]) (.row [4, 1, 1])) = true := by kernel_rfl
set_option maxRecDepth 100000 in
theorem r26_30 : Go.Eng.isTrue (Go.Eng.twoRun Try.prog Go.Eng.noSums (⟨14, 16, 17, 43, 58⟩ : Go.Eng.Fns) 1000 60 9 (.row [3, 3]) (.row [4, 2])) = true := by kernel_rfl
set_option maxRecDepth 100000 in
theorem r26_31 : Go.Eng.isTrue (Go.Eng.twoRun Try.prog Go.Eng.noSums (⟨14, 16, 17, 43, 58⟩ : Go.Eng.Fns) 1000 60 9 (.row [3, 3]) (.row [5])) = true := by kernel_rfl
set_option maxRecDepth 100000 in
theorem r26_32 : Go.Eng.isTrue (Go.Eng.twoRun Try.prog Go.Eng.noSums (⟨14, 16, 17, 43, 58⟩ : Go.Eng.Fns) 1000 60 9 (.row [3, 3]) (.row [5, 1])) = true := by kernel_rfl
set_option maxRecDepth 100000 in
theorem r26_33 : Go.Eng.isTrue (Go.Eng.twoRun Try.prog Go.Eng.noSums (⟨14, 16, 17, 43, 58⟩ : Go.Eng.Fns) 1000 60 9 (.row [3, 3]) (.row [6])) = true := by kernel_rfl
theorem r26 : Go.Eng.AllL (fun c => Go.Eng.isTrue (Go.Eng.twoRun Try.prog Go.Eng.noSums (⟨14, 16, 17, 43, 58⟩ : Go.Eng.Fns) 1000 60 9 (.row [3, 3]) c) = true) Go.Eng.classes := by
  unfold Go.Eng.classes
  rw [Go.Eng.shares_eq]
  exact ⟨r26_0, r26_1, r26_2, r26_3, r26_4, r26_5, r26_6, r26_7, r26_8, r26_9, r26_10, r26_11, r26_12, r26_13, r26_14, r26_15, r26_16, r26_17, r26_18, r26_19, r26_20, r26_21, r26_22, r26_23, r26_24, r26_25, r26_26, r26_27, r26_28, r26_29, r26_30, r26_31, r26_32, r26_33, trivial⟩
set_option maxRecDepth 100000 in
theorem r30_0 : Go.Eng.isTrue (Go.Eng.twoRun Try.prog Go.Eng.noSums (⟨14, 16, 17, 43, 58⟩ : Go.Eng.Fns) 1000 60 9 (.row [4, 2]) .nil) = true := by kernel_rfl
set_option maxRecDepth 100000 in
theorem r30_1 : Go.Eng.isTrue (Go.Eng.twoRun Try.prog Go.Eng.noSums (⟨14, 16, 17, 43, 58⟩ : Go.Eng.Fns) 1000 60 9 (.row [4, 2]) .zero) = true := by kernel_rfl
set_option maxRecDepth 100000 in
theorem r30_2 : Go.Eng.isTrue (Go.Eng.twoRun Try.prog Go.Eng.noSums (⟨14, 16, 17, 43, 58⟩ : Go.Eng.Fns) 1000 60 9 (.row [4, 2]) .no) = true := by kernel_rfl
set_option maxRecDepth 100000 in
theorem r30_3 : Go.Eng.isTrue (Go.Eng.twoRun Try.prog Go.Eng.noSums (⟨14, 16, 17, 43, 58⟩ : Go.Eng.Fns) 1000 60 9 (.row [4, 2]) .long) = true := by kernel_rfl
set_option maxRecDepth 100000 in
theorem r30_4 : Go.Eng.isTrue (Go.Eng.twoRun Try.prog Go.Eng.noSums (⟨14, 16, 17, 43, 58⟩ : Go.Eng.Fns) 1000 60 9 (.row [4, 2]) (.row [])) = true := by kernel_rfl
set_option maxRecDepth 100000 in
theorem r30_5 : Go.Eng.isTrue (Go.Eng.twoRun Try.prog Go.Eng.noSums (⟨14, 16, 17, 43, 58⟩ : Go.Eng.Fns) 1000 60 9 (.row [4, 2]) (.row [1])) = true := by kernel_rfl
set_option maxRecDepth 100000 in
theorem r30_6 : Go.Eng.isTrue (Go.Eng.twoRun Try.prog Go.Eng.noSums (⟨14, 16, 17, 43, 58⟩ : Go.Eng.Fns) 1000 60 9 (.row [4, 2]) (.row [1, 1])) = true := by kernel_rfl
set_option maxRecDepth 100000 in
theorem r30_7 : Go.Eng.isTrue (Go.Eng.twoRun Try.prog Go.Eng.noSums (⟨14, 16, 17, 43, 58⟩ : Go.Eng.Fns) 1000 60 9 (.row [4, 2]) (.row [1, 1, 1])) = true := by kernel_rfl
set_option maxRecDepth 100000 in
theorem r30_8 : Go.Eng.isTrue (Go.Eng.twoRun Try.prog Go.Eng.noSums (⟨14, 16, 17, 43, 58⟩ : Go.Eng.Fns) 1000 60 9 (.row [4, 2]) (.row [1, 1, 1, 1])) = true := by kernel_rfl
set_option maxRecDepth 100000 in
theorem r30_9 : Go.Eng.isTrue (Go.Eng.twoRun Try.prog Go.Eng.noSums (⟨14, 16, 17, 43, 58⟩ : Go.Eng.Fns) 1000 60 9 (.row [4, 2]) (.row [1, 1, 1, 1, 1])) = true := by kernel_rfl
set_option maxRecDepth 100000 in
theorem r30_10 : Go.Eng.isTrue (Go.Eng.twoRun Try.prog Go.Eng.noSums (⟨14, 16, 17, 43, 58⟩ : Go.Eng.Fns) 1000 60 9 (.row [4, 2]) (.row [1, 1, 1, 1, 1, 1])) = true := by kernel_rfl
set_option maxRecDepth 100000 in
theorem r30_11 : Go.Eng.isTrue (Go.Eng.twoRun Try.prog Go.Eng.noSums (⟨14, 16, 17, 43, 58⟩ : Go.Eng.Fns) 1000 60 9 (.row [4, 2]) (.row [2])) = true := by kernel_rfl
set_option maxRecDepth 100000 in
theorem r30_12 : Go.Eng.isTrue (Go.Eng.twoRun Try.prog Go.Eng.noSums (⟨14, 16, 17, 43, 58⟩ : Go.Eng.Fns) 1000 60 9 (.row [4, 2]) (.row [2, 1])) = true := by kernel_rfl
set_option maxRecDepth 100000 in
theorem r30_13 : Go.Eng.isTrue (Go.Eng.twoRun Try.prog Go.Eng.noSums (⟨14, 16, 17, 43, 58⟩ : Go.Eng.Fns) 1000 60 9 (.row [4, 2]) (.row [2, 1, 1])) = true := by kernel_rfl
set_option maxRecDepth 100000 in
theorem r30_14 : Go.Eng.isTrue (Go.Eng.twoRun Try.prog Go.Eng.noSums (⟨14, 16, 17, 43, 58⟩ : Go.Eng.Fns) 1000 60 9 (.row [4, 2]) (.row [2, 1, 1, 1])) = true := by kernel_rfl
set_option maxRecDepth 100000 in
theorem r30_15 : Go.Eng.isTrue (Go.Eng.twoRun Try.prog Go.Eng.noSums (⟨14, 16, 17, 43, 58⟩ : Go.Eng.Fns) 1000 60 9 (.row [4, 2]) (.row [2, 1, 1, 1, 1])) = true := by kernel_rfl
set_option maxRecDepth 100000 in
theorem r30_16 : Go.Eng.isTrue (Go.Eng.twoRun Try.prog Go.Eng.noSums (⟨14, 16, 17, 43, 58⟩ : Go.Eng.Fns) 1000 60 9 (.row [4, 2]) (.row [2, 2])) = true := by kernel_rfl
set_option maxRecDepth 100000 in
theorem r30_17 : Go.Eng.isTrue (Go.Eng.twoRun Try.prog Go.Eng.noSums (⟨14, 16, 17, 43, 58⟩ : Go.Eng.Fns) 1000 60 9 (.row [4, 2]) (.row [2, 2, 1])) = true := by kernel_rfl
set_option maxRecDepth 100000 in
theorem r30_18 : Go.Eng.isTrue (Go.Eng.twoRun Try.prog Go.Eng.noSums (⟨14, 16, 17, 43, 58⟩ : Go.Eng.Fns) 1000 60 9 (.row [4, 2]) (.row [2, 2, 1, 1])) = true := by kernel_rfl
set_option maxRecDepth 100000 in
theorem r30_19 : Go.Eng.isTrue (Go.Eng.twoRun Try.prog Go.Eng.noSums (⟨14, 16, 17, 43, 58⟩ : Go.Eng.Fns) 1000 60 9 (.row [4, 2]) (.row [2, 2, 2])) = true := by kernel_rfl
set_option maxRecDepth 100000 in
theorem r30_20 : Go.Eng.isTrue (Go.Eng.twoRun Try.prog Go.Eng.noSums (⟨14, 16, 17, 43, 58⟩ : Go.Eng.Fns) 1000 60 9 (.row [4, 2]) (.row [3])) = true := by kernel_rfl
set_option maxRecDepth 100000 in
theorem r30_21 : Go.Eng.isTrue (Go.Eng.twoRun Try.prog Go.Eng.noSums (⟨14, 16, 17, 43, 58⟩ : Go.Eng.Fns) 1000 60 9 (.row [4, 2]) (.row [3, 1])) = true := by kernel_rfl
set_option maxRecDepth 100000 in
theorem r30_22 : Go.Eng.isTrue (Go.Eng.twoRun Try.prog Go.Eng.noSums (⟨14, 16, 17, 43, 58⟩ : Go.Eng.Fns) 1000 60 9 (.row [4, 2]) (.row [3, 1, 1])) = true := by kernel_rfl
set_option maxRecDepth 100000 in
theorem r30_23 : Go.Eng.isTrue (Go.Eng.twoRun Try.prog Go.Eng.noSums (⟨14, 16, 17, 43, 58⟩ : Go.Eng.Fns) 1000 60 9 (.row [4, 2]) (.row [3, 1, 1, 1])) = true := by kernel_rfl
set_option maxRecDepth 100000 in
theorem r30_24 : Go.Eng.isTrue (Go.Eng.twoRun Try.prog Go.Eng.noSums (⟨14, 16, 17, 43, 58⟩ : Go.Eng.Fns) 1000 60 9 (.row [4, 2]) (.row [3, 2])) = true := by kernel_rfl
set_option maxRecDepth 100000 in
theorem r30_25 : Go.Eng.isTrue (Go.Eng.twoRun Try.prog Go.Eng.noSums (⟨14, 16, 17, 43, 58⟩ : Go.Eng.Fns) 1000 60 9 (.row [4, 2]) (.row [3, 2, 1])) = true := by kernel_rfl
set_option maxRecDepth 100000 in
theorem r30_26 : Go.Eng.isTrue (Go.Eng.twoRun Try.prog Go.Eng.noSums (⟨14, 16, 17, 43, 58⟩ : Go.Eng.Fns) 1000 60 9 (.row [4, 2]) (.row [3, 3])) = true := by kernel_rfl
set_option maxRecDepth 100000 in
theorem r30_27 : Go.Eng.isTrue (Go.Eng.twoRun Try.prog Go.Eng.noSums (⟨14, 16, 17, 43, 58⟩ : Go.Eng.Fns) 1000 60 9 (.row [4, 2]) (.row [4])) = true := by kernel_rfl
set_option maxRecDepth 100000 in
theorem r30_28 : Go.Eng.isTrue (Go.Eng.twoRun Try.prog Go.Eng.noSums (⟨14, 16, 17, 43, 58⟩ : Go.Eng.Fns) 1000 60 9 (.row [4, 2]) (.row [4, 1])) = true := by kernel_rfl
set_option maxRecDepth 100000 in
theorem r30_29 : Go.Eng.isTrue (Go.Eng.twoRun Try.prog Go.Eng.noSums (⟨14, 16, 17, 43, 58⟩ : Go.Eng.Fns) 1000 60 9 (.row [4, 2]) (.row [4, 1, 1])) = true := by kernel_rfl
set_option maxRecDepth 100000 in
theorem r30_30 : Go.Eng.isTrue (Go.Eng.twoRun Try.prog Go.Eng.noSums (⟨14, 16, 17, 43, 58⟩ : Go.Eng.Fns) 1000 60 9 (.row [4, 2]) (.row [4, 2])) = true := by kernel_rfl
set_option maxRecDepth 100000 in
theorem r30_31 : Go.Eng.isTrue (Go.Eng.twoRun Try.prog Go.Eng.noSums (⟨14, 16, 17, 43, 58⟩ : Go.Eng.Fns) 1000 60 9 (.row [4, 2]) (.row [5])) = true := by kernel_rfl
set_option maxRecDepth 100000 in
theorem r30_32 : Go.Eng.isTrue (Go.Eng.twoRun Try.prog Go.Eng.noSums (⟨14, 16, 17, 43, 58⟩ : Go.Eng.Fns) 1000 60 9 (.row [4, 2]) (.row [5, 1])) = true := by kernel_rfl
set_option maxRecDepth 100000 in
theorem r30_33 : Go.Eng.isTrue (Go.Eng.twoRun Try.prog Go.Eng.noSums (⟨14, 16, 17, 43, 58⟩ : Go.Eng.Fns) 1000 60 9 (.row [4, 2]) (.row [6])) = true := by kernel_rfl
theorem r30 : Go.Eng.AllL (fun c => Go.Eng.isTrue (Go.Eng.twoRun Try.prog Go.Eng.noSums (⟨14, 16, 17, 43, 58⟩ : Go.Eng.Fns) 1000 60 9 (.row [4, 2]) c) = true) Go.Eng.classes := by
  unfold Go.Eng.classes
  rw [Go.Eng.shares_eq]
  exact ⟨r30_0, r30_1, r30_2, r30_3, r30_4, r30_5, r30_6, r30_7, r30_8, r30_9, r30_10, r30_11, r30_12, r30_13, r30_14, r30_15, r30_16, r30_17, r30_18, r30_19, r30_20, r30_21, r30_22, r30_23, r30_24, r30_25, r30_26, r30_27, r30_28, r30_29, r30_30, r30_31, r30_32, r30_33, trivial⟩
end Go.Proofs.Ytcjemdcffmfloaa.fnExactRestSumRuns
