/- The runs of FnExactShareJoin, part 3. -/
import Derived.Test.YtnablcacdfebfacEngZa
import Derived.Test.YtnablcacdfebfacProg
namespace Go.Proofs.Ytnablcacdfebfac.fnExactShareJoinRuns
set_option linter.unusedVariables false
set_option linter.unusedSectionVars false
set_option linter.unusedSimpArgs false
set_option maxRecDepth 100000 in
theorem r3_0 : Go.Eng.isTrue (Go.Eng.twoRun Try.prog (Go.Eng.lenS 153) (⟨40, 42, 50, 39, 75⟩ : Go.Eng.Fns) 1000 60 13 .long .nil) = true := by kernel_rfl
set_option maxRecDepth 100000 in
theorem r3_1 : Go.Eng.isTrue (Go.Eng.twoRun Try.prog (Go.Eng.lenS 153) (⟨40, 42, 50, 39, 75⟩ : Go.Eng.Fns) 1000 60 13 .long .zero) = true := by kernel_rfl
set_option maxRecDepth 100000 in
theorem r3_2 : Go.Eng.isTrue (Go.Eng.twoRun Try.prog (Go.Eng.lenS 153) (⟨40, 42, 50, 39, 75⟩ : Go.Eng.Fns) 1000 60 13 .long .no) = true := by kernel_rfl
set_option maxRecDepth 100000 in
theorem r3_3 : Go.Eng.isTrue (Go.Eng.twoRun Try.prog (Go.Eng.lenS 153) (⟨40, 42, 50, 39, 75⟩ : Go.Eng.Fns) 1000 60 13 .long .long) = true := by kernel_rfl
set_option maxRecDepth 100000 in
theorem r3_4 : Go.Eng.isTrue (Go.Eng.twoRun Try.prog (Go.Eng.lenS 153) (⟨40, 42, 50, 39, 75⟩ : Go.Eng.Fns) 1000 60 13 .long (.row [])) = true := by kernel_rfl
set_option maxRecDepth 100000 in
theorem r3_5 : Go.Eng.isTrue (Go.Eng.twoRun Try.prog (Go.Eng.lenS 153) (⟨40, 42, 50, 39, 75⟩ : Go.Eng.Fns) 1000 60 13 .long (.row [1])) = true := by kernel_rfl
set_option maxRecDepth 100000 in
theorem r3_6 : Go.Eng.isTrue (Go.Eng.twoRun Try.prog (Go.Eng.lenS 153) (⟨40, 42, 50, 39, 75⟩ : Go.Eng.Fns) 1000 60 13 .long (.row [1, 1])) = true := by kernel_rfl
set_option maxRecDepth 100000 in
theorem r3_7 : Go.Eng.isTrue (Go.Eng.twoRun Try.prog (Go.Eng.lenS 153) (⟨40, 42, 50, 39, 75⟩ : Go.Eng.Fns) 1000 60 13 .long (.row [1, 1, 1])) = true := by kernel_rfl
set_option maxRecDepth 100000 in
theorem r3_8 : Go.Eng.isTrue (Go.Eng.twoRun Try.prog (Go.Eng.lenS 153) (⟨40, 42, 50, 39, 75⟩ : Go.Eng.Fns) 1000 60 13 .long (.row [1, 1, 1, 1])) = true := by kernel_rfl
set_option maxRecDepth 100000 in
theorem r3_9 : Go.Eng.isTrue (Go.Eng.twoRun Try.prog (Go.Eng.lenS 153) (⟨40, 42, 50, 39, 75⟩ : Go.Eng.Fns) 1000 60 13 .long (.row [1, 1, 1, 1, 1])) = true := by kernel_rfl
set_option maxRecDepth 100000 in
theorem r3_10 : Go.Eng.isTrue (Go.Eng.twoRun Try.prog (Go.Eng.lenS 153) (⟨40, 42, 50, 39, 75⟩ : Go.Eng.Fns) 1000 60 13 .long (.row [1, 1, 1, 1, 1, 1])) = true := by kernel_rfl
set_option maxRecDepth 100000 in
theorem r3_11 : Go.Eng.isTrue (Go.Eng.twoRun Try.prog (Go.Eng.lenS 153) (⟨40, 42, 50, 39, 75⟩ : Go.Eng.Fns) 1000 60 13 .long (.row [2])) = true := by kernel_rfl
set_option maxRecDepth 100000 in
theorem r3_12 : Go.Eng.isTrue (Go.Eng.twoRun Try.prog (Go.Eng.lenS 153) (⟨40, 42, 50, 39, 75⟩ : Go.Eng.Fns) 1000 60 13 .long (.row [2, 1])) = true := by kernel_rfl
set_option maxRecDepth 100000 in
theorem r3_13 : Go.Eng.isTrue (Go.Eng.twoRun Try.prog (Go.Eng.lenS 153) (⟨40, 42, 50, 39, 75⟩ : Go.Eng.Fns) 1000 60 13 .long (.row [2, 1, 1])) = true := by kernel_rfl
set_option maxRecDepth 100000 in
theorem r3_14 : Go.Eng.isTrue (Go.Eng.twoRun Try.prog (Go.Eng.lenS 153) (⟨40, 42, 50, 39, 75⟩ : Go.Eng.Fns) 1000 60 13 .long (.row [2, 1, 1, 1])) = true := by kernel_rfl
set_option maxRecDepth 100000 in
theorem r3_15 : Go.Eng.isTrue (Go.Eng.twoRun Try.prog (Go.Eng.lenS 153) (⟨40, 42, 50, 39, 75⟩ : Go.Eng.Fns) 1000 60 13 .long (.row [2, 1, 1, 1, 1])) = true := by kernel_rfl
set_option maxRecDepth 100000 in
theorem r3_16 : Go.Eng.isTrue (Go.Eng.twoRun Try.prog (Go.Eng.lenS 153) (⟨40, 42, 50, 39, 75⟩ : Go.Eng.Fns) 1000 60 13 .long (.row [2, 2])) = true := by kernel_rfl
set_option maxRecDepth 100000 in
theorem r3_17 : Go.Eng.isTrue (Go.Eng.twoRun Try.prog (Go.Eng.lenS 153) (⟨40, 42, 50, 39, 75⟩ : Go.Eng.Fns) 1000 60 13 .long (.row [2, 2, 1])) = true := by kernel_rfl
set_option maxRecDepth 100000 in
theorem r3_18 : Go.Eng.isTrue (Go.Eng.twoRun Try.prog (Go.Eng.lenS 153) (⟨40, 42, 50, 39, 75⟩ : Go.Eng.Fns) 1000 60 13 .long (.row [2, 2, 1, 1])) = true := by kernel_rfl
set_option maxRecDepth 100000 in
theorem r3_19 : Go.Eng.isTrue (Go.Eng.twoRun Try.prog (Go.Eng.lenS 153) (⟨40, 42, 50, 39, 75⟩ : Go.Eng.Fns) 1000 60 13 .long (.row [2, 2, 2])) = true := by kernel_rfl
set_option maxRecDepth 100000 in
theorem r3_20 : Go.Eng.isTrue (Go.Eng.twoRun Try.prog (Go.Eng.lenS 153) (⟨40, 42, 50, 39, 75⟩ : Go.Eng.Fns) 1000 60 13 .long (.row [3])) = true := by kernel_rfl
set_option maxRecDepth 100000 in
theorem r3_21 : Go.Eng.isTrue (Go.Eng.twoRun Try.prog (Go.Eng.lenS 153) (⟨40, 42, 50, 39, 75⟩ : Go.Eng.Fns) 1000 60 13 .long (.row [3, 1])) = true := by kernel_rfl
set_option maxRecDepth 100000 in
theorem r3_22 : Go.Eng.isTrue (Go.Eng.twoRun Try.prog (Go.Eng.lenS 153) (⟨40, 42, 50, 39, 75⟩ : Go.Eng.Fns) 1000 60 13 .long (.row [3, 1, 1])) = true := by kernel_rfl
set_option maxRecDepth 100000 in
theorem r3_23 : Go.Eng.isTrue (Go.Eng.twoRun Try.prog (Go.Eng.lenS 153) (⟨40, 42, 50, 39, 75⟩ : Go.Eng.Fns) 1000 60 13 .long (.row [3, 1, 1, 1])) = true := by kernel_rfl
set_option maxRecDepth 100000 in
theorem r3_24 : Go.Eng.isTrue (Go.Eng.twoRun Try.prog (Go.Eng.lenS 153) (⟨40, 42, 50, 39, 75⟩ : Go.Eng.Fns) 1000 60 13 .long (.row [3, 2])) = true := by kernel_rfl
set_option maxRecDepth 100000 in
theorem r3_25 : Go.Eng.isTrue (Go.Eng.twoRun Try.prog (Go.Eng.lenS 153) (⟨40, 42, 50, 39, 75⟩ : Go.Eng.Fns) 1000 60 13 .long (.row [3, 2, 1])) = true := by kernel_rfl
set_option maxRecDepth 100000 in
theorem r3_26 : Go.Eng.isTrue (Go.Eng.twoRun Try.prog (Go.Eng.lenS 153) (⟨40, 42, 50, 39, 75⟩ : Go.Eng.Fns) 1000 60 13 .long (.row [3, 3])) = true := by kernel_rfl
set_option maxRecDepth 100000 in
theorem r3_27 : Go.Eng.isTrue (Go.Eng.twoRun Try.prog (Go.Eng.lenS 153) (⟨40, 42, 50, 39, 75⟩ : Go.Eng.Fns) 1000 60 13 .long (.row [4])) = true := by kernel_rfl
set_option maxRecDepth 100000 in
theorem r3_28 : Go.Eng.isTrue (Go.Eng.twoRun Try.prog (Go.Eng.lenS 153) (⟨40, 42, 50, 39, 75⟩ : Go.Eng.Fns) 1000 60 13 .long (.row [4, 1])) = true := by kernel_rfl
set_option maxRecDepth 100000 in
theorem r3_29 : Go.Eng.isTrue (Go.Eng.twoRun Try.prog (Go.Eng.lenS 153) (⟨40, 42, 50, 39, 75⟩ : Go.Eng.Fns) 1000 60 13 .long (.row [4, 1, 1])) = true := by kernel_rfl
set_option maxRecDepth 100000 in
theorem r3_30 : Go.Eng.isTrue (Go.Eng.twoRun Try.prog (Go.Eng.lenS 153) (⟨40, 42, 50, 39, 75⟩ : Go.Eng.Fns) 1000 60 13 .long (.row [4, 2])) = true := by kernel_rfl
set_option maxRecDepth 100000 in
theorem r3_31 : Go.Eng.isTrue (Go.Eng.twoRun Try.prog (Go.Eng.lenS 153) (⟨40, 42, 50, 39, 75⟩ : Go.Eng.Fns) 1000 60 13 .long (.row [5])) = true := by kernel_rfl
set_option maxRecDepth 100000 in
theorem r3_32 : Go.Eng.isTrue (Go.Eng.twoRun Try.prog (Go.Eng.lenS 153) (⟨40, 42, 50, 39, 75⟩ : Go.Eng.Fns) 1000 60 13 .long (.row [5, 1])) = true := by kernel_rfl
set_option maxRecDepth 100000 in
theorem r3_33 : Go.Eng.isTrue (Go.Eng.twoRun Try.prog (Go.Eng.lenS 153) (⟨40, 42, 50, 39, 75⟩ : Go.Eng.Fns) 1000 60 13 .long (.row [6])) = true := by kernel_rfl
theorem r3 : Go.Eng.AllL (fun c => Go.Eng.isTrue (Go.Eng.twoRun Try.prog (Go.Eng.lenS 153) (⟨40, 42, 50, 39, 75⟩ : Go.Eng.Fns) 1000 60 13 .long c) = true) Go.Eng.classes := by
  unfold Go.Eng.classes
  rw [Go.Eng.shares_eq]
  exact ⟨r3_0, r3_1, r3_2, r3_3, r3_4, r3_5, r3_6, r3_7, r3_8, r3_9, r3_10, r3_11, r3_12, r3_13, r3_14, r3_15, r3_16, r3_17, r3_18, r3_19, r3_20, r3_21, r3_22, r3_23, r3_24, r3_25, r3_26, r3_27, r3_28, r3_29, r3_30, r3_31, r3_32, r3_33, trivial⟩
set_option maxRecDepth 100000 in
theorem r11_0 : Go.Eng.isTrue (Go.Eng.twoRun Try.prog (Go.Eng.lenS 153) (⟨40, 42, 50, 39, 75⟩ : Go.Eng.Fns) 1000 60 13 (.row [2]) .nil) = true := by kernel_rfl
set_option maxRecDepth 100000 in
theorem r11_1 : Go.Eng.isTrue (Go.Eng.twoRun Try.prog (Go.Eng.lenS 153) (⟨40, 42, 50, 39, 75⟩ : Go.Eng.Fns) 1000 60 13 (.row [2]) .zero) = true := by kernel_rfl
set_option maxRecDepth 100000 in
theorem r11_2 : Go.Eng.isTrue (Go.Eng.twoRun Try.prog (Go.Eng.lenS 153) (⟨40, 42, 50, 39, 75⟩ : Go.Eng.Fns) 1000 60 13 (.row [2]) .no) = true := by kernel_rfl
set_option maxRecDepth 100000 in
theorem r11_3 : Go.Eng.isTrue (Go.Eng.twoRun Try.prog (Go.Eng.lenS 153) (⟨40, 42, 50, 39, 75⟩ : Go.Eng.Fns) 1000 60 13 (.row [2]) .long) = true := by kernel_rfl
set_option maxRecDepth 100000 in
theorem r11_4 : Go.Eng.isTrue (Go.Eng.twoRun Try.prog (Go.Eng.lenS 153) (⟨40, 42, 50, 39, 75⟩ : Go.Eng.Fns) 1000 60 13 (.row [2]) (.row [])) = true := by kernel_rfl
set_option maxRecDepth 100000 in
theorem r11_5 : Go.Eng.isTrue (Go.Eng.twoRun Try.prog (Go.Eng.lenS 153) (⟨40, 42, 50, 39, 75⟩ : Go.Eng.Fns) 1000 60 13 (.row [2]) (.row [1])) = true := by kernel_rfl
set_option maxRecDepth 100000 in
theorem r11_6 : Go.Eng.isTrue (Go.Eng.twoRun Try.prog (Go.Eng.lenS 153) (⟨40, 42, 50, 39, 75⟩ : Go.Eng.Fns) 1000 60 13 (.row [2]) (.row [1, 1])) = true := by kernel_rfl
set_option maxRecDepth 100000 in
theorem r11_7 : Go.Eng.isTrue (Go.Eng.twoRun Try.prog (Go.Eng.lenS 153) (⟨40, 42, 50, 39, 75⟩ : Go.Eng.Fns) 1000 60 13 (.row [2]) (.row [1, 1, 1])) = true := by kernel_rfl
set_option maxRecDepth 100000 in
theorem r11_8 : Go.Eng.isTrue (Go.Eng.twoRun Try.prog (Go.Eng.lenS 153) (⟨40, 42, 50, 39, 75⟩ : Go.Eng.Fns) 1000 60 13 (.row [2]) (.row [1, 1, 1, 1])) = true := by kernel_rfl
set_option maxRecDepth 100000 in
theorem r11_9 : Go.Eng.isTrue (Go.Eng.twoRun Try.prog (Go.Eng.lenS 153) (⟨40, 42, 50, 39, 75⟩ : Go.Eng.Fns) 1000 60 13 (.row [2]) (.row [1, 1, 1, 1, 1])) = true := by kernel_rfl
set_option maxRecDepth 100000 in
theorem r11_10 : Go.Eng.isTrue (Go.Eng.twoRun Try.prog (Go.Eng.lenS 153) (⟨40, 42, 50, 39, 75⟩ : Go.Eng.Fns) 1000 60 13 (.row [2]) (.row [1, 1, 1, 1, 1, 1])) = true := by kernel_rfl
set_option maxRecDepth 100000 in
theorem r11_11 : Go.Eng.isTrue (Go.Eng.twoRun Try.prog (Go.Eng.lenS 153) (⟨40, 42, 50, 39, 75⟩ : Go.Eng.Fns) 1000 60 13 (.row [2]) (.row [2])) = true := by kernel_rfl
set_option maxRecDepth 100000 in
theorem r11_12 : Go.Eng.isTrue (Go.Eng.twoRun Try.prog (Go.Eng.lenS 153) (⟨40, 42, 50, 39, 75⟩ : Go.Eng.Fns) 1000 60 13 (.row [2]) (.row [2, 1])) = true := by kernel_rfl
set_option maxRecDepth 100000 in
theorem r11_13 : Go.Eng.isTrue (Go.Eng.twoRun Try.prog (Go.Eng.lenS 153) (⟨40, 42, 50, 39, 75⟩ : Go.Eng.Fns) 1000 60 13 (.row [2]) (.row [2, 1, 1])) = true := by kernel_rfl
set_option maxRecDepth 100000 in
theorem r11_14 : Go.Eng.isTrue (Go.Eng.twoRun Try.prog (Go.Eng.lenS 153) (⟨40, 42, 50, 39, 75⟩ : Go.Eng.Fns) 1000 60 13 (.row [2]) (.row [2, 1, 1, 1])) = true := by kernel_rfl
set_option maxRecDepth 100000 in
theorem r11_15 : Go.Eng.isTrue (Go.Eng.twoRun Try.prog (Go.Eng.lenS 153) (⟨40, 42, 50, 39, 75⟩ : Go.Eng.Fns) 1000 60 13 (.row [2]) (.row [2, 1, 1, 1, 1])) = true := by kernel_rfl
set_option maxRecDepth 100000 in
theorem r11_16 : Go.Eng.isTrue (Go.Eng.twoRun Try.prog (Go.Eng.lenS 153) (⟨40, 42, 50, 39, 75⟩ : Go.Eng.Fns) 1000 60 13 (.row [2]) (.row [2, 2])) = true := by kernel_rfl
set_option maxRecDepth 100000 in
theorem r11_17 : Go.Eng.isTrue (Go.Eng.twoRun Try.prog (Go.Eng.lenS 153) (⟨40, 42, 50, 39, 75⟩ : Go.Eng.Fns) 1000 60 13 (.row [2]) (.row [2, 2, 1])) = true := by kernel_rfl
set_option maxRecDepth 100000 in
theorem r11_18 : Go.Eng.isTrue (Go.Eng.twoRun Try.prog (Go.Eng.lenS 153) (⟨40, 42, 50, 39, 75⟩ : Go.Eng.Fns) 1000 60 13 (.row [2]) (.row [2, 2, 1, 1])) = true := by kernel_rfl
set_option maxRecDepth 100000 in
theorem r11_19 : Go.Eng.isTrue (Go.Eng.twoRun Try.prog (Go.Eng.lenS 153) (⟨40, 42, 50, 39, 75⟩ : Go.Eng.Fns) 1000 60 13 (.row [2]) (.row [2, 2, 2])) = true := by kernel_rfl
set_option maxRecDepth 100000 in
theorem r11_20 : Go.Eng.isTrue (Go.Eng.twoRun Try.prog (Go.Eng.lenS 153) (⟨40, 42, 50, 39, 75⟩ : Go.Eng.Fns) 1000 60 13 (.row [2]) (.row [3])) = true := by kernel_rfl
set_option maxRecDepth 100000 in
theorem r11_21 : Go.Eng.isTrue (Go.Eng.twoRun Try.prog (Go.Eng.lenS 153) (⟨40, 42, 50, 39, 75⟩ : Go.Eng.Fns) 1000 60 13 (.row [2]) (.row [3, 1])) = true := by kernel_rfl
set_option maxRecDepth 100000 in
theorem r11_22 : Go.Eng.isTrue (Go.Eng.twoRun Try.prog (Go.Eng.lenS 153) (⟨40, 42, 50, 39, 75⟩ : Go.Eng.Fns) 1000 60 13 (.row [2]) (.row [3, 1, 1])) = true := by kernel_rfl
set_option maxRecDepth 100000 in
theorem r11_23 : Go.Eng.isTrue (Go.Eng.twoRun Try.prog (Go.Eng.lenS 153) (⟨40, 42, 50, 39, 75⟩ : Go.Eng.Fns) 1000 60 13 (.row [2]) (.row [3, 1, 1, 1])) = true := by kernel_rfl
set_option maxRecDepth 100000 in
theorem r11_24 : Go.Eng.isTrue (Go.Eng.twoRun Try.prog (Go.Eng.lenS 153) (⟨40, 42, 50, 39, 75⟩ : Go.Eng.Fns) 1000 60 13 (.row [2]) (.row [3, 2])) = true := by kernel_rfl
set_option maxRecDepth 100000 in
theorem r11_25 : Go.Eng.isTrue (Go.Eng.twoRun Try.prog (Go.Eng.lenS 153) (⟨40, 42, 50, 39, 75⟩ : Go.Eng.Fns) 1000 60 13 (.row [2]) (.row [3, 2, 1])) = true := by kernel_rfl
set_option maxRecDepth 100000 in
theorem r11_26 : Go.Eng.isTrue (Go.Eng.twoRun Try.prog (Go.Eng.lenS 153) (⟨40, 42, 50, 39, 75⟩ : Go.Eng.Fns) 1000 60 13 (.row [2]) (.row [3, 3])) = true := by kernel_rfl
set_option maxRecDepth 100000 in
theorem r11_27 : Go.Eng.isTrue (Go.Eng.twoRun Try.prog (Go.Eng.lenS 153) (⟨40, 42, 50, 39, 75⟩ : Go.Eng.Fns) 1000 60 13 (.row [2]) (.row [4])) = true := by kernel_rfl
set_option maxRecDepth 100000 in
theorem r11_28 : Go.Eng.isTrue (Go.Eng.twoRun Try.prog (Go.Eng.lenS 153) (⟨40, 42, 50, 39, 75⟩ : Go.Eng.Fns) 1000 60 13 (.row [2]) (.row [4, 1])) = true := by kernel_rfl
set_option maxRecDepth 100000 in
theorem r11_29 : Go.Eng.isTrue (Go.Eng.twoRun Try.prog (Go.Eng.lenS 153) (⟨40, 42, 50, 39, 75⟩ : Go.Eng.Fns) 1000 60 13 (.row [2]) (.row [4, 1, 1])) = true := by kernel_rfl
set_option maxRecDepth 100000 in
theorem r11_30 : Go.Eng.isTrue (Go.Eng.twoRun Try.prog (Go.Eng.lenS 153) (⟨40, 42, 50, 39, 75⟩ : Go.Eng.Fns) 1000 60 13 (.row [2]) (.row [4, 2])) = true := by kernel_rfl
set_option maxRecDepth 100000 in
theorem r11_31 : Go.Eng.isTrue (Go.Eng.twoRun Try.prog (Go.Eng.lenS 153) (⟨40, 42, 50, 39, 75⟩ : Go.Eng.Fns) 1000 60 13 (.row [2]) (.row [5])) = true := by kernel_rfl
set_option maxRecDepth 100000 in
theorem r11_32 : Go.Eng.isTrue (Go.Eng.twoRun Try.prog (Go.Eng.lenS 153) (⟨40, 42, 50, 39, 75⟩ : Go.Eng.Fns) 1000 60 13 (.row [2]) (.row [5, 1])) = true := by kernel_rfl
set_option maxRecDepth 100000 in
theorem r11_33 : Go.Eng.isTrue (Go.Eng.twoRun Try.prog (Go.Eng.lenS 153) (⟨40, 42, 50, 39, 75⟩ : Go.Eng.Fns) 1000 60 13 (.row [2]) (.row [6])) = true := by kernel_rfl
theorem r11 : Go.Eng.AllL (fun c => Go.Eng.isTrue (Go.Eng.twoRun Try.prog (Go.Eng.lenS 153) (⟨40, 42, 50, 39, 75⟩ : Go.Eng.Fns) 1000 60 13 (.row [2]) c) = true) Go.Eng.classes := by
  unfold Go.Eng.classes
  rw [Go.Eng.shares_eq]
  exact ⟨r11_0, r11_1, r11_2, r11_3, r11_4, r11_5, r11_6, r11_7, r11_8, r11_9, r11_10, r11_11, r11_12, r11_13, r11_14, r11_15, r11_16, r11_17, r11_18, r11_19, r11_20, r11_21, r11_22, r11_23, r11_24, r11_25, r11_26, r11_27, r11_28, r11_29, r11_30, r11_31, r11_32, r11_33, trivial⟩
set_option maxRecDepth 100000 in
theorem r19_0 : Go.Eng.isTrue (Go.Eng.twoRun Try.prog (Go.Eng.lenS 153) (⟨40, 42, 50, 39, 75⟩ : Go.Eng.Fns) 1000 60 13 (.row [2, 2, 2]) .nil) = true := by kernel_rfl
set_option maxRecDepth 100000 in
theorem r19_1 : Go.Eng.isTrue (Go.Eng.twoRun Try.prog (Go.Eng.lenS 153) (⟨40, 42, 50, 39, 75⟩ : Go.Eng.Fns) 1000 60 13 (.row [2, 2, 2]) .zero) = true := by kernel_rfl
set_option maxRecDepth 100000 in
theorem r19_2 : Go.Eng.isTrue (Go.Eng.twoRun Try.prog (Go.Eng.lenS 153) (⟨40, 42, 50, 39, 75⟩ : Go.Eng.Fns) 1000 60 13 (.row [2, 2, 2]) .no) = true := by kernel_rfl
set_option maxRecDepth 100000 in
theorem r19_3 : Go.Eng.isTrue (Go.Eng.twoRun Try.prog (Go.Eng.lenS 153) (⟨40, 42, 50, 39, 75⟩ : Go.Eng.Fns) 1000 60 13 (.row [2, 2, 2]) .long) = true := by kernel_rfl
set_option maxRecDepth 100000 in
theorem r19_4 : Go.Eng.isTrue (Go.Eng.twoRun Try.prog (Go.Eng.lenS 153) (⟨40, 42, 50, 39, 75⟩ : Go.Eng.Fns) 1000 60 13 (.row [2, 2, 2]) (.row [])) = true := by kernel_rfl
set_option maxRecDepth 100000 in
theorem r19_5 : Go.Eng.isTrue (Go.Eng.twoRun Try.prog (Go.Eng.lenS 153) (⟨40, 42, 50, 39, 75⟩ : Go.Eng.Fns) 1000 60 13 (.row [2, 2, 2]) (.row [1])) = true := by kernel_rfl
set_option maxRecDepth 100000 in
theorem r19_6 : Go.Eng.isTrue (Go.Eng.twoRun Try.prog (Go.Eng.lenS 153) (⟨40, 42, 50, 39, 75⟩ : Go.Eng.Fns) 1000 60 13 (.row [2, 2, 2]) (.row [1, 1])) = true := by kernel_rfl
set_option maxRecDepth 100000 in
theorem r19_7 : Go.Eng.isTrue (Go.Eng.twoRun Try.prog (Go.Eng.lenS 153) (⟨40, 42, 50, 39, 75⟩ : Go.Eng.Fns) 1000 60 13 (.row [2, 2, 2]) (.row [1, 1, 1])) = true := by kernel_rfl
set_option maxRecDepth 100000 in
theorem r19_8 : Go.Eng.isTrue (Go.Eng.twoRun Try.prog (Go.Eng.lenS 153) (⟨40, 42, 50, 39, 75⟩ : Go.Eng.Fns) 1000 60 13 (.row [2, 2, 2]) (.row [1, 1, 1, 1])) = true := by kernel_rfl
set_option maxRecDepth 100000 in
theorem r19_9 : Go.Eng.isTrue (Go.Eng.twoRun Try.prog (Go.Eng.lenS 153) (⟨40, 42, 50, 39, 75⟩ : Go.Eng.Fns) 1000 60 13 (.row [2, 2, 2]) (.row [1, 1, 1, 1, 1])) = true := by kernel_rfl
set_option maxRecDepth 100000 in
theorem r19_10 : Go.Eng.isTrue (Go.Eng.twoRun Try.prog (Go.Eng.lenS 153) (⟨40, 42, 50, 39, 75⟩ : Go.Eng.Fns) 1000 60 13 (.row [2, 2, 2]) (.row [1, 1, 1, 1, 1, 1])) = true := by kernel_rfl
set_option maxRecDepth 100000 in
theorem r19_11 : Go.Eng.isTrue (Go.Eng.twoRun Try.prog (Go.Eng.lenS 153) (⟨40, 42, 50, 39, 75⟩ : Go.Eng.Fns) 1000 60 13 (.row [2, 2, 2]) (.row [2])) = true := by kernel_rfl
set_option maxRecDepth 100000 in
theorem r19_12 : Go.Eng.isTrue (Go.Eng.twoRun Try.prog (Go.Eng.lenS 153) (⟨40, 42, 50, 39, 75⟩ : Go.Eng.Fns) 1000 60 13 (.row [2, 2, 2]) (.row [2, 1])) = true := by kernel_rfl
set_option maxRecDepth 100000 in
theorem r19_13 : Go.Eng.isTrue (Go.Eng.twoRun Try.prog (Go.Eng.lenS 153) (⟨40, 42, 50, 39, 75⟩ : Go.Eng.Fns) 1000 60 13 (.row [2, 2, 2]) (.row [2, 1, 1])) = true := by kernel_rfl
set_option maxRecDepth 100000 in
theorem r19_14 : Go.Eng.isTrue (Go.Eng.twoRun Try.prog (Go.Eng.lenS 153) (⟨40, 42, 50, 39, 75⟩ : Go.Eng.Fns) 1000 60 13 (.row [2, 2, 2]) (.row [2, 1, 1, 1])) = true := by kernel_rfl
set_option maxRecDepth 100000 in
theorem r19_15 : Go.Eng.isTrue (Go.Eng.twoRun Try.prog (Go.Eng.lenS 153) (⟨40, 42, 50, 39, 75⟩ : Go.Eng.Fns) 1000 60 13 (.row [2, 2, 2]) (.row [2, 1, 1, 1, 1])) = true := by kernel_rfl
set_option maxRecDepth 100000 in
theorem r19_16 : Go.Eng.isTrue (Go.Eng.twoRun Try.prog (Go.Eng.lenS 153) (⟨40, 42, 50, 39, 75⟩ : Go.Eng.Fns) 1000 60 13 (.row [2, 2, 2]) (.row [2, 2])) = true := by kernel_rfl
set_option maxRecDepth 100000 in
theorem r19_17 : Go.Eng.isTrue (Go.Eng.twoRun Try.prog (Go.Eng.lenS 153) (⟨40, 42, 50, 39, 75⟩ : Go.Eng.Fns) 1000 60 13 (.row [2, 2, 2]) (.row [2, 2, 1])) = true := by kernel_rfl
set_option maxRecDepth 100000 in
theorem r19_18 : Go.Eng.isTrue (Go.Eng.twoRun Try.prog (Go.Eng.lenS 153) (⟨40, 42, 50, 39, 75⟩ : Go.Eng.Fns) 1000 60 13 (.row [2, 2, 2]) (.row [2, 2, 1, 1])) = true := by kernel_rfl
set_option maxRecDepth 100000 in
theorem r19_19 : Go.Eng.isTrue (Go.Eng.twoRun Try.prog (Go.Eng.lenS 153) (⟨40, 42, 50, 39, 75⟩ : Go.Eng.Fns) 1000 60 13 (.row [2, 2, 2]) (.row [2, 2, 2])) = true := by kernel_rfl
set_option maxRecDepth 100000 in
theorem r19_20 : Go.Eng.isTrue (Go.Eng.twoRun Try.prog (Go.Eng.lenS 153) (⟨40, 42, 50, 39, 75⟩ : Go.Eng.Fns) 1000 60 13 (.row [2, 2, 2]) (.row [3])) = true := by kernel_rfl
set_option maxRecDepth 100000 in
theorem r19_21 : Go.Eng.isTrue (Go.Eng.twoRun Try.prog (Go.Eng.lenS 153) (⟨40, 42, 50, 39, 75⟩ : Go.Eng.Fns) 1000 60 13 (.row [2, 2, 2]) (.row [3, 1])) = true := by kernel_rfl
set_option maxRecDepth 100000 in
theorem r19_22 : Go.Eng.isTrue (Go.Eng.twoRun Try.prog (Go.Eng.lenS 153) (⟨40, 42, 50, 39, 75⟩ : Go.Eng.Fns) 1000 60 13 (.row [2, 2, 2]) (.row [3, 1, 1])) = true := by kernel_rfl
set_option maxRecDepth 100000 in
theorem r19_23 : Go.Eng.isTrue (Go.Eng.twoRun Try.prog (Go.Eng.lenS 153) (⟨40, 42, 50, 39, 75⟩ : Go.Eng.Fns) 1000 60 13 (.row [2, 2, 2]) (.row [3, 1, 1, 1])) = true := by kernel_rfl
set_option maxRecDepth 100000 in
theorem r19_24 : Go.Eng.isTrue (Go.Eng.twoRun Try.prog (Go.Eng.lenS 153) (⟨40, 42, 50, 39, 75⟩ : Go.Eng.Fns) 1000 60 13 (.row [2, 2, 2]) (.row [3, 2])) = true := by kernel_rfl
set_option maxRecDepth 100000 in
theorem r19_25 : Go.Eng.isTrue (Go.Eng.twoRun Try.prog (Go.Eng.lenS 153) (⟨40, 42, 50, 39, 75⟩ : Go.Eng.Fns) 1000 60 13 (.row [2, 2, 2]) (.row [3, 2, 1])) = true := by kernel_rfl
set_option maxRecDepth 100000 in
theorem r19_26 : Go.Eng.isTrue (Go.Eng.twoRun Try.prog (Go.Eng.lenS 153) (⟨40, 42, 50, 39, 75⟩ : Go.Eng.Fns) 1000 60 13 (.row [2, 2, 2]) (.row [3, 3])) = true := by kernel_rfl
set_option maxRecDepth 100000 in
theorem r19_27 : Go.Eng.isTrue (Go.Eng.twoRun Try.prog (Go.Eng.lenS 153) (⟨40, 42, 50, 39, 75⟩ : Go.Eng.Fns) 1000 60 13 (.row [2, 2, 2]) (.row [4])) = true := by kernel_rfl
set_option maxRecDepth 100000 in
theorem r19_28 : Go.Eng.isTrue (Go.Eng.twoRun Try.prog (Go.Eng.lenS 153) (⟨40, 42, 50, 39, 75⟩ : Go.Eng.Fns) 1000 60 13 (.row [2, 2, 2]) (.row [4, 1])) = true := by kernel_rfl
set_option maxRecDepth 100000 in
theorem r19_29 : Go.Eng.isTrue (Go.Eng.twoRun Try.prog (Go.Eng.lenS 153) (⟨40, 42, 50, 39, 75⟩ : Go.Eng.Fns) 1000 60 13 (.row [2, 2, 2]) (.row [4, 1, 1])) = true := by kernel_rfl
set_option maxRecDepth 100000 in
theorem r19_30 : Go.Eng.isTrue (Go.Eng.twoRun Try.prog (Go.Eng.lenS 153) (⟨40, 42, 50, 39, 75⟩ : Go.Eng.Fns) 1000 60 13 (.row [2, 2, 2]) (.row [4, 2])) = true := by kernel_rfl
set_option maxRecDepth 100000 in
theorem r19_31 : Go.Eng.isTrue (Go.Eng.twoRun Try.prog (Go.Eng.lenS 153) (⟨40, 42, 50, 39, 75⟩ : Go.Eng.Fns) 1000 60 13 (.row [2, 2, 2]) (.row [5])) = true := by kernel_rfl
set_option maxRecDepth 100000 in
theorem r19_32 : Go.Eng.isTrue (Go.Eng.twoRun Try.prog (Go.Eng.lenS 153) (⟨40, 42, 50, 39, 75⟩ : Go.Eng.Fns) 1000 60 13 (.row [2, 2, 2]) (.row [5, 1])) = true := by kernel_rfl
set_option maxRecDepth 100000 in
theorem r19_33 : Go.Eng.isTrue (Go.Eng.twoRun Try.prog (Go.Eng.lenS 153) (⟨40, 42, 50, 39, 75⟩ : Go.Eng.Fns) 1000 60 13 (.row [2, 2, 2]) (.row [6])) = true := by kernel_rfl
theorem r19 : Go.Eng.AllL (fun c => Go.Eng.isTrue (Go.Eng.twoRun Try.prog (Go.Eng.lenS 153) (⟨40, 42, 50, 39, 75⟩ : Go.Eng.Fns) 1000 60 13 (.row [2, 2, 2]) c) = true) Go.Eng.classes := by
  unfold Go.Eng.classes
  rw [Go.Eng.shares_eq]
  exact ⟨r19_0, r19_1, r19_2, r19_3, r19_4, r19_5, r19_6, r19_7, r19_8, r19_9, r19_10, r19_11, r19_12, r19_13, r19_14, r19_15, r19_16, r19_17, r19_18, r19_19, r19_20, r19_21, r19_22, r19_23, r19_24, r19_25, r19_26, r19_27, r19_28, r19_29, r19_30, r19_31, r19_32, r19_33, trivial⟩
set_option maxRecDepth 100000 in
theorem r27_0 : Go.Eng.isTrue (Go.Eng.twoRun Try.prog (Go.Eng.lenS 153) (⟨40, 42, 50, 39, 75⟩ : Go.Eng.Fns) 1000 60 13 (.row [4]) .nil) = true := by kernel_rfl
set_option maxRecDepth 100000 in
theorem r27_1 : Go.Eng.isTrue (Go.Eng.twoRun Try.prog (Go.Eng.lenS 153) (⟨40, 42, 50, 39, 75⟩ : Go.Eng.Fns) 1000 60 13 (.row [4]) .zero) = true := by kernel_rfl
set_option maxRecDepth 100000 in
theorem r27_2 : Go.Eng.isTrue (Go.Eng.twoRun Try.prog (Go.Eng.lenS 153) (⟨40, 42, 50, 39, 75⟩ : Go.Eng.Fns) 1000 60 13 (.row [4]) .no) = true := by kernel_rfl
set_option maxRecDepth 100000 in
theorem r27_3 : Go.Eng.isTrue (Go.Eng.twoRun Try.prog (Go.Eng.lenS 153) (⟨40, 42, 50, 39, 75⟩ : Go.Eng.Fns) 1000 60 13 (.row [4]) .long) = true := by kernel_rfl
set_option maxRecDepth 100000 in
theorem r27_4 : Go.Eng.isTrue (Go.Eng.twoRun Try.prog (Go.Eng.lenS 153) (⟨40, 42, 50, 39, 75⟩ : Go.Eng.Fns) 1000 60 13 (.row [4]) (.row [])) = true := by kernel_rfl
set_option maxRecDepth 100000 in
theorem r27_5 : Go.Eng.isTrue (Go.Eng.twoRun Try.prog (Go.Eng.lenS 153) (⟨40, 42, 50, 39, 75⟩ : Go.Eng.Fns) 1000 60 13 (.row [4]) (.row [1])) = true := by kernel_rfl
set_option maxRecDepth 100000 in
theorem r27_6 : Go.Eng.isTrue (Go.Eng.twoRun Try.prog (Go.Eng.lenS 153) (⟨40, 42, 50, 39, 75⟩ : Go.Eng.Fns) 1000 60 13 (.row [4]) (.row [1, 1])) = true := by kernel_rfl
set_option maxRecDepth 100000 in
theorem r27_7 : Go.Eng.isTrue (Go.Eng.twoRun Try.prog (Go.Eng.lenS 153) (⟨40, 42, 50, 39, 75⟩ : Go.Eng.Fns) 1000 60 13 (.row [4]) (.row [1, 1, 1])) = true := by kernel_rfl
set_option maxRecDepth 100000 in
theorem r27_8 : Go.Eng.isTrue (Go.Eng.twoRun Try.prog (Go.Eng.lenS 153) (⟨40, 42, 50, 39, 75⟩ : Go.Eng.Fns) 1000 60 13 (.row [4]) (.row [1, 1, 1, 1])) = true := by kernel_rfl
set_option maxRecDepth 100000 in
theorem r27_9 : Go.Eng.isTrue (Go.Eng.twoRun Try.prog (Go.Eng.lenS 153) (⟨40, 42, 50, 39, 75⟩ : Go.Eng.Fns) 1000 60 13 (.row [4]) (.row [1, 1, 1, 1, 1])) = true := by kernel_rfl
set_option maxRecDepth 100000 in
theorem r27_10 : Go.Eng.isTrue (Go.Eng.twoRun Try.prog (Go.Eng.lenS 153) (⟨40, 42, 50, 39, 75⟩ : Go.Eng.Fns) 1000 60 13 (.row [4]) (.row [1, 1, 1, 1, 1, 1])) = true := by kernel_rfl
set_option maxRecDepth 100000 in
theorem r27_11 : Go.Eng.isTrue (Go.Eng.twoRun Try.prog (Go.Eng.lenS 153) (⟨40, 42, 50, 39, 75⟩ : Go.Eng.Fns) 1000 60 13 (.row [4]) (.row [2])) = true := by kernel_rfl
set_option maxRecDepth 100000 in
theorem r27_12 : Go.Eng.isTrue (Go.Eng.twoRun Try.prog (Go.Eng.lenS 153) (⟨40, 42, 50, 39, 75⟩ : Go.Eng.Fns) 1000 60 13 (.row [4]) (.row [2, 1])) = true := by kernel_rfl
set_option maxRecDepth 100000 in
theorem r27_13 : Go.Eng.isTrue (Go.Eng.twoRun Try.prog (Go.Eng.lenS 153) (⟨40, 42, 50, 39, 75⟩ : Go.Eng.Fns) 1000 60 13 (.row [4]) (.row [2, 1, 1])) = true := by kernel_rfl
set_option maxRecDepth 100000 in
theorem r27_14 : Go.Eng.isTrue (Go.Eng.twoRun Try.prog (Go.Eng.lenS 153) (⟨40, 42, 50, 39, 75⟩ : Go.Eng.Fns) 1000 60 13 (.row [4]) (.row [2, 1, 1, 1])) = true := by kernel_rfl
set_option maxRecDepth 100000 in
theorem r27_15 : Go.Eng.isTrue (Go.Eng.twoRun Try.prog (Go.Eng.lenS 153) (⟨40, 42, 50, 39, 75⟩ : Go.Eng.Fns) 1000 60 13 (.row [4]) (.row [2, 1, 1, 1, 1])) = true := by kernel_rfl
set_option maxRecDepth 100000 in
theorem r27_16 : Go.Eng.isTrue (Go.Eng.twoRun Try.prog (Go.Eng.lenS 153) (⟨40, 42, 50, 39, 75⟩ : Go.Eng.Fns) 1000 60 13 (.row [4]) (.row [2, 2])) = true := by kernel_rfl
set_option maxRecDepth 100000 in
theorem r27_17 : Go.Eng.isTrue (Go.Eng.twoRun Try.prog (Go.Eng.lenS 153) (⟨40, 42, 50, 39, 75⟩ : Go.Eng.Fns) 1000 60 13 (.row [4]) (.row [2, 2, 1])) = true := by kernel_rfl
set_option maxRecDepth 100000 in
theorem r27_18 : Go.Eng.isTrue (Go.Eng.twoRun Try.prog (Go.Eng.lenS 153) (⟨40, 42, 50, 39, 75⟩ : Go.Eng.Fns) 1000 60 13 (.row [4]) (.row [2, 2, 1, 1])) = true := by kernel_rfl
set_option maxRecDepth 100000 in
theorem r27_19 : Go.Eng.isTrue (Go.Eng.twoRun Try.prog (Go.Eng.lenS 153) (⟨40, 42, 50, 39, 75⟩ : Go.Eng.Fns) 1000 60 13 (.row [4]) (.row [2, 2, 2])) = true := by kernel_rfl
set_option maxRecDepth 100000 in
theorem r27_20 : Go.Eng.isTrue (Go.Eng.twoRun Try.prog (Go.Eng.lenS 153) (⟨40, 42, 50, 39, 75⟩ : Go.Eng.Fns) 1000 60 13 (.row [4]) (.row [3])) = true := by kernel_rfl
set_option maxRecDepth 100000 in
theorem r27_21 : Go.Eng.isTrue (Go.Eng.twoRun Try.prog (Go.Eng.lenS 153) (⟨40, 42, 50, 39, 75⟩ : Go.Eng.Fns) 1000 60 13 (.row [4]) (.row [3, 1])) = true := by kernel_rfl
set_option maxRecDepth 100000 in
theorem r27_22 : Go.Eng.isTrue (Go.Eng.twoRun Try.prog (Go.Eng.lenS 153) (⟨40, 42, 50, 39, 75⟩ : Go.Eng.Fns) 1000 60 13 (.row [4]) (.row [3, 1, 1])) = true := by kernel_rfl
set_option maxRecDepth 100000 in
theorem r27_23 : Go.Eng.isTrue (Go.Eng.twoRun Try.prog (Go.Eng.lenS 153) (⟨40, 42, 50, 39, 75⟩ : Go.Eng.Fns) 1000 60 13 (.row [4]) (.row [3, 1, 1, 1])) = true := by kernel_rfl
set_option maxRecDepth 100000 in
theorem r27_24 : Go.Eng.isTrue (Go.Eng.twoRun Try.prog (Go.Eng.lenS 153) (⟨40, 42, 50, 39, 75⟩ : Go.Eng.Fns) 1000 60 13 (.row [4]) (.row [3, 2])) = true := by kernel_rfl
set_option maxRecDepth 100000 in
theorem r27_25 : Go.Eng.isTrue (Go.Eng.twoRun Try.prog (Go.Eng.lenS 153) (⟨40, 42, 50, 39, 75⟩ : Go.Eng.Fns) 1000 60 13 (.row [4]) (.row [3, 2, 1])) = true := by kernel_rfl
set_option maxRecDepth 100000 in
theorem r27_26 : Go.Eng.isTrue (Go.Eng.twoRun Try.prog (Go.Eng.lenS 153) (⟨40, 42, 50, 39, 75⟩ : Go.Eng.Fns) 1000 60 13 (.row [4]) (.row [3, 3])) = true := by kernel_rfl
set_option maxRecDepth 100000 in
theorem r27_27 : Go.Eng.isTrue (Go.Eng.twoRun Try.prog (Go.Eng.lenS 153) (⟨40, 42, 50, 39, 75⟩ : Go.Eng.Fns) 1000 60 13 (.row [4]) (.row [4])) = true := by kernel_rfl
set_option maxRecDepth 100000 in
theorem r27_28 : Go.Eng.isTrue (Go.Eng.twoRun Try.prog (Go.Eng.lenS 153) (⟨40, 42, 50, 39, 75⟩ : Go.Eng.Fns) 1000 60 13 (.row [4]) (.row [4, 1])) = true := by kernel_rfl
set_option maxRecDepth 100000 in
theorem r27_29 : Go.Eng.isTrue (Go.Eng.twoRun Try.prog (Go.Eng.lenS 153) (⟨40, 42, 50, 39, 75⟩ : Go.Eng.Fns) 1000 60 13 (.row [4]) (.row [4, 1, 1])) = true := by kernel_rfl
set_option maxRecDepth 100000 in
theorem r27_30 : Go.Eng.isTrue (Go.Eng.twoRun Try.prog (Go.Eng.lenS 153) (⟨40, 42, 50, 39, 75⟩ : Go.Eng.Fns) 1000 60 13 (.row [4]) (.row [4, 2])) = true := by kernel_rfl
set_option maxRecDepth 100000 in
theorem r27_31 : Go.Eng.isTrue (Go.Eng.twoRun Try.prog (Go.Eng.lenS 153) (⟨40, 42, 50, 39, 75⟩ : Go.Eng.Fns) 1000 60 13 (.row [4]) (.row [5])) = true := by kernel_rfl
set_option maxRecDepth 100000 in
theorem r27_32 : Go.Eng.isTrue (Go.Eng.twoRun Try.prog (Go.Eng.lenS 153) (⟨40, 42, 50, 39, 75⟩ : Go.Eng.Fns) 1000 60 13 (.row [4]) (.row [5, 1])) = true := by kernel_rfl
set_option maxRecDepth 100000 in
theorem r27_33 : Go.Eng.isTrue (Go.Eng.twoRun Try.prog (Go.Eng.lenS 153) (⟨40, 42, 50, 39, 75⟩ : Go.Eng.Fns) 1000 60 13 (.row [4]) (.row [6])) = true := by kernel_rfl
theorem r27 : Go.Eng.AllL (fun c => Go.Eng.isTrue (Go.Eng.twoRun Try.prog (Go.Eng.lenS 153) (⟨40, 42, 50, 39, 75⟩ : Go.Eng.Fns) 1000 60 13 (.row [4]) c) = true) Go.Eng.classes := by
  unfold Go.Eng.classes
  rw [Go.Eng.shares_eq]
  exact ⟨r27_0, r27_1, r27_2, r27_3, r27_4, r27_5, r27_6, r27_7, r27_8, r27_9, r27_10, r27_11, r27_12, r27_13, r27_14, r27_15, r27_16, r27_17, r27_18, r27_19, r27_20, r27_21, r27_22, r27_23, r27_24, r27_25, r27_26, r27_27, r27_28, r27_29, r27_30, r27_31, r27_32, r27_33, trivial⟩
end Go.Proofs.Ytnablcacdfebfac.fnExactShareJoinRuns
