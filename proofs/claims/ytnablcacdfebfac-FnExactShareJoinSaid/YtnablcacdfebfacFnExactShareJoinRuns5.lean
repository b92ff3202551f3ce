/- The runs of FnExactShareJoin, part 5. -/
import Derived.Test.YtnablcacdfebfacEngZa
import Derived.Test.YtnablcacdfebfacProg
namespace Go.Proofs.Ytnablcacdfebfac.fnExactShareJoinRuns
set_option linter.unusedVariables false
set_option linter.unusedSectionVars false
set_option linter.unusedSimpArgs false
set_option maxRecDepth 100000 in
theorem r5_0 : Go.Eng.isTrue (Go.Eng.twoRun Try.prog (Go.Eng.lenS 153) (⟨40, 42, 50, 39, 75⟩ : Go.Eng.Fns) 1000 60 13 (.row [1]) .nil) = true := by kernel_rfl
set_option maxRecDepth 100000 in
theorem r5_1 : Go.Eng.isTrue (Go.Eng.twoRun Try.prog (Go.Eng.lenS 153) (⟨40, 42, 50, 39, 75⟩ : Go.Eng.Fns) 1000 60 13 (.row [1]) .zero) = true := by kernel_rfl
set_option maxRecDepth 100000 in
theorem r5_2 : Go.Eng.isTrue (Go.Eng.twoRun Try.prog (Go.Eng.lenS 153) (⟨40, 42, 50, 39, 75⟩ : Go.Eng.Fns) 1000 60 13 (.row [1]) .no) = true := by kernel_rfl
set_option maxRecDepth 100000 in
theorem r5_3 : Go.Eng.isTrue (Go.Eng.twoRun Try.prog (Go.Eng.lenS 153) (⟨40, 42, 50, 39, 75⟩ : Go.Eng.Fns) 1000 60 13 (.row [1]) .long) = true := by kernel_rfl
set_option maxRecDepth 100000 in
theorem r5_4 : Go.Eng.isTrue (Go.Eng.twoRun Try.prog (Go.Eng.lenS 153) (⟨40, 42, 50, 39, 75⟩ : Go.Eng.Fns) 1000 60 13 (.row [1]) (.row [])) = true := by kernel_rfl
set_option maxRecDepth 100000 in
theorem r5_5 : Go.Eng.isTrue (Go.Eng.twoRun Try.prog (Go.Eng.lenS 153) (⟨40, 42, 50, 39, 75⟩ : Go.Eng.Fns) 1000 60 13 (.row [1]) (.row [1])) = true := by kernel_rfl
set_option maxRecDepth 100000 in
theorem r5_6 : Go.Eng.isTrue (Go.Eng.twoRun Try.prog (Go.Eng.lenS 153) (⟨40, 42, 50, 39, 75⟩ : Go.Eng.Fns) 1000 60 13 (.row [1]) (.row [1, 1])) = true := by kernel_rfl
set_option maxRecDepth 100000 in
theorem r5_7 : Go.Eng.isTrue (Go.Eng.twoRun Try.prog (Go.Eng.lenS 153) (⟨40, 42, 50, 39, 75⟩ : Go.Eng.Fns) 1000 60 13 (.row [1]) (.row [1, 1, 1])) = true := by kernel_rfl
set_option maxRecDepth 100000 in
theorem r5_8 : Go.Eng.isTrue (Go.Eng.twoRun Try.prog (Go.Eng.lenS 153) (⟨40, 42, 50, 39, 75⟩ : Go.Eng.Fns) 1000 60 13 (.row [1]) (.row [1, 1, 1, 1])) = true := by kernel_rfl
set_option maxRecDepth 100000 in
theorem r5_9 : Go.Eng.isTrue (Go.Eng.twoRun Try.prog (Go.Eng.lenS 153) (⟨40, 42, 50, 39, 75⟩ : Go.Eng.Fns) 1000 60 13 (.row [1]) (.row [1, 1, 1, 1, 1])) = true := by kernel_rfl
set_option maxRecDepth 100000 in
theorem r5_10 : Go.Eng.isTrue (Go.Eng.twoRun Try.prog (Go.Eng.lenS 153) (⟨40, 42, 50, 39, 75⟩ : Go.Eng.Fns) 1000 60 13 (.row [1]) (.row [1, 1, 1, 1, 1, 1])) = true := by kernel_rfl
set_option maxRecDepth 100000 in
theorem r5_11 : Go.Eng.isTrue (Go.Eng.twoRun Try.prog (Go.Eng.lenS 153) (⟨40, 42, 50, 39, 75⟩ : Go.Eng.Fns) 1000 60 13 (.row [1]) (.row [2])) = true := by kernel_rfl
set_option maxRecDepth 100000 in
theorem r5_12 : Go.Eng.isTrue (Go.Eng.twoRun Try.prog (Go.Eng.lenS 153) (⟨40, 42, 50, 39, 75⟩ : Go.Eng.Fns) 1000 60 13 (.row [1]) (.row [2, 1])) = true := by kernel_rfl
set_option maxRecDepth 100000 in
theorem r5_13 : Go.Eng.isTrue (Go.Eng.twoRun Try.prog (Go.Eng.lenS 153) (⟨40, 42, 50, 39, 75⟩ : Go.Eng.Fns) 1000 60 13 (.row [1]) (.row [2, 1, 1])) = true := by kernel_rfl
set_option maxRecDepth 100000 in
theorem r5_14 : Go.Eng.isTrue (Go.Eng.twoRun Try.prog (Go.Eng.lenS 153) (⟨40, 42, 50, 39, 75⟩ : Go.Eng.Fns) 1000 60 13 (.row [1]) (.row [2, 1, 1, 1])) = true := by kernel_rfl
set_option maxRecDepth 100000 in
theorem r5_15 : Go.Eng.isTrue (Go.Eng.twoRun Try.prog (Go.Eng.lenS 153) (⟨40, 42, 50, 39, 75⟩ : Go.Eng.Fns) 1000 60 13 (.row [1]) (.row [2, 1, 1, 1, 1])) = true := by kernel_rfl
set_option maxRecDepth 100000 in
theorem r5_16 : Go.Eng.isTrue (Go.Eng.twoRun Try.prog (Go.Eng.lenS 153) (⟨40, 42, 50, 39, 75⟩ : Go.Eng.Fns) 1000 60 13 (.row [1]) (.row [2, 2])) = true := by kernel_rfl
set_option maxRecDepth 100000 in
theorem r5_17 : Go.Eng.isTrue (Go.Eng.twoRun Try.prog (Go.Eng.lenS 153) (⟨40, 42, 50, 39, 75⟩ : Go.Eng.Fns) 1000 60 13 (.row [1]) (.row [2, 2, 1])) = true := by kernel_rfl
set_option maxRecDepth 100000 in
theorem r5_18 : Go.Eng.isTrue (Go.Eng.twoRun Try.prog (Go.Eng.lenS 153) (⟨40, 42, 50, 39, 75⟩ : Go.Eng.Fns) 1000 60 13 (.row [1]) (.row [2, 2, 1, 1])) = true := by kernel_rfl
set_option maxRecDepth 100000 in
theorem r5_19 : Go.Eng.isTrue (Go.Eng.twoRun Try.prog (Go.Eng.lenS 153) (⟨40, 42, 50, 39, 75⟩ : Go.Eng.Fns) 1000 60 13 (.row [1]) (.row [2, 2, 2])) = true := by kernel_rfl
set_option maxRecDepth 100000 in
theorem r5_20 : Go.Eng.isTrue (Go.Eng.twoRun Try.prog (Go.Eng.lenS 153) (⟨40, 42, 50, 39, 75⟩ : Go.Eng.Fns) 1000 60 13 (.row [1]) (.row [3])) = true := by kernel_rfl
set_option maxRecDepth 100000 in
theorem r5_21 : Go.Eng.isTrue (Go.Eng.twoRun Try.prog (Go.Eng.lenS 153) (⟨40, 42, 50, 39, 75⟩ : Go.Eng.Fns) 1000 60 13 (.row [1]) (.row [3, 1])) = true := by kernel_rfl
set_option maxRecDepth 100000 in
theorem r5_22 : Go.Eng.isTrue (Go.Eng.twoRun Try.prog (Go.Eng.lenS 153) (⟨40, 42, 50, 39, 75⟩ : Go.Eng.Fns) 1000 60 13 (.row [1]) (.row [3, 1, 1])) = true := by kernel_rfl
set_option maxRecDepth 100000 in
theorem r5_23 : Go.Eng.isTrue (Go.Eng.twoRun Try.prog (Go.Eng.lenS 153) (⟨40, 42, 50, 39, 75⟩ : Go.Eng.Fns) 1000 60 13 (.row [1]) (.row [3, 1, 1, 1])) = true := by kernel_rfl
set_option maxRecDepth 100000 in
theorem r5_24 : Go.Eng.isTrue (Go.Eng.twoRun Try.prog (Go.Eng.lenS 153) (⟨40, 42, 50, 39, 75⟩ : Go.Eng.Fns) 1000 60 13 (.row [1]) (.row [3, 2])) = true := by kernel_rfl
set_option maxRecDepth 100000 in
theorem r5_25 : Go.Eng.isTrue (Go.Eng.twoRun Try.prog (Go.Eng.lenS 153) (⟨40, 42, 50, 39, 75⟩ : Go.Eng.Fns) 1000 60 13 (.row [1]) (.row [3, 2, 1])) = true := by kernel_rfl
set_option maxRecDepth 100000 in
theorem r5_26 : Go.Eng.isTrue (Go.Eng.twoRun Try.prog (Go.Eng.lenS 153) (⟨40, 42, 50, 39, 75⟩ : Go.Eng.Fns) 1000 60 13 (.row [1]) (.row [3, 3])) = true := by kernel_rfl
set_option maxRecDepth 100000 in
theorem r5_27 : Go.Eng.isTrue (Go.Eng.twoRun Try.prog (Go.Eng.lenS 153) (⟨40, 42, 50, 39, 75⟩ : Go.Eng.Fns) 1000 60 13 (.row [1]) (.row [4])) = true := by kernel_rfl
set_option maxRecDepth 100000 in
theorem r5_28 : Go.Eng.isTrue (Go.Eng.twoRun Try.prog (Go.Eng.lenS 153) (⟨40, 42, 50, 39, 75⟩ : Go.Eng.Fns) 1000 60 13 (.row [1]) (.row [4, 1])) = true := by kernel_rfl
set_option maxRecDepth 100000 in
theorem r5_29 : Go.Eng.isTrue (Go.Eng.twoRun Try.prog (Go.Eng.lenS 153) (⟨40, 42, 50, 39, 75⟩ : Go.Eng.Fns) 1000 60 13 (.row [1]) (.row [4, 1, 1])) = true := by kernel_rfl
set_option maxRecDepth 100000 in
theorem r5_30 : Go.Eng.isTrue (Go.Eng.twoRun Try.prog (Go.Eng.lenS 153) (⟨40, 42, 50, 39, 75⟩ : Go.Eng.Fns) 1000 60 13 (.row [1]) (.row [4, 2])) = true := by kernel_rfl
set_option maxRecDepth 100000 in
theorem r5_31 : Go.Eng.isTrue (Go.Eng.twoRun Try.prog (Go.Eng.lenS 153) (⟨40, 42, 50, 39, 75⟩ : Go.Eng.Fns) 1000 60 13 (.row [1]) (.row [5])) = true := by kernel_rfl
set_option maxRecDepth 100000 in
theorem r5_32 : Go.Eng.isTrue (Go.Eng.twoRun Try.prog (Go.Eng.lenS 153) (⟨40, 42, 50, 39, 75⟩ : Go.Eng.Fns) 1000 60 13 (.row [1]) (.row [5, 1])) = true := by kernel_rfl
set_option maxRecDepth 100000 in
theorem r5_33 : Go.Eng.isTrue (Go.Eng.twoRun Try.prog (Go.Eng.lenS 153) (⟨40, 42, 50, 39, 75⟩ : Go.Eng.Fns) 1000 60 13 (.row [1]) (.row [6])) = true := by kernel_rfl
theorem r5 : Go.Eng.AllL (fun c => Go.Eng.isTrue (Go.Eng.twoRun Try.prog (Go.Eng.lenS 153) (⟨40, 42, 50, 39, 75⟩ : Go.Eng.Fns) 1000 60 13 (.row [1]) c) = true) Go.Eng.classes := by
  unfold Go.Eng.classes
  rw [Go.Eng.shares_eq]
  exact ⟨r5_0, r5_1, r5_2, r5_3, r5_4, r5_5, r5_6, r5_7, r5_8, r5_9, r5_10, r5_11, r5_12, r5_13, r5_14, r5_15, r5_16, r5_17, r5_18, r5_19, r5_20, r5_21, r5_22, r5_23, r5_24, r5_25, r5_26, r5_27, r5_28, r5_29, r5_30, r5_31, r5_32, r5_33, trivial⟩
set_option maxRecDepth 100000 in
theorem r13_0 : Go.Eng.isTrue (Go.Eng.twoRun Try.prog (Go.Eng.lenS 153) (⟨40, 42, 50, 39, 75⟩ : Go.Eng.Fns) 1000 60 13 (.row [2, 1, 1]) .nil) = true := by kernel_rfl
set_option maxRecDepth 100000 in
theorem r13_1 : Go.Eng.isTrue (Go.Eng.twoRun Try.prog (Go.Eng.lenS 153) (⟨40, 42, 50, 39, 75⟩ : Go.Eng.Fns) 1000 60 13 (.row [2, 1, 1]) .zero) = true := by kernel_rfl
set_option maxRecDepth 100000 in
theorem r13_2 : Go.Eng.isTrue (Go.Eng.twoRun Try.prog (Go.Eng.lenS 153) (⟨40, 42, 50, 39, 75⟩ : Go.Eng.Fns) 1000 60 13 (.row [2, 1, 1]) .no) = true := by kernel_rfl
set_option maxRecDepth 100000 in
theorem r13_3 : Go.Eng.isTrue (Go.Eng.twoRun Try.prog (Go.Eng.lenS 153) (⟨40, 42, 50, 39, 75⟩ : Go.Eng.Fns) 1000 60 13 (.row [2, 1, 1]) .long) = true := by kernel_rfl
set_option maxRecDepth 100000 in
theorem r13_4 : Go.Eng.isTrue (Go.Eng.twoRun Try.prog (Go.Eng.lenS 153) (⟨40, 42, 50, 39, 75⟩ : Go.Eng.Fns) 1000 60 13 (.row [2, 1, 1]) (.row [])) = true := by kernel_rfl
set_option maxRecDepth 100000 in
theorem r13_5 : Go.Eng.isTrue (Go.Eng.twoRun Try.prog (Go.Eng.lenS 153) (⟨40, 42, 50, 39, 75⟩ : Go.Eng.Fns) 1000 60 13 (.row [2, 1, 1]) (.row [1])) = true := by kernel_rfl
set_option maxRecDepth 100000 in
theorem r13_6 : Go.Eng.isTrue (Go.Eng.twoRun Try.prog (Go.Eng.lenS 153) (⟨40, 42, 50, 39, 75⟩ : Go.Eng.Fns) 1000 60 13 (.row [2, 1, 1]) (.row [1, 1])) = true := by kernel_rfl
set_option maxRecDepth 100000 in
theorem r13_7 : Go.Eng.isTrue (Go.Eng.twoRun Try.prog (Go.Eng.lenS 153) (⟨40, 42, 50, 39, 75⟩ : Go.Eng.Fns) 1000 60 13 (.row [2, 1, 1]) (.row [1, 1, 1])) = true := by kernel_rfl
set_option maxRecDepth 100000 in
theorem r13_8 : Go.Eng.isTrue (Go.Eng.twoRun Try.prog (Go.Eng.lenS 153) (⟨40, 42, 50, 39, 75⟩ : Go.Eng.Fns) 1000 60 13 (.row [2, 1, 1]) (.row [1, 1, 1, 1])) = true := by kernel_rfl
set_option maxRecDepth 100000 in
theorem r13_9 : Go.Eng.isTrue (Go.Eng.twoRun Try.prog (Go.Eng.lenS 153) (⟨40, 42, 50, 39, 75⟩ : Go.Eng.Fns) 1000 60 13 (.row [2, 1, 1]) (.row [1, 1, 1, 1, 1])) = true := by kernel_rfl
set_option maxRecDepth 100000 in
theorem r13_10 : Go.Eng.isTrue (Go.Eng.twoRun Try.prog (Go.Eng.lenS 153) (⟨40, 42, 50, 39, 75⟩ : Go.Eng.Fns) 1000 60 13 (.row [2, 1, 1]) (.row [1, 1, 1, 1, 1, 1])) = true := by kernel_rfl
set_option maxRecDepth 100000 in
theorem r13_11 : Go.Eng.isTrue (Go.Eng.twoRun Try.prog (Go.Eng.lenS 153) (⟨40, 42, 50, 39, 75⟩ : Go.Eng.Fns) 1000 60 13 (.row [2, 1, 1]) (.row [2])) = true := by kernel_rfl
set_option maxRecDepth 100000 in
theorem r13_12 : Go.Eng.isTrue (Go.Eng.twoRun Try.prog (Go.Eng.lenS 153) (⟨40, 42, 50, 39, 75⟩ : Go.Eng.Fns) 1000 60 13 (.row [2, 1, 1]) (.row [2, 1])) = true := by kernel_rfl
set_option maxRecDepth 100000 in
theorem r13_13 : Go.Eng.isTrue (Go.Eng.twoRun Try.prog (Go.Eng.lenS 153) (⟨40, 42, 50, 39, 75⟩ : Go.Eng.Fns) 1000 60 13 (.row [2, 1, 1]) (.row [2, 1, 1])) = true := by kernel_rfl
set_option maxRecDepth 100000 in
theorem r13_14 : Go.Eng.isTrue (Go.Eng.twoRun Try.prog (Go.Eng.lenS 153) (⟨40, 42, 50, 39, 75⟩ : Go.Eng.Fns) 1000 60 13 (.row [2, 1, 1]) (.row [2, 1, 1, 1])) = true := by kernel_rfl
set_option maxRecDepth 100000 in
theorem r13_15 : Go.Eng.isTrue (Go.Eng.twoRun Try.prog (Go.Eng.lenS 153) (⟨40, 42, 50, 39, 75⟩ : Go.Eng.Fns) 1000 60 13 (.row [2, 1, 1]) (.row [2, 1, 1, 1, 1])) = true := by kernel_rfl
set_option maxRecDepth 100000 in
theorem r13_16 : Go.Eng.isTrue (Go.Eng.twoRun Try.prog (Go.Eng.lenS 153) (⟨40, 42, 50, 39, 75⟩ : Go.Eng.Fns) 1000 60 13 (.row [2, 1, 1]) (.row [2, 2])) = true := by kernel_rfl
set_option maxRecDepth 100000 in
theorem r13_17 : Go.Eng.isTrue (Go.Eng.twoRun Try.prog (Go.Eng.lenS 153) (⟨40, 42, 50, 39, 75⟩ : Go.Eng.Fns) 1000 60 13 (.row [2, 1, 1]) (.row [2, 2, 1])) = true := by kernel_rfl
set_option maxRecDepth 100000 in
theorem r13_18 : Go.Eng.isTrue (Go.Eng.twoRun Try.prog (Go.Eng.lenS 153) (⟨40, 42, 50, 39, 75⟩ : Go.Eng.Fns) 1000 60 13 (.row [2, 1, 1]) (.row [2, 2, 1, 1])) = true := by kernel_rfl
set_option maxRecDepth 100000 in
theorem r13_19 : Go.Eng.isTrue (Go.Eng.twoRun Try.prog (Go.Eng.lenS 153) (⟨40, 42, 50, 39, 75⟩ : Go.Eng.Fns) 1000 60 13 (.row [2, 1, 1]) (.row [2, 2, 2])) = true := by kernel_rfl
set_option maxRecDepth 100000 in
theorem r13_20 : Go.Eng.isTrue (Go.Eng.twoRun Try.prog (Go.Eng.lenS 153) (⟨40, 42, 50, 39, 75⟩ : Go.Eng.Fns) 1000 60 13 (.row [2, 1, 1]) (.row [3])) = true := by kernel_rfl
set_option maxRecDepth 100000 in
theorem r13_21 : Go.Eng.isTrue (Go.Eng.twoRun Try.prog (Go.Eng.lenS 153) (⟨40, 42, 50, 39, 75⟩ : Go.Eng.Fns) 1000 60 13 (.row [2, 1, 1]) (.row [3, 1])) = true := by kernel_rfl
set_option maxRecDepth 100000 in
theorem r13_22 : Go.Eng.isTrue (Go.Eng.twoRun Try.prog (Go.Eng.lenS 153) (⟨40, 42, 50, 39, 75⟩ : Go.Eng.Fns) 1000 60 13 (.row [2, 1, 1]) (.row [3, 1, 1])) = true := by kernel_rfl
set_option maxRecDepth 100000 in
theorem r13_23 : Go.Eng.isTrue (Go.Eng.twoRun Try.prog (Go.Eng.lenS 153) (⟨40, 42, 50, 39, 75⟩ : Go.Eng.Fns) 1000 60 13 (.row [2, 1, 1]) (.row [3, 1, 1, 1])) = true := by kernel_rfl
set_option maxRecDepth 100000 in
theorem r13_24 : Go.Eng.isTrue (Go.Eng.twoRun Try.prog (Go.Eng.lenS 153) (⟨40, 42, 50, 39, 75⟩ : Go.Eng.Fns) 1000 60 13 (.row [2, 1, 1]) (.row [3, 2])) = true := by kernel_rfl
set_option maxRecDepth 100000 in
theorem r13_25 : Go.Eng.isTrue (Go.Eng.twoRun Try.prog (Go.Eng.lenS 153) (⟨40, 42, 50, 39, 75⟩ : Go.Eng.Fns) 1000 60 13 (.row [2, 1, 1]) (.row [3, 2, 1])) = true := by kernel_rfl
set_option maxRecDepth 100000 in
theorem r13_26 : Go.Eng.isTrue (Go.Eng.twoRun Try.prog (Go.Eng.lenS 153) (⟨40, 42, 50, 39, 75⟩ : Go.Eng.Fns) 1000 60 13 (.row [2, 1, 1]) (.row [3, 3])) = true := by kernel_rfl
set_option maxRecDepth 100000 in
theorem r13_27 : Go.Eng.isTrue (Go.Eng.twoRun Try.prog (Go.Eng.lenS 153) (⟨40, 42, 50, 39, 75⟩ : Go.Eng.Fns) 1000 60 13 (.row [2, 1, 1]) (.row [4])) = true := by kernel_rfl
set_option maxRecDepth 100000 in
theorem r13_28 : Go.Eng.isTrue (Go.Eng.twoRun Try.prog (Go.Eng.lenS 153) (⟨40, 42, 50, 39, 75⟩ : Go.Eng.Fns) 1000 60 13 (.row [2, 1, 1]) (.row [4, 1])) = true := by kernel_rfl
set_option maxRecDepth 100000 in
theorem r13_29 : Go.Eng.isTrue (Go.Eng.twoRun Try.prog (Go.Eng.lenS 153) (⟨40, 42, 50, 39, 75⟩ : Go.Eng.Fns) 1000 60 13 (.row [2, 1, 1]) (.row [4, 1, 1])) = true := by kernel_rfl
set_option maxRecDepth 100000 in
theorem r13_30 : Go.Eng.isTrue (Go.Eng.twoRun Try.prog (Go.Eng.lenS 153) (⟨40, 42, 50, 39, 75⟩ : Go.Eng.Fns) 1000 60 13 (.row [2, 1, 1]) (.row [4, 2])) = true := by kernel_rfl
set_option maxRecDepth 100000 in
theorem r13_31 : Go.Eng.isTrue (Go.Eng.twoRun Try.prog (Go.Eng.lenS 153) (⟨40, 42, 50, 39, 75⟩ : Go.Eng.Fns) 1000 60 13 (.row [2, 1, 1]) (.row [5])) = true := by kernel_rfl
set_option maxRecDepth 100000 in
theorem r13_32 : Go.Eng.isTrue (Go.Eng.twoRun Try.prog (Go.Eng.lenS 153) (⟨40, 42, 50, 39, 75⟩ : Go.Eng.Fns) 1000 60 13 (.row [2, 1, 1]) (.row [5, 1])) = true := by kernel_rfl
set_option maxRecDepth 100000 in
theorem r13_33 : Go.Eng.isTrue (Go.Eng.twoRun Try.prog (Go.Eng.lenS 153) (⟨40, 42, 50, 39, 75⟩ : Go.Eng.Fns) 1000 60 13 (.row [2, 1, 1]) (.row [6])) = true := by kernel_rfl
theorem r13 : Go.Eng.AllL (fun c => Go.Eng.isTrue (Go.Eng.twoRun Try.prog (Go.Eng.lenS 153) (⟨40, 42, 50, 39, 75⟩ : Go.Eng.Fns) 1000 60 13 (.row [2, 1, 1]) c) = true) Go.Eng.classes := by
  unfold Go.Eng.classes
  rw [Go.Eng.shares_eq]
  exact ⟨r13_0, r13_1, r13_2, r13_3, r13_4, r13_5, r13_6, r13_7, r13_8, r13_9, r13_10, r13_11, r13_12, r13_13, r13_14, r13_15, r13_16, r13_17, r13_18, r13_19, r13_20, r13_21, r13_22, r13_23, r13_24, r13_25, r13_26, r13_27, r13_28, r13_29, r13_30, r13_31, r13_32, r13_33, trivial⟩
set_option maxRecDepth 100000 in
theorem r21_0 : Go.Eng.isTrue (Go.Eng.twoRun Try.prog (Go.Eng.lenS 153) (⟨40, 42, 50, 39, 75⟩ : Go.Eng.Fns) 1000 60 13 (.row [3, 1]) .nil) = true := by kernel_rfl
set_option maxRecDepth 100000 in
theorem r21_1 : Go.Eng.isTrue (Go.Eng.twoRun Try.prog (Go.Eng.lenS 153) (⟨40, 42, 50, 39, 75⟩ : Go.Eng.Fns) 1000 60 13 (.row [3, 1]) .zero) = true := by kernel_rfl
set_option maxRecDepth 100000 in
theorem r21_2 : Go.Eng.isTrue (Go.Eng.twoRun Try.prog (Go.Eng.lenS 153) (⟨40, 42, 50, 39, 75⟩ : Go.Eng.Fns) 1000 60 13 (.row [3, 1]) .no) = true := by kernel_rfl
set_option maxRecDepth 100000 in
theorem r21_3 : Go.Eng.isTrue (Go.Eng.twoRun Try.prog (Go.Eng.lenS 153) (⟨40, 42, 50, 39, 75⟩ : Go.Eng.Fns) 1000 60 13 (.row [3, 1]) .long) = true := by kernel_rfl
set_option maxRecDepth 100000 in
theorem r21_4 : Go.Eng.isTrue (Go.Eng.twoRun Try.prog (Go.Eng.lenS 153) (⟨40, 42, 50, 39, 75⟩ : Go.Eng.Fns) 1000 60 13 (.row [3, 1]) (.row [])) = true := by kernel_rfl
set_option maxRecDepth 100000 in
theorem r21_5 : Go.Eng.isTrue (Go.Eng.twoRun Try.prog (Go.Eng.lenS 153) (⟨40, 42, 50, 39, 75⟩ : Go.Eng.Fns) 1000 60 13 (.row [3, 1]) (.row [1])) = true := by kernel_rfl
set_option maxRecDepth 100000 in
theorem r21_6 : Go.Eng.isTrue (Go.Eng.twoRun Try.prog (Go.Eng.lenS 153) (⟨40, 42, 50, 39, 75⟩ : Go.Eng.Fns) 1000 60 13 (.row [3, 1]) (.row [1, 1])) = true := by kernel_rfl
set_option maxRecDepth 100000 in
theorem r21_7 : Go.Eng.isTrue (Go.Eng.twoRun Try.prog (Go.Eng.lenS 153) (⟨40, 42, 50, 39, 75⟩ : Go.Eng.Fns) 1000 60 13 (.row [3, 1]) (.row [1, 1, 1])) = true := by kernel_rfl
set_option maxRecDepth 100000 in
theorem r21_8 : Go.Eng.isTrue (Go.Eng.twoRun Try.prog (Go.Eng.lenS 153) (⟨40, 42, 50, 39, 75⟩ : Go.Eng.Fns) 1000 60 13 (.row [3, 1]) (.row [1, 1, 1, 1])) = true := by kernel_rfl
set_option maxRecDepth 100000 in
theorem r21_9 : Go.Eng.isTrue (Go.Eng.twoRun Try.prog (Go.Eng.lenS 153) (⟨40, 42, 50, 39, 75⟩ : Go.Eng.Fns) 1000 60 13 (.row [3, 1]) (.row [1, 1, 1, 1, 1])) = true := by kernel_rfl
set_option maxRecDepth 100000 in
theorem r21_10 : Go.Eng.isTrue (Go.Eng.twoRun Try.prog (Go.Eng.lenS 153) (⟨40, 42, 50, 39, 75⟩ : Go.Eng.Fns) 1000 60 13 (.row [3, 1]) (.row [1, 1, 1, 1, 1, 1])) = true := by kernel_rfl
set_option maxRecDepth 100000 in
theorem r21_11 : Go.Eng.isTrue (Go.Eng.twoRun Try.prog (Go.Eng.lenS 153) (⟨40, 42, 50, 39, 75⟩ : Go.Eng.Fns) 1000 60 13 (.row [3, 1]) (.row [2])) = true := by kernel_rfl
set_option maxRecDepth 100000 in
theorem r21_12 : Go.Eng.isTrue (Go.Eng.twoRun Try.prog (Go.Eng.lenS 153) (⟨40, 42, 50, 39, 75⟩ : Go.Eng.Fns) 1000 60 13 (.row [3, 1]) (.row [2, 1])) = true := by kernel_rfl
set_option maxRecDepth 100000 in
theorem r21_13 : Go.Eng.isTrue (Go.Eng.twoRun Try.prog (Go.Eng.lenS 153) (⟨40, 42, 50, 39, 75⟩ : Go.Eng.Fns) 1000 60 13 (.row [3, 1]) (.row [2, 1, 1])) = true := by kernel_rfl
set_option maxRecDepth 100000 in
theorem r21_14 : Go.Eng.isTrue (Go.Eng.twoRun Try.prog (Go.Eng.lenS 153) (⟨40, 42, 50, 39, 75⟩ : Go.Eng.Fns) 1000 60 13 (.row [3, 1]) (.row [2, 1, 1, 1])) = true := by kernel_rfl
set_option maxRecDepth 100000 in
theorem r21_15 : Go.Eng.isTrue (Go.Eng.twoRun Try.prog (Go.Eng.lenS 153) (⟨40, 42, 50, 39, 75⟩ : Go.Eng.Fns) 1000 60 13 (.row [3, 1]) (.row [2, 1, 1, 1, 1])) = true := by kernel_rfl
set_option maxRecDepth 100000 in
theorem r21_16 : Go.Eng.isTrue (Go.Eng.twoRun Try.prog (Go.Eng.lenS 153) (⟨40, 42, 50, 39, 75⟩ : Go.Eng.Fns) 1000 60 13 (.row [3, 1]) (.row [2, 2])) = true := by kernel_rfl
set_option maxRecDepth 100000 in
theorem r21_17 : Go.Eng.isTrue (Go.Eng.twoRun Try.prog (Go.Eng.lenS 153) (⟨40, 42, 50, 39, 75⟩ : Go.Eng.Fns) 1000 60 13 (.row [3, 1]) (.row [2, 2, 1])) = true := by kernel_rfl
set_option maxRecDepth 100000 in
theorem r21_18 : Go.Eng.isTrue (Go.Eng.twoRun Try.prog (Go.Eng.lenS 153) (⟨40, 42, 50, 39, 75⟩ : Go.Eng.Fns) 1000 60 13 (.row [3, 1]) (.row [2, 2, 1, 1])) = true := by kernel_rfl
set_option maxRecDepth 100000 in
theorem r21_19 : Go.Eng.isTrue (Go.Eng.twoRun Try.prog (Go.Eng.lenS 153) (⟨40, 42, 50, 39, 75⟩ : Go.Eng.Fns) 1000 60 13 (.row [3, 1]) (.row [2, 2, 2])) = true := by kernel_rfl
set_option maxRecDepth 100000 in
theorem r21_20 : Go.Eng.isTrue (Go.Eng.twoRun Try.prog (Go.Eng.lenS 153) (⟨40, 42, 50, 39, 75⟩ : Go.Eng.Fns) 1000 60 13 (.row [3, 1]) (.row [3])) = true := by kernel_rfl
set_option maxRecDepth 100000 in
theorem r21_21 : Go.Eng.isTrue (Go.Eng.twoRun Try.prog (Go.Eng.lenS 153) (⟨40, 42, 50, 39, 75⟩ : Go.Eng.Fns) 1000 60 13 (.row [3, 1]) (.row [3, 1])) = true := by kernel_rfl
set_option maxRecDepth 100000 in
theorem r21_22 : Go.Eng.isTrue (Go.Eng.twoRun Try.prog (Go.Eng.lenS 153) (⟨40, 42, 50, 39, 75⟩ : Go.Eng.Fns) 1000 60 13 (.row [3, 1]) (.row [3, 1, 1])) = true := by kernel_rfl
set_option maxRecDepth 100000 in
theorem r21_23 : Go.Eng.isTrue (Go.Eng.twoRun Try.prog (Go.Eng.lenS 153) (⟨40, 42, 50, 39, 75⟩ : Go.Eng.Fns) 1000 60 13 (.row [3, 1]) (.row [3, 1, 1, 1])) = true := by kernel_rfl
set_option maxRecDepth 100000 in
theorem r21_24 : Go.Eng.isTrue (Go.Eng.twoRun Try.prog (Go.Eng.lenS 153) (⟨40, 42, 50, 39, 75⟩ : Go.Eng.Fns) 1000 60 13 (.row [3, 1]) (.row [3, 2])) = true := by kernel_rfl
set_option maxRecDepth 100000 in
theorem r21_25 : Go.Eng.isTrue (Go.Eng.twoRun Try.prog (Go.Eng.lenS 153) (⟨40, 42, 50, 39, 75⟩ : Go.Eng.Fns) 1000 60 13 (.row [3, 1]) (.row [3, 2, 1])) = true := by kernel_rfl
set_option maxRecDepth 100000 in
theorem r21_26 : Go.Eng.isTrue (Go.Eng.twoRun Try.prog (Go.Eng.lenS 153) (⟨40, 42, 50, 39, 75⟩ : Go.Eng.Fns) 1000 60 13 (.row [3, 1]) (.row [3, 3])) = true := by kernel_rfl
set_option maxRecDepth 100000 in
theorem r21_27 : Go.Eng.isTrue (Go.Eng.twoRun Try.prog (Go.Eng.lenS 153) (⟨40, 42, 50, 39, 75⟩ : Go.Eng.Fns) 1000 60 13 (.row [3, 1]) (.row [4])) = true := by kernel_rfl
set_option maxRecDepth 100000 in
theorem r21_28 : Go.Eng.isTrue (Go.Eng.twoRun Try.prog (Go.Eng.lenS 153) (⟨40, 42, 50, 39, 75⟩ : Go.Eng.Fns) 1000 60 13 (.row [3, 1]) (.row [4, 1])) = true := by kernel_rfl
set_option maxRecDepth 100000 in
theorem r21_29 : Go.Eng.isTrue (Go.Eng.twoRun Try.prog (Go.Eng.lenS 153) (⟨40, 42, 50, 39, 75⟩ : Go.Eng.Fns) 1000 60 13 (.row [3, 1]) (.row [4, 1, 1])) = true := by kernel_rfl
set_option maxRecDepth 100000 in
theorem r21_30 : Go.Eng.isTrue (Go.Eng.twoRun Try.prog (Go.Eng.lenS 153) (⟨40, 42, 50, 39, 75⟩ : Go.Eng.Fns) 1000 60 13 (.row [3, 1]) (.row [4, 2])) = true := by kernel_rfl
set_option maxRecDepth 100000 in
theorem r21_31 : Go.Eng.isTrue (Go.Eng.twoRun Try.prog (Go.Eng.lenS 153) (⟨40, 42, 50, 39, 75⟩ : Go.Eng.Fns) 1000 60 13 (.row [3, 1]) (.row [5])) = true := by kernel_rfl
set_option maxRecDepth 100000 in
theorem r21_32 : Go.Eng.isTrue (Go.Eng.twoRun Try.prog (Go.Eng.lenS 153) (⟨40, 42, 50, 39, 75⟩ : Go.Eng.Fns) 1000 60 13 (.row [3, 1]) (.row [5, 1])) = true := by kernel_rfl
set_option maxRecDepth 100000 in
theorem r21_33 : Go.Eng.isTrue (Go.Eng.twoRun Try.prog (Go.Eng.lenS 153) (⟨40, 42, 50, 39, 75⟩ : Go.Eng.Fns) 1000 60 13 (.row [3, 1]) (.row [6])) = true := by kernel_rfl
theorem r21 : Go.Eng.AllL (fun c => Go.Eng.isTrue (Go.Eng.twoRun Try.prog (Go.Eng.lenS 153) (⟨40, 42, 50, 39, 75⟩ : Go.Eng.Fns) 1000 60 13 (.row [3, 1]) c) = true) Go.Eng.classes := by
  unfold Go.Eng.classes
  rw [Go.Eng.shares_eq]
  exact ⟨r21_0, r21_1, r21_2, r21_3, r21_4, r21_5, r21_6, r21_7, r21_8, r21_9, r21_10, r21_11, r21_12, r21_13, r21_14, r21_15, r21_16, r21_17, r21_18, r21_19, r21_20, r21_21, r21_22, r21_23, r21_24, r21_25, r21_26, r21_27, r21_28, r21_29, r21_30, r21_31, r21_32, r21_33, trivial⟩
set_option maxRecDepth 100000 in
theorem r29_0 : Go.Eng.isTrue (Go.Eng.twoRun Try.prog (Go.Eng.lenS 153) (⟨40, 42, 50, 39, 75⟩ : Go.Eng.Fns) 1000 60 13 (.row [4, 1, 1]) .nil) = true := by kernel_rfl
set_option maxRecDepth 100000 in
theorem r29_1 : Go.Eng.isTrue (Go.Eng.twoRun Try.prog (Go.Eng.lenS 153) (⟨40, 42, 50, 39, 75⟩ : Go.Eng.Fns) 1000 60 13 (.row [4, 1, 1]) .zero) = true := by kernel_rfl
set_option maxRecDepth 100000 in
theorem r29_2 : Go.Eng.isTrue (Go.Eng.twoRun Try.prog (Go.Eng.lenS 153) (⟨40, 42, 50, 39, 75⟩ : Go.Eng.Fns) 1000 60 13 (.row [4, 1, 1]) .no) = true := by kernel_rfl
set_option maxRecDepth 100000 in
theorem r29_3 : Go.Eng.isTrue (Go.Eng.twoRun Try.prog (Go.Eng.lenS 153) (⟨40, 42, 50, 39, 75⟩ : Go.Eng.Fns) 1000 60 13 (.row [4, 1, 1]) .long) = true := by kernel_rfl
set_option maxRecDepth 100000 in
theorem r29_4 : Go.Eng.isTrue (Go.Eng.twoRun Try.prog (Go.Eng.lenS 153) (⟨40, 42, 50, 39, 75⟩ : Go.Eng.Fns) 1000 60 13 (.row [4, 1, 1]) (.row [])) = true := by kernel_rfl
set_option maxRecDepth 100000 in
theorem r29_5 : Go.Eng.isTrue (Go.Eng.twoRun Try.prog (Go.Eng.lenS 153) (⟨40, 42, 50, 39, 75⟩ : Go.Eng.Fns) 1000 60 13 (.row [4, 1, 1]) (.row [1])) = true := by kernel_rfl
set_option maxRecDepth 100000 in
theorem r29_6 : Go.Eng.isTrue (Go.Eng.twoRun Try.prog (Go.Eng.lenS 153) (⟨40, 42, 50, 39, 75⟩ : Go.Eng.Fns) 1000 60 13 (.row [4, 1, 1]) (.row [1, 1])) = true := by kernel_rfl
set_option maxRecDepth 100000 in
theorem r29_7 : Go.Eng.isTrue (Go.Eng.twoRun Try.prog (Go.Eng.lenS 153) (⟨40, 42, 50, 39, 75⟩ : Go.Eng.Fns) 1000 60 13 (.row [4, 1, 1]) (.row [1, 1, 1])) = true := by kernel_rfl
set_option maxRecDepth 100000 in
theorem r29_8 : Go.Eng.isTrue (Go.Eng.twoRun Try.prog (Go.Eng.lenS 153) (⟨40, 42, 50, 39, 75⟩ : Go.Eng.Fns) 1000 60 13 (.row [4, 1, 1]) (.row [1, 1, 1, 1])) = true := by kernel_rfl
set_option maxRecDepth 100000 in
theorem r29_9 : Go.Eng.isTrue (Go.Eng.twoRun Try.prog (Go.Eng.lenS 153) (⟨40, 42, 50, 39, 75⟩ : Go.Eng.Fns) 1000 60 13 (.row [4, 1, 1]) (.row [1, 1, 1, 1, 1])) = true := by kernel_rfl
set_option maxRecDepth 100000 in
theorem r29_10 : Go.Eng.isTrue (Go.Eng.twoRun Try.prog (Go.Eng.lenS 153) (⟨40, 42, 50, 39, 75⟩ : Go.Eng.Fns) 1000 60 13 (.row [4, 1, 1]) (.row [1, 1, 1, 1, 1, 1])) = true := by kernel_rfl
set_option maxRecDepth 100000 in
theorem r29_11 : Go.Eng.isTrue (Go.Eng.twoRun Try.prog (Go.Eng.lenS 153) (⟨40, 42, 50, 39, 75⟩ : Go.Eng.Fns) 1000 60 13 (.row [4, 1, 1]) (.row [2])) = true := by kernel_rfl
set_option maxRecDepth 100000 in
theorem r29_12 : Go.Eng.isTrue (Go.Eng.twoRun Try.prog (Go.Eng.lenS 153) (⟨40, 42, 50, 39, 75⟩ : Go.Eng.Fns) 1000 60 13 (.row [4, 1, 1]) (.row [2, 1])) = true := by kernel_rfl
set_option maxRecDepth 100000 in
theorem r29_13 : Go.Eng.isTrue (Go.Eng.twoRun Try.prog (Go.Eng.lenS 153) (⟨40, 42, 50, 39, 75⟩ : Go.Eng.Fns) 1000 60 13 (.row [4, 1, 1]) (.row [2, 1, 1])) = true := by kernel_rfl
set_option maxRecDepth 100000 in
theorem r29_14 : Go.Eng.isTrue (Go.Eng.twoRun Try.prog (Go.Eng.lenS 153) (⟨40, 42, 50, 39, 75⟩ : Go.Eng.Fns) 1000 60 13 (.row [4, 1, 1]) (.row [2, 1, 1, 1])) = true := by kernel_rfl
set_option maxRecDepth 100000 in
theorem r29_15 : Go.Eng.isTrue (Go.Eng.twoRun Try.prog (Go.Eng.lenS 153) (⟨40, 42, 50, 39, 75⟩ : Go.Eng.Fns) 1000 60 13 (.row [4, 1, 1]) (.row [2, 1, 1, 1, 1])) = true := by kernel_rfl
set_option maxRecDepth 100000 in
theorem r29_16 : Go.Eng.isTrue (Go.Eng.twoRun Try.prog (Go.Eng.lenS 153) (⟨40, 42, 50, 39, 75⟩ : Go.Eng.Fns) 1000 60 13 (.row [4, 1, 1]) (.row [2, 2])) = true := by kernel_rfl
set_option maxRecDepth 100000 in
theorem r29_17 : Go.Eng.isTrue (Go.Eng.twoRun Try.prog (Go.Eng.lenS 153) (⟨40, 42, 50, 39, 75⟩ : Go.Eng.Fns) 1000 60 13 (.row [4, 1, 1]) (.row [2, 2, 1])) = true := by kernel_rfl
set_option maxRecDepth 100000 in
theorem r29_18 : Go.Eng.isTrue (Go.Eng.twoRun Try.prog (Go.Eng.lenS 153) (⟨40, 42, 50, 39, 75⟩ : Go.Eng.Fns) 1000 60 13 (.row [4, 1, 1]) (.row [2, 2, 1, 1])) = true := by kernel_rfl
set_option maxRecDepth 100000 in
theorem r29_19 : Go.Eng.isTrue (Go.Eng.twoRun Try.prog (Go.Eng.lenS 153) (⟨40, 42, 50, 39, 75⟩ : Go.Eng.Fns) 1000 60 13 (.row [4, 1, 1]) (.row [2, 2, 2])) = true := by kernel_rfl
set_option maxRecDepth 100000 in
theorem r29_20 : Go.Eng.isTrue (Go.Eng.twoRun Try.prog (Go.Eng.lenS 153) (⟨40, 42, 50, 39, 75⟩ : Go.Eng.Fns) 1000 60 13 (.row [4, 1, 1]) (.row [3])) = true := by kernel_rfl
set_option maxRecDepth 100000 in
theorem r29_21 : Go.Eng.isTrue (Go.Eng.twoRun Try.prog (Go.Eng.lenS 153) (⟨40, 42, 50, 39, 75⟩ : Go.Eng.Fns) 1000 60 13 (.row [4, 1, 1]) (.row [3, 1])) = true := by kernel_rfl
set_option maxRecDepth 100000 in
theorem r29_22 : Go.Eng.isTrue (Go.Eng.twoRun Try.prog (Go.Eng.lenS 153) (⟨40, 42, 50, 39, 75⟩ : Go.Eng.Fns) 1000 60 13 (.row [4, 1, 1]) (.row [3, 1, 1])) = true := by kernel_rfl
set_option maxRecDepth 100000 in
theorem r29_23 : Go.Eng.isTrue (Go.Eng.twoRun Try.prog (Go.Eng.lenS 153) (⟨40, 42, 50, 39, 75⟩ : Go.Eng.Fns) 1000 60 13 (.row [4, 1, 1]) (.row [3, 1, 1, 1])) = true := by kernel_rfl
set_option maxRecDepth 100000 in
theorem r29_24 : Go.Eng.isTrue (Go.Eng.twoRun Try.prog (Go.Eng.lenS 153) (⟨40, 42, 50, 39, 75⟩ : Go.Eng.Fns) 1000 60 13 (.row [4, 1, 1]) (.row [3, 2])) = true := by kernel_rfl
set_option maxRecDepth 100000 in
theorem r29_25 : Go.Eng.isTrue (Go.Eng.twoRun Try.prog (Go.Eng.lenS 153) (⟨40, 42, 50, 39, 75⟩ : Go.Eng.Fns) 1000 60 13 (.row [4, 1, 1]) (.row [3, 2, 1])) = true := by kernel_rfl
set_option maxRecDepth 100000 in
theorem r29_26 : Go.Eng.isTrue (Go.Eng.twoRun Try.prog (Go.Eng.lenS 153) (⟨40, 42, 50, 39, 75⟩ : Go.Eng.Fns) 1000 60 13 (.row [4, 1, 1]) (.row [3, 3])) = true := by kernel_rfl
set_option maxRecDepth 100000 in
theorem r29_27 : Go.Eng.isTrue (Go.Eng.twoRun Try.prog (Go.Eng.lenS 153) (⟨40, 42, 50, 39, 75⟩ : Go.Eng.Fns) 1000 60 13 (.row [4, 1, 1]) (.row [4])) = true := by kernel_rfl
set_option maxRecDepth 100000 in
theorem r29_28 : Go.Eng.isTrue (Go.Eng.twoRun Try.prog (Go.Eng.lenS 153) (⟨40, 42, 50, 39, 75⟩ : Go.Eng.Fns) 1000 60 13 (.row [4, 1, 1]) (.row [4, 1])) = true := by kernel_rfl
set_option maxRecDepth 100000 in
theorem r29_29 : Go.Eng.isTrue (Go.Eng.twoRun Try.prog (Go.Eng.lenS 153) (⟨40, 42, 50, 39, 75⟩ : Go.Eng.Fns) 1000 60 13 (.row [4, 1, 1]) (.row [4, 1, 1])) = true := by kernel_rfl
set_option maxRecDepth 100000 in
theorem r29_30 : Go.Eng.isTrue (Go.Eng.twoRun Try.prog (Go.Eng.lenS 153) (⟨40, 42, 50, 39, 75⟩ : Go.Eng.Fns) 1000 60 13 (.row [4, 1, 1]) (.row [4, 2])) = true := by kernel_rfl
set_option maxRecDepth 100000 in
theorem r29_31 : Go.Eng.isTrue (Go.Eng.twoRun Try.prog (Go.Eng.lenS 153) (⟨40, 42, 50, 39, 75⟩ : Go.Eng.Fns) 1000 60 13 (.row [4, 1, 1]) (.row [5])) = true := by kernel_rfl
set_option maxRecDepth 100000 in
theorem r29_32 : Go.Eng.isTrue (Go.Eng.twoRun Try.prog (Go.Eng.lenS 153) (⟨40, 42, 50, 39, 75⟩ : Go.Eng.Fns) 1000 60 13 (.row [4, 1, 1]) (.row [5, 1])) = true := by kernel_rfl
set_option maxRecDepth 100000 in
theorem r29_33 : Go.Eng.isTrue (Go.Eng.twoRun Try.prog (Go.Eng.lenS 153) (⟨40, 42, 50, 39, 75⟩ : Go.Eng.Fns) 1000 60 13 (.row [4, 1, 1]) (.row [6])) = true := by kernel_rfl
theorem r29 : Go.Eng.AllL (fun c => Go.Eng.isTrue (Go.Eng.twoRun Try.prog (Go.Eng.lenS 153) (⟨40, 42, 50, 39, 75⟩ : Go.Eng.Fns) 1000 60 13 (.row [4, 1, 1]) c) = true) Go.Eng.classes := by
  unfold Go.Eng.classes
  rw [Go.Eng.shares_eq]
  exact ⟨r29_0, r29_1, r29_2, r29_3, r29_4, r29_5, r29_6, r29_7, r29_8, r29_9, r29_10, r29_11, r29_12, r29_13, r29_14, r29_15, r29_16, r29_17, r29_18, r29_19, r29_20, r29_21, r29_22, r29_23, r29_24, r29_25, r29_26, r29_27, r29_28, r29_29, r29_30, r29_31, r29_32, r29_33, trivial⟩
end Go.Proofs.Ytnablcacdfebfac.fnExactShareJoinRuns
