/- The runs of FnExactShareJoin, part 6. -/
import Derived.Test.YtnablcacdfebfacEngZa
import Derived.Test.YtnablcacdfebfacProg
namespace Go.Proofs.Ytnablcacdfebfac.fnExactShareJoinRuns
set_option linter.unusedVariables false
set_option linter.unusedSectionVars false
set_option linter.unusedSimpArgs false
set_option maxRecDepth 100000 in
theorem r6_0 : Go.Eng.isTrue (Go.Eng.twoRun Try.prog (Go.Eng.lenS 153) (⟨40, 42, 50, 39, 75⟩ : Go.Eng.Fns) 1000 60 13 (.row [1, 1]) .nil) = true := by kernel_rfl
set_option maxRecDepth 100000 in
theorem r6_1 : Go.Eng.isTrue (Go.Eng.twoRun Try.prog (Go.Eng.lenS 153) (⟨40, 42, 50, 39, 75⟩ : Go.Eng.Fns) 1000 60 13 (.row [1, 1]) .zero) = true := by kernel_rfl
set_option maxRecDepth 100000 in
theorem r6_2 : Go.Eng.isTrue (Go.Eng.twoRun Try.prog (Go.Eng.lenS 153) (⟨40, 42, 50, 39, 75⟩ : Go.Eng.Fns) 1000 60 13 (.row [1, 1]) .no) = true := by kernel_rfl
set_option maxRecDepth 100000 in
theorem r6_3 : Go.Eng.isTrue (Go.Eng.twoRun Try.prog (Go.Eng.lenS 153) (⟨40, 42, 50, 39, 75⟩ : Go.Eng.Fns) 1000 60 13 (.row [1, 1]) .long) = true := by kernel_rfl
set_option maxRecDepth 100000 in
theorem r6_4 : Go.Eng.isTrue (Go.Eng.twoRun Try.prog (Go.Eng.lenS 153) (⟨40, 42, 50, 39, 75⟩ : Go.Eng.Fns) 1000 60 13 (.row [1, 1]) (.row [])) = true := by kernel_rfl
set_option maxRecDepth 100000 in
theorem r6_5 : Go.Eng.isTrue (Go.Eng.twoRun Try.prog (Go.Eng.lenS 153) (⟨40, 42, 50, 39, 75⟩ : Go.Eng.Fns) 1000 60 13 (.row [1, 1]) (.row [1])) = true := by kernel_rfl
set_option maxRecDepth 100000 in
theorem r6_6 : Go.Eng.isTrue (Go.Eng.twoRun Try.prog (Go.Eng.lenS 153) (⟨40, 42, 50, 39, 75⟩ : Go.Eng.Fns) 1000 60 13 (.row [1, 1]) (.row [1, 1])) = true := by kernel_rfl
set_option maxRecDepth 100000 in
theorem r6_7 : Go.Eng.isTrue (Go.Eng.twoRun Try.prog (Go.Eng.lenS 153) (⟨40, 42, 50, 39, 75⟩ : Go.Eng.Fns) 1000 60 13 (.row [1, 1]) (.row [1, 1, 1])) = true := by kernel_rfl
set_option maxRecDepth 100000 in
theorem r6_8 : Go.Eng.isTrue (Go.Eng.twoRun Try.prog (Go.Eng.lenS 153) (⟨40, 42, 50, 39, 75⟩ : Go.Eng.Fns) 1000 60 13 (.row [1, 1]) (.row [1, 1, 1, 1])) = true := by kernel_rfl
set_option maxRecDepth 100000 in
theorem r6_9 : Go.Eng.isTrue (Go.Eng.twoRun Try.prog (Go.Eng.lenS 153) (⟨40, 42, 50, 39, 75⟩ : Go.Eng.Fns) 1000 60 13 (.row [1, 1]) (.row [1, 1, 1, 1, 1])) = true := by kernel_rfl
set_option maxRecDepth 100000 in
theorem r6_10 : Go.Eng.isTrue (Go.Eng.twoRun Try.prog (Go.Eng.lenS 153) (⟨40, 42, 50, 39, 75⟩ : Go.Eng.Fns) 1000 60 13 (.row [1, 1]) (.row [1, 1, 1, 1, 1, 1])) = true := by kernel_rfl
set_option maxRecDepth 100000 in
theorem r6_11 : Go.Eng.isTrue (Go.Eng.twoRun Try.prog (Go.Eng.lenS 153) (⟨40, 42, 50, 39, 75⟩ : Go.Eng.Fns) 1000 60 13 (.row [1, 1]) (.row [2])) = true := by kernel_rfl
set_option maxRecDepth 100000 in
theorem r6_12 : Go.Eng.isTrue (Go.Eng.twoRun Try.prog (Go.Eng.lenS 153) (⟨40, 42, 50, 39, 75⟩ : Go.Eng.Fns) 1000 60 13 (.row [1, 1]) (.row [2, 1])) = true := by kernel_rfl
set_option maxRecDepth 100000 in
theorem r6_13 : Go.Eng.isTrue (Go.Eng.twoRun Try.prog (Go.Eng.lenS 153) (⟨40, 42, 50, 39, 75⟩ : Go.Eng.Fns) 1000 60 13 (.row [1, 1]) (.row [2, 1, 1])) = true := by kernel_rfl
set_option maxRecDepth 100000 in
theorem r6_14 : Go.Eng.isTrue (Go.Eng.twoRun Try.prog (Go.Eng.lenS 153) (⟨40, 42, 50, 39, 75⟩ : Go.Eng.Fns) 1000 60 13 (.row [1, 1]) (.row [2, 1, 1, 1])) = true := by kernel_rfl
set_option maxRecDepth 100000 in
theorem r6_15 : Go.Eng.isTrue (Go.Eng.twoRun Try.prog (Go.Eng.lenS 153) (⟨40, 42, 50, 39, 75⟩ : Go.Eng.Fns) 1000 60 13 (.row [1, 1]) (.row [2, 1, 1, 1, 1])) = true := by kernel_rfl
set_option maxRecDepth 100000 in
theorem r6_16 : Go.Eng.isTrue (Go.Eng.twoRun Try.prog (Go.Eng.lenS 153) (⟨40, 42, 50, 39, 75⟩ : Go.Eng.Fns) 1000 60 13 (.row [1, 1]) (.row [2, 2])) = true := by kernel_rfl
set_option maxRecDepth 100000 in
theorem r6_17 : Go.Eng.isTrue (Go.Eng.twoRun Try.prog (Go.Eng.lenS 153) (⟨40, 42, 50, 39, 75⟩ : Go.Eng.Fns) 1000 60 13 (.row [1, 1]) (.row [2, 2, 1])) = true := by kernel_rfl
set_option maxRecDepth 100000 in
theorem r6_18 : Go.Eng.isTrue (Go.Eng.twoRun Try.prog (Go.Eng.lenS 153) (⟨40, 42, 50, 39, 75⟩ : Go.Eng.Fns) 1000 60 13 (.row [1, 1]) (.row [2, 2, 1, 1])) = true := by kernel_rfl
set_option maxRecDepth 100000 in
theorem r6_19 : Go.Eng.isTrue (Go.Eng.twoRun Try.prog (Go.Eng.lenS 153) (⟨40, 42, 50, 39, 75⟩ : Go.Eng.Fns) 1000 60 13 (.row [1, 1]) (.row [2, 2, 2])) = true := by kernel_rfl
set_option maxRecDepth 100000 in
theorem r6_20 : Go.Eng.isTrue (Go.Eng.twoRun Try.prog (Go.Eng.lenS 153) (⟨40, 42, 50, 39, 75⟩ : Go.Eng.Fns) 1000 60 13 (.row [1, 1]) (.row [3])) = true := by kernel_rfl
set_option maxRecDepth 100000 in
theorem r6_21 : Go.Eng.isTrue (Go.Eng.twoRun Try.prog (Go.Eng.lenS 153) (⟨40, 42, 50, 39, 75⟩ : Go.Eng.Fns) 1000 60 13 (.row [1, 1]) (.row [3, 1])) = true := by kernel_rfl
set_option maxRecDepth 100000 in
theorem r6_22 : Go.Eng.isTrue (Go.Eng.twoRun Try.prog (Go.Eng.lenS 153) (⟨40, 42, 50, 39, 75⟩ : Go.Eng.Fns) 1000 60 13 (.row [1, 1]) (.row [3, 1, 1])) = true := by kernel_rfl
set_option maxRecDepth 100000 in
theorem r6_23 : Go.Eng.isTrue (Go.Eng.twoRun Try.prog (Go.Eng.lenS 153) (⟨40, 42, 50, 39, 75⟩ : Go.Eng.Fns) 1000 60 13 (.row [1, 1]) (.row [3, 1, 1, 1])) = true := by kernel_rfl
set_option maxRecDepth 100000 in
theorem r6_24 : Go.Eng.isTrue (Go.Eng.twoRun Try.prog (Go.Eng.lenS 153) (⟨40, 42, 50, 39, 75⟩ : Go.Eng.Fns) 1000 60 13 (.row [1, 1]) (.row [3, 2])) = true := by kernel_rfl
set_option maxRecDepth 100000 in
theorem r6_25 : Go.Eng.isTrue (Go.Eng.twoRun Try.prog (Go.Eng.lenS 153) (⟨40, 42, 50, 39, 75⟩ : Go.Eng.Fns) 1000 60 13 (.row [1, 1]) (.row [3, 2, 1])) = true := by kernel_rfl
set_option maxRecDepth 100000 in
theorem r6_26 : Go.Eng.isTrue (Go.Eng.twoRun Try.prog (Go.Eng.lenS 153) (⟨40, 42, 50, 39, 75⟩ : Go.Eng.Fns) 1000 60 13 (.row [1, 1]) (.row [3, 3])) = true := by kernel_rfl
set_option maxRecDepth 100000 in
theorem r6_27 : Go.Eng.isTrue (Go.Eng.twoRun Try.prog (Go.Eng.lenS 153) (⟨40, 42, 50, 39, 75⟩ : Go.Eng.Fns) 1000 60 13 (.row [1, 1]) (.row [4])) = true := by kernel_rfl
set_option maxRecDepth 100000 in
theorem r6_28 : Go.Eng.isTrue (Go.Eng.twoRun Try.prog (Go.Eng.lenS 153) (⟨40, 42, 50, 39, 75⟩ : Go.Eng.Fns) 1000 60 13 (.row [1, 1]) (.row [4, 1])) = true := by kernel_rfl
set_option maxRecDepth 100000 in
theorem r6_29 : Go.Eng.isTrue (Go.Eng.twoRun Try.prog (Go.Eng.lenS 153) (⟨40, 42, 50, 39, 75⟩ : Go.Eng.Fns) 1000 60 13 (.row [1, 1]) (.row [4, 1, 1])) = true := by kernel_rfl
set_option maxRecDepth 100000 in
theorem r6_30 : Go.Eng.isTrue (Go.Eng.twoRun Try.prog (Go.Eng.lenS 153) (⟨40, 42, 50, 39, 75⟩ : Go.Eng.Fns) 1000 60 13 (.row [1, 1]) (.row [4, 2])) = true := by kernel_rfl
set_option maxRecDepth 100000 in
theorem r6_31 : Go.Eng.isTrue (Go.Eng.twoRun Try.prog (Go.Eng.lenS 153) (⟨40, 42, 50, 39, 75⟩ : Go.Eng.Fns) 1000 60 13 (.row [1, 1]) (.row [5])) = true := by kernel_rfl
set_option maxRecDepth 100000 in
theorem r6_32 : Go.Eng.isTrue (Go.Eng.twoRun Try.prog (Go.Eng.lenS 153) (⟨40, 42, 50, 39, 75⟩ : Go.Eng.Fns) 1000 60 13 (.row [1, 1]) (.row [5, 1])) = true := by kernel_rfl
set_option maxRecDepth 100000 in
theorem r6_33 : Go.Eng.isTrue (Go.Eng.twoRun Try.prog (Go.Eng.lenS 153) (⟨40, 42, 50, 39, 75⟩ : Go.Eng.Fns) 1000 60 13 (.row [1, 1]) (.row [6])) = true := by kernel_rfl
theorem r6 : Go.Eng.AllL (fun c => Go.Eng.isTrue (Go.Eng.twoRun Try.prog (Go.Eng.lenS 153) (⟨40, 42, 50, 39, 75⟩ : Go.Eng.Fns) 1000 60 13 (.row [1, 1]) c) = true) Go.Eng.classes := by
  unfold Go.Eng.classes
  rw [Go.Eng.shares_eq]
  exact ⟨r6_0, r6_1, r6_2, r6_3, r6_4, r6_5, r6_6, r6_7, r6_8, r6_9, r6_10, r6_11, r6_12, r6_13, r6_14, r6_15, r6_16, r6_17, r6_18, r6_19, r6_20, r6_21, r6_22, r6_23, r6_24, r6_25, r6_26, r6_27, r6_28, r6_29, r6_30, r6_31, r6_32, r6_33, trivial⟩
set_option maxRecDepth 100000 in
theorem r14_0 : Go.Eng.isTrue (Go.Eng.twoRun Try.prog (Go.Eng.lenS 153) (⟨40, 42, 50, 39, 75⟩ : Go.Eng.Fns) 1000 60 13 (.row [2, 1, 1, 1]) .nil) = true := by kernel_rfl
set_option maxRecDepth 100000 in
theorem r14_1 : Go.Eng.isTrue (Go.Eng.twoRun Try.prog (Go.Eng.lenS 153) (⟨40, 42, 50, 39, 75⟩ : Go.Eng.Fns) 1000 60 13 (.row [2, 1, 1, 1]) .zero) = true := by kernel_rfl
set_option maxRecDepth 100000 in
theorem r14_2 : Go.Eng.isTrue (Go.Eng.twoRun Try.prog (Go.Eng.lenS 153) (⟨40, 42, 50, 39, 75⟩ : Go.Eng.Fns) 1000 60 13 (.row [2, 1, 1, 1]) .no) = true := by kernel_rfl
set_option maxRecDepth 100000 in
theorem r14_3 : Go.Eng.isTrue (Go.Eng.twoRun Try.prog (Go.Eng.lenS 153) (⟨40, 42, 50, 39, 75⟩ : Go.Eng.Fns) 1000 60 13 (.row [2, 1, 1, 1]) .long) = true := by kernel_rfl
set_option maxRecDepth 100000 in
theorem r14_4 : Go.Eng.isTrue (Go.Eng.twoRun Try.prog (Go.Eng.lenS 153) (⟨40, 42, 50, 39, 75⟩ : Go.Eng.Fns) 1000 60 13 (.row [2, 1, 1, 1]) (.row [])) = true := by kernel_rfl
set_option maxRecDepth 100000 in
theorem r14_5 : Go.Eng.isTrue (Go.Eng.twoRun Try.prog (Go.Eng.lenS 153) (⟨40, 42, 50, 39, 75⟩ : Go.Eng.Fns) 1000 60 13 (.row [2, 1, 1, 1]) (.row [1])) = true := by kernel_rfl
set_option maxRecDepth 100000 in
theorem r14_6 : Go.Eng.isTrue (Go.Eng.twoRun Try.prog (Go.Eng.lenS 153) (⟨40, 42, 50, 39, 75⟩ : Go.Eng.Fns) 1000 60 13 (.row [2, 1, 1, 1]) (.row [1, 1])) = true := by kernel_rfl
set_option maxRecDepth 100000 in
theorem r14_7 : Go.Eng.isTrue (Go.Eng.twoRun Try.prog (Go.Eng.lenS 153) (⟨40, 42, 50, 39, 75⟩ : Go.Eng.Fns) 1000 60 13 (.row [2, 1, 1, 1]) (.row [1, 1, 1])) = true := by kernel_rfl
set_option maxRecDepth 100000 in
theorem r14_8 : Go.Eng.isTrue (Go.Eng.twoRun Try.prog (Go.Eng.lenS 153) (⟨40, 42, 50, 39, 75⟩ : Go.Eng.Fns) 1000 60 13 (.row [2, 1, 1, 1]) (.row [1, 1, 1, 1])) = true := by kernel_rfl
set_option maxRecDepth 100000 in
theorem r14_9 : Go.Eng.isTrue (Go.Eng.twoRun Try.prog (Go.Eng.lenS 153) (⟨40, 42, 50, 39, 75⟩ : Go.Eng.Fns) 1000 60 13 (.row [2, 1, 1, 1]) (.row [1, 1, 1, 1, 1])) = true := by kernel_rfl
set_option maxRecDepth 100000 in
theorem r14_10 : Go.Eng.isTrue (Go.Eng.twoRun Try.prog (Go.Eng.lenS 153) (⟨40, 42, 50, 39, 75⟩ : Go.Eng.Fns) 1000 60 13 (.row [2, 1, 1, 1]) (.row [1, 1, 1, 1, 1, 1])) = true := by kernel_rfl
set_option maxRecDepth 100000 in
theorem r14_11 : Go.Eng.isTrue (Go.Eng.twoRun Try.prog (Go.Eng.lenS 153) (⟨40, 42, 50, 39, 75⟩ : Go.Eng.Fns) 1000 60 13 (.row [2, 1, 1, 1]) (.row [2])) = true := by kernel_rfl
set_option maxRecDepth 100000 in
theorem r14_12 : Go.Eng.isTrue (Go.Eng.twoRun Try.prog (Go.Eng.lenS 153) (⟨40, 42, 50, 39, 75⟩ : Go.Eng.Fns) 1000 60 13 (.row [2, 1, 1, 1]) (.row [2, 1])) = true := by kernel_rfl
set_option maxRecDepth 100000 in
theorem r14_13 : Go.Eng.isTrue (Go.Eng.twoRun Try.prog (Go.Eng.lenS 153) (⟨40, 42, 50, 39, 75⟩ : Go.Eng.Fns) 1000 60 13 (.row [2, 1, 1, 1]) (.row [2, 1, 1])) = true := by kernel_rfl
set_option maxRecDepth 100000 in
theorem r14_14 : Go.Eng.isTrue (Go.Eng.twoRun Try.prog (Go.Eng.lenS 153) (⟨40, 42, 50, 39, 75⟩ : Go.Eng.Fns) 1000 60 13 (.row [2, 1, 1, 1]) (.row [2, 1, 1, 1])) = true := by kernel_rfl
set_option maxRecDepth 100000 in
theorem r14_15 : Go.Eng.isTrue (Go.Eng.twoRun Try.prog (Go.Eng.lenS 153) (⟨40, 42, 50, 39, 75⟩ : Go.Eng.Fns) 1000 60 13 (.row [2, 1, 1, 1]) (.row [2, 1, 1, 1, 1])) = true := by kernel_rfl
set_option maxRecDepth 100000 in
theorem r14_16 : Go.Eng.isTrue (Go.Eng.twoRun Try.prog (Go.Eng.lenS 153) (⟨40, 42, 50, 39, 75⟩ : Go.Eng.Fns) 1000 60 13 (.row [2, 1, 1, 1]) (.row [2, 2])) = true := by kernel_rfl
set_option maxRecDepth 100000 in
theorem r14_17 : Go.Eng.isTrue (Go.Eng.twoRun Try.prog (Go.Eng.lenS 153) (⟨40, 42, 50, 39, 75⟩ : Go.Eng.Fns) 1000 60 13 (.row [2, 1, 1, 1]) (.row [2, 2, 1])) = true := by kernel_rfl
set_option maxRecDepth 100000 in
theorem r14_18 : Go.Eng.isTrue (Go.Eng.twoRun Try.prog (Go.Eng.lenS 153) (⟨40, 42, 50, 39, 75⟩ : Go.Eng.Fns) 1000 60 13 (.row [2, 1, 1, 1]) (.row [2, 2, 1, 1])) = true := by kernel_rfl
set_option maxRecDepth 100000 in
theorem r14_19 : Go.Eng.isTrue (Go.Eng.twoRun Try.prog (Go.Eng.lenS 153) (⟨40, 42, 50, 39, 75⟩ : Go.Eng.Fns) 1000 60 13 (.row [2, 1, 1, 1]) (.row [2, 2, 2])) = true := by kernel_rfl
set_option maxRecDepth 100000 in
theorem r14_20 : Go.Eng.isTrue (Go.Eng.twoRun Try.prog (Go.Eng.lenS 153) (⟨40, 42, 50, 39, 75⟩ : Go.Eng.Fns) 1000 60 13 (.row [2, 1, 1, 1]) (.row [3])) = true := by kernel_rfl
set_option maxRecDepth 100000 in
theorem r14_21 : Go.Eng.isTrue (Go.Eng.twoRun Try.prog (Go.Eng.lenS 153) (⟨40, 42, 50, 39, 75⟩ : Go.Eng.Fns) 1000 60 13 (.row [2, 1, 1, 1]) (.row [3, 1])) = true := by kernel_rfl
set_option maxRecDepth 100000 in
theorem r14_22 : Go.Eng.isTrue (Go.Eng.twoRun Try.prog (Go.Eng.lenS 153) (⟨40, 42, 50, 39, 75⟩ : Go.Eng.Fns) 1000 60 13 (.row [2, 1, 1, 1]) (.row [3, 1, 1])) = true := by kernel_rfl
set_option maxRecDepth 100000 in
theorem r14_23 : Go.Eng.isTrue (Go.Eng.twoRun Try.prog (Go.Eng.lenS 153) (⟨40, 42, 50, 39, 75⟩ : Go.Eng.Fns) 1000 60 13 (.row [2, 1, 1, 1]) (.row [3, 1, 1, 1])) = true := by kernel_rfl
set_option maxRecDepth 100000 in
theorem r14_24 : Go.Eng.isTrue (Go.Eng.twoRun Try.prog (Go.Eng.lenS 153) (⟨40, 42, 50, 39, 75⟩ : Go.Eng.Fns) 1000 60 13 (.row [2, 1, 1, 1]) (.row [3, 2])) = true := by kernel_rfl
set_option maxRecDepth 100000 in
theorem r14_25 : Go.Eng.isTrue (Go.Eng.twoRun Try.prog (Go.Eng.lenS 153) (⟨40, 42, 50, 39, 75⟩ : Go.Eng.Fns) 1000 60 13 (.row [2, 1, 1, 1]) (.row [3, 2, 1])) = true := by kernel_rfl
set_option maxRecDepth 100000 in
theorem r14_26 : Go.Eng.isTrue (Go.Eng.twoRun Try.prog (Go.Eng.lenS 153) (⟨40, 42, 50, 39, 75⟩ : Go.Eng.Fns) 1000 60 13 (.row [2, 1, 1, 1]) (.row [3, 3])) = true := by kernel_rfl
set_option maxRecDepth 100000 in
theorem r14_27 : Go.Eng.isTrue (Go.Eng.twoRun Try.prog (Go.Eng.lenS 153) (⟨40, 42, 50, 39, 75⟩ : Go.Eng.Fns) 1000 60 13 (.row [2, 1, 1, 1]) (.row [4])) = true := by kernel_rfl
set_option maxRecDepth 100000 in
theorem r14_28 : Go.Eng.isTrue (Go.Eng.twoRun Try.prog (Go.Eng.lenS 153) (⟨40, 42, 50, 39, 75⟩ : Go.Eng.Fns) 1000 60 13 (.row [2, 1, 1, 1]) (.row [4, 1])) = true := by kernel_rfl
set_option maxRecDepth 100000 in
theorem r14_29 : Go.Eng.isTrue (Go.Eng.twoRun Try.prog (Go.Eng.lenS 153) (⟨40, 42, 50, 39, 75⟩ : Go.Eng.Fns) 1000 60 13 (.row [2, 1, 1, 1]) (.row [4, 1, 1])) = true := by kernel_rfl
set_option maxRecDepth 100000 in
theorem r14_30 : Go.Eng.isTrue (Go.Eng.twoRun Try.prog (Go.Eng.lenS 153) (⟨40, 42, 50, 39, 75⟩ : Go.Eng.Fns) 1000 60 13 (.row [2, 1, 1, 1]) (.row [4, 2])) = true := by kernel_rfl
set_option maxRecDepth 100000 in
theorem r14_31 : Go.Eng.isTrue (Go.Eng.twoRun Try.prog (Go.Eng.lenS 153) (⟨40, 42, 50, 39, 75⟩ : Go.Eng.Fns) 1000 60 13 (.row [2, 1, 1, 1]) (.row [5])) = true := by kernel_rfl
set_option maxRecDepth 100000 in
theorem r14_32 : Go.Eng.isTrue (Go.Eng.twoRun Try.prog (Go.Eng.lenS 153) (⟨40, 42, 50, 39, 75⟩ : Go.Eng.Fns) 1000 60 13 (.row [2, 1, 1, 1]) (.row [5, 1])) = true := by kernel_rfl
set_option maxRecDepth 100000 in
theorem r14_33 : Go.Eng.isTrue (Go.Eng.twoRun Try.prog (Go.Eng.lenS 153) (⟨40, 42, 50, 39, 75⟩ : Go.Eng.Fns) 1000 60 13 (.row [2, 1, 1, 1]) (.row [6])) = true := by kernel_rfl
theorem r14 : Go.Eng.AllL (fun c => Go.Eng.isTrue (Go.Eng.twoRun Try.prog (Go.Eng.lenS 153) (⟨40, 42, 50, 39, 75⟩ : Go.Eng.Fns) 1000 60 13 (.row [2, 1, 1, 1]) c) = true) Go.Eng.classes := by
  unfold Go.Eng.classes
  rw [Go.Eng.shares_eq]
  exact ⟨r14_0, r14_1, r14_2, r14_3, r14_4, r14_5, r14_6, r14_7, r14_8, r14_9, r14_10, r14_11, r14_12, r14_13, r14_14, r14_15, r14_16, r14_17, r14_18, r14_19, r14_20, r14_21, r14_22, r14_23, r14_24, r14_25, r14_26, r14_27, r14_28, r14_29, r14_30, r14_31, r14_32, r14_33, trivial⟩
set_option maxRecDepth 100000 in
theorem r22_0 : Go.Eng.isTrue (Go.Eng.twoRun Try.prog (Go.Eng.lenS 153) (⟨40, 42, 50, 39, 75⟩ : Go.Eng.Fns) 1000 60 13 (.row [3, 1, 1]) .nil) = true := by kernel_rfl
set_option maxRecDepth 100000 in
theorem r22_1 : Go.Eng.isTrue (Go.Eng.twoRun Try.prog (Go.Eng.lenS 153) (⟨40, 42, 50, 39, 75⟩ : Go.Eng.Fns) 1000 60 13 (.row [3, 1, 1]) .zero) = true := by kernel_rfl
set_option maxRecDepth 100000 in
theorem r22_2 : Go.Eng.isTrue (Go.Eng.twoRun Try.prog (Go.Eng.lenS 153) (⟨40, 42, 50, 39, 75⟩ : Go.Eng.Fns) 1000 60 13 (.row [3, 1, 1]) .no) = true := by kernel_rfl
set_option maxRecDepth 100000 in
theorem r22_3 : Go.Eng.isTrue (Go.Eng.twoRun Try.prog (Go.Eng.lenS 153) (⟨40, 42, 50, 39, 75⟩ : Go.Eng.Fns) 1000 60 13 (.row [3, 1, 1]) .long) = true := by kernel_rfl
set_option maxRecDepth 100000 in
theorem r22_4 : Go.Eng.isTrue (Go.Eng.twoRun Try.prog (Go.Eng.lenS 153) (⟨40, 42, 50, 39, 75⟩ : Go.Eng.Fns) 1000 60 13 (.row [3, 1, 1]) (.row [])) = true := by kernel_rfl
set_option maxRecDepth 100000 in
theorem r22_5 : Go.Eng.isTrue (Go.Eng.twoRun Try.prog (Go.Eng.lenS 153) (⟨40, 42, 50, 39, 75⟩ : Go.Eng.Fns) 1000 60 13 (.row [3, 1, 1]) (.row [1])) = true := by kernel_rfl
set_option maxRecDepth 100000 in
theorem r22_6 : Go.Eng.isTrue (Go.Eng.twoRun Try.prog (Go.Eng.lenS 153) (⟨40, 42, 50, 39, 75⟩ : Go.Eng.Fns) 1000 60 13 (.row [3, 1, 1]) (.row [1, 1])) = true := by kernel_rfl
set_option maxRecDepth 100000 in
theorem r22_7 : Go.Eng.isTrue (Go.Eng.twoRun Try.prog (Go.Eng.lenS 153) (⟨40, 42, 50, 39, 75⟩ : Go.Eng.Fns) 1000 60 13 (.row [3, 1, 1]) (.row [1, 1, 1])) = true := by kernel_rfl
set_option maxRecDepth 100000 in
theorem r22_8 : Go.Eng.isTrue (Go.Eng.twoRun Try.prog (Go.Eng.lenS 153) (⟨40, 42, 50, 39, 75⟩ : Go.Eng.Fns) 1000 60 13 (.row [3, 1, 1]) (.row [1, 1, 1, 1])) = true := by kernel_rfl
set_option maxRecDepth 100000 in
theorem r22_9 : Go.Eng.isTrue (Go.Eng.twoRun Try.prog (Go.Eng.lenS 153) (⟨40, 42, 50, 39, 75⟩ : Go.Eng.Fns) 1000 60 13 (.row [3, 1, 1]) (.row [1, 1, 1, 1, 1])) = true := by kernel_rfl
set_option maxRecDepth 100000 in
theorem r22_10 : Go.Eng.isTrue (Go.Eng.twoRun Try.prog (Go.Eng.lenS 153) (⟨40, 42, 50, 39, 75⟩ : Go.Eng.Fns) 1000 60 13 (.row [3, 1, 1]) (.row [1, 1, 1, 1, 1, 1])) = true := by kernel_rfl
set_option maxRecDepth 100000 in
theorem r22_11 : Go.Eng.isTrue (Go.Eng.twoRun Try.prog (Go.Eng.lenS 153) (⟨40, 42, 50, 39, 75⟩ : Go.Eng.Fns) 1000 60 13 (.row [3, 1, 1]) (.row [2])) = true := by kernel_rfl
set_option maxRecDepth 100000 in
theorem r22_12 : Go.Eng.isTrue (Go.Eng.twoRun Try.prog (Go.Eng.lenS 153) (⟨40, 42, 50, 39, 75⟩ : Go.Eng.Fns) 1000 60 13 (.row [3, 1, 1]) (.row [2, 1])) = true := by kernel_rfl
set_option maxRecDepth 100000 in
theorem r22_13 : Go.Eng.isTrue (Go.Eng.twoRun Try.prog (Go.Eng.lenS 153) (⟨40, 42, 50, 39, 75⟩ : Go.Eng.Fns) 1000 60 13 (.row [3, 1, 1]) (.row [2, 1, 1])) = true := by kernel_rfl
set_option maxRecDepth 100000 in
theorem r22_14 : Go.Eng.isTrue (Go.Eng.twoRun Try.prog (Go.Eng.lenS 153) (⟨40, 42, 50, 39, 75⟩ : Go.Eng.Fns) 1000 60 13 (.row [3, 1, 1]) (.row [2, 1, 1, 1])) = true := by kernel_rfl
set_option maxRecDepth 100000 in
theorem r22_15 : Go.Eng.isTrue (Go.Eng.twoRun Try.prog (Go.Eng.lenS 153) (⟨40, 42, 50, 39, 75⟩ : Go.Eng.Fns) 1000 60 13 (.row [3, 1, 1]) (.row [2, 1, 1, 1, 1])) = true := by kernel_rfl
set_option maxRecDepth 100000 in
theorem r22_16 : Go.Eng.isTrue (Go.Eng.twoRun Try.prog (Go.Eng.lenS 153) (⟨40, 42, 50, 39, 75⟩ : Go.Eng.Fns) 1000 60 13 (.row [3, 1, 1]) (.row [2, 2])) = true := by kernel_rfl
set_option maxRecDepth 100000 in
theorem r22_17 : Go.Eng.isTrue (Go.Eng.twoRun Try.prog (Go.Eng.lenS 153) (⟨40, 42, 50, 39, 75⟩ : Go.Eng.Fns) 1000 60 13 (.row [3, 1, 1]) (.row [2, 2, 1])) = true := by kernel_rfl
set_option maxRecDepth 100000 in
theorem r22_18 : Go.Eng.isTrue (Go.Eng.twoRun Try.prog (Go.Eng.lenS 153) (⟨40, 42, 50, 39, 75⟩ : Go.Eng.Fns) 1000 60 13 (.row [3, 1, 1]) (.row [2, 2, 1, 1])) = true := by kernel_rfl
set_option maxRecDepth 100000 in
theorem r22_19 : Go.Eng.isTrue (Go.Eng.twoRun Try.prog (Go.Eng.lenS 153) (⟨40, 42, 50, 39, 75⟩ : Go.Eng.Fns) 1000 60 13 (.row [3, 1, 1]) (.row [2, 2, 2])) = true := by kernel_rfl
set_option maxRecDepth 100000 in
theorem r22_20 : Go.Eng.isTrue (Go.Eng.twoRun Try.prog (Go.Eng.lenS 153) (⟨40, 42, 50, 39, 75⟩ : Go.Eng.Fns) 1000 60 13 (.row [3, 1, 1]) (.row [3])) = true := by kernel_rfl
set_option maxRecDepth 100000 in
theorem r22_21 : Go.Eng.isTrue (Go.Eng.twoRun Try.prog (Go.Eng.lenS 153) (⟨40, 42, 50, 39, 75⟩ : Go.Eng.Fns) 1000 60 13 (.row [3, 1, 1]) (.row [3, 1])) = true := by kernel_rfl
set_option maxRecDepth 100000 in
theorem r22_22 : Go.Eng.isTrue (Go.Eng.twoRun Try.prog (Go.Eng.lenS 153) (⟨40, 42, 50, 39, 75⟩ : Go.Eng.Fns) 1000 60 13 (.row [3, 1, 1]) (.row [3, 1, 1])) = true := by kernel_rfl
set_option maxRecDepth 100000 in
theorem r22_23 : Go.Eng.isTrue (Go.Eng.twoRun Try.prog (Go.Eng.lenS 153) (⟨40, 42, 50, 39, 75⟩ : Go.Eng.Fns) 1000 60 13 (.row [3, 1, 1]) (.row [3, 1, 1, 1])) = true := by kernel_rfl
set_option maxRecDepth 100000 in
theorem r22_24 : Go.Eng.isTrue (Go.Eng.twoRun Try.prog (Go.Eng.lenS 153) (⟨40, 42, 50, 39, 75⟩ : Go.Eng.Fns) 1000 60 13 (.row [3, 1, 1]) (.row [3, 2])) = true := by kernel_rfl
set_option maxRecDepth 100000 in
theorem r22_25 : Go.Eng.isTrue (Go.Eng.twoRun Try.prog (Go.Eng.lenS 153) (⟨40, 42, 50, 39, 75⟩ : Go.Eng.Fns) 1000 60 13 (.row [3, 1, 1]) (.row [3, 2, 1])) = true := by kernel_rfl
set_option maxRecDepth 100000 in
theorem r22_26 : Go.Eng.isTrue (Go.Eng.twoRun Try.prog (Go.Eng.lenS 153) (⟨40, 42, 50, 39, 75⟩ : Go.Eng.Fns) 1000 60 13 (.row [3, 1, 1]) (.row [3, 3])) = true := by kernel_rfl
set_option maxRecDepth 100000 in
theorem r22_27 : Go.Eng.isTrue (Go.Eng.twoRun Try.prog (Go.Eng.lenS 153) (⟨40, 42, 50, 39, 75⟩ : Go.Eng.Fns) 1000 60 13 (.row [3, 1, 1]) (.row [4])) = true := by kernel_rfl
set_option maxRecDepth 100000 in
theorem r22_28 : Go.Eng.isTrue (Go.Eng.twoRun Try.prog (Go.Eng.lenS 153) (⟨40, 42, 50, 39, 75⟩ : Go.Eng.Fns) 1000 60 13 (.row [3, 1, 1]) (.row [4, 1])) = true := by kernel_rfl
set_option maxRecDepth 100000 in
theorem r22_29 : Go.Eng.isTrue (Go.Eng.twoRun Try.prog (Go.Eng.lenS 153) (⟨40, 42, 50, 39, 75⟩ : Go.Eng.Fns) 1000 60 13 (.row [3, 1, 1]) (.row [4, 1, 1])) = true := by kernel_rfl
set_option maxRecDepth 100000 in
theorem r22_30 : Go.Eng.isTrue (Go.Eng.twoRun Try.prog (Go.Eng.lenS 153) (⟨40, 42, 50, 39, 75⟩ : Go.Eng.Fns) 1000 60 13 (.row [3, 1, 1]) (.row [4, 2])) = true := by kernel_rfl
set_option maxRecDepth 100000 in
theorem r22_31 : Go.Eng.isTrue (Go.Eng.twoRun Try.prog (Go.Eng.lenS 153) (⟨40, 42, 50, 39, 75⟩ : Go.Eng.Fns) 1000 60 13 (.row [3, 1, 1]) (.row [5])) = true := by kernel_rfl
set_option maxRecDepth 100000 in
theorem r22_32 : Go.Eng.isTrue (Go.Eng.twoRun Try.prog (Go.Eng.lenS 153) (⟨40, 42, 50, 39, 75⟩ : Go.Eng.Fns) 1000 60 13 (.row [3, 1, 1]) (.row [5, 1])) = true := by kernel_rfl
set_option maxRecDepth 100000 in
theorem r22_33 : Go.Eng.isTrue (Go.Eng.twoRun Try.prog (Go.Eng.lenS 153) (⟨40, 42, 50, 39, 75⟩ : Go.Eng.Fns) 1000 60 13 (.row [3, 1, 1]) (.row [6])) = true := by kernel_rfl
theorem r22 : Go.Eng.AllL (fun c => Go.Eng.isTrue (Go.Eng.twoRun Try.prog (Go.Eng.lenS 153) (⟨40, 42, 50, 39, 75⟩ : Go.Eng.Fns) 1000 60 13 (.row [3, 1, 1]) c) = true) Go.Eng.classes := by
  unfold Go.Eng.classes
  rw [Go.Eng.shares_eq]
  exact ⟨r22_0, r22_1, r22_2, r22_3, r22_4, r22_5, r22_6, r22_7, r22_8, r22_9, r22_10, r22_11, r22_12, r22_13, r22_14, r22_15, r22_16, r22_17, r22_18, r22_19, r22_20, r22_21, r22_22, r22_23, r22_24, r22_25, r22_26, r22_27, r22_28, r22_29, r22_30, r22_31, r22_32, r22_33, trivial⟩
set_option maxRecDepth 100000 in
theorem r30_0 : Go.Eng.isTrue (Go.Eng.twoRun Try.prog (Go.Eng.lenS 153) (⟨40, 42, 50, 39, 75⟩ : Go.Eng.Fns) 1000 60 13 (.row [4, 2]) .nil) = true := by kernel_rfl
set_option maxRecDepth 100000 in
theorem r30_1 : Go.Eng.isTrue (Go.Eng.twoRun Try.prog (Go.Eng.lenS 153) (⟨40, 42, 50, 39, 75⟩ : Go.Eng.Fns) 1000 60 13 (.row [4, 2]) .zero) = true := by kernel_rfl
set_option maxRecDepth 100000 in
theorem r30_2 : Go.Eng.isTrue (Go.Eng.twoRun Try.prog (Go.Eng.lenS 153) (⟨40, 42, 50, 39, 75⟩ : Go.Eng.Fns) 1000 60 13 (.row [4, 2]) .no) = true := by kernel_rfl
set_option maxRecDepth 100000 in
theorem r30_3 : Go.Eng.isTrue (Go.Eng.twoRun Try.prog (Go.Eng.lenS 153) (⟨40, 42, 50, 39, 75⟩ : Go.Eng.Fns) 1000 60 13 (.row [4, 2]) .long) = true := by kernel_rfl
set_option maxRecDepth 100000 in
theorem r30_4 : Go.Eng.isTrue (Go.Eng.twoRun Try.prog (Go.Eng.lenS 153) (⟨40, 42, 50, 39, 75⟩ : Go.Eng.Fns) 1000 60 13 (.row [4, 2]) (.row [])) = true := by kernel_rfl
set_option maxRecDepth 100000 in
theorem r30_5 : Go.Eng.isTrue (Go.Eng.twoRun Try.prog (Go.Eng.lenS 153) (⟨40, 42, 50, 39, 75⟩ : Go.Eng.Fns) 1000 60 13 (.row [4, 2]) (.row [1])) = true := by kernel_rfl
set_option maxRecDepth 100000 in
theorem r30_6 : Go.Eng.isTrue (Go.Eng.twoRun Try.prog (Go.Eng.lenS 153) (⟨40, 42, 50, 39, 75⟩ : Go.Eng.Fns) 1000 60 13 (.row [4, 2]) (.row [1, 1])) = true := by kernel_rfl
set_option maxRecDepth 100000 in
theorem r30_7 : Go.Eng.isTrue (Go.Eng.twoRun Try.prog (Go.Eng.lenS 153) (⟨40, 42, 50, 39, 75⟩ : Go.Eng.Fns) 1000 60 13 (.row [4, 2]) (.row [1, 1, 1])) = true := by kernel_rfl
set_option maxRecDepth 100000 in
theorem r30_8 : Go.Eng.isTrue (Go.Eng.twoRun Try.prog (Go.Eng.lenS 153) (⟨40, 42, 50, 39, 75⟩ : Go.Eng.Fns) 1000 60 13 (.row [4, 2]) (.row [1, 1, 1, 1])) = true := by kernel_rfl
set_option maxRecDepth 100000 in
theorem r30_9 : Go.Eng.isTrue (Go.Eng.twoRun Try.prog (Go.Eng.lenS 153) (⟨40, 42, 50, 39, 75⟩ : Go.Eng.Fns) 1000 60 13 (.row [4, 2]) (.row [1, 1, 1, 1, 1])) = true := by kernel_rfl
set_option maxRecDepth 100000 in
theorem r30_10 : Go.Eng.isTrue (Go.Eng.twoRun Try.prog (Go.Eng.lenS 153) (⟨40, 42, 50, 39, 75⟩ : Go.Eng.Fns) 1000 60 13 (.row [4, 2]) (.row [1, 1, 1, 1, 1, 1])) = true := by kernel_rfl
set_option maxRecDepth 100000 in
theorem r30_11 : Go.Eng.isTrue (Go.Eng.twoRun Try.prog (Go.Eng.lenS 153) (⟨40, 42, 50, 39, 75⟩ : Go.Eng.Fns) 1000 60 13 (.row [4, 2]) (.row [2])) = true := by kernel_rfl
set_option maxRecDepth 100000 in
theorem r30_12 : Go.Eng.isTrue (Go.Eng.twoRun Try.prog (Go.Eng.lenS 153) (⟨40, 42, 50, 39, 75⟩ : Go.Eng.Fns) 1000 60 13 (.row [4, 2]) (.row [2, 1])) = true := by kernel_rfl
set_option maxRecDepth 100000 in
theorem r30_13 : Go.Eng.isTrue (Go.Eng.twoRun Try.prog (Go.Eng.lenS 153) (⟨40, 42, 50, 39, 75⟩ : Go.Eng.Fns) 1000 60 13 (.row [4, 2]) (.row [2, 1, 1])) = true := by kernel_rfl
set_option maxRecDepth 100000 in
theorem r30_14 : Go.Eng.isTrue (Go.Eng.twoRun Try.prog (Go.Eng.lenS 153) (⟨40, 42, 50, 39, 75⟩ : Go.Eng.Fns) 1000 60 13 (.row [4, 2]) (.row [2, 1, 1, 1])) = true := by kernel_rfl
set_option maxRecDepth 100000 in
theorem r30_15 : Go.Eng.isTrue (Go.Eng.twoRun Try.prog (Go.Eng.lenS 153) (⟨40, 42, 50, 39, 75⟩ : Go.Eng.Fns) 1000 60 13 (.row [4, 2]) (.row [2, 1, 1, 1, 1])) = true := by kernel_rfl
set_option maxRecDepth 100000 in
theorem r30_16 : Go.Eng.isTrue (Go.Eng.twoRun Try.prog (Go.Eng.lenS 153) (⟨40, 42, 50, 39, 75⟩ : Go.Eng.Fns) 1000 60 13 (.row [4, 2]) (.row [2, 2])) = true := by kernel_rfl
set_option maxRecDepth 100000 in
theorem r30_17 : Go.Eng.isTrue (Go.Eng.twoRun Try.prog (Go.Eng.lenS 153) (⟨40, 42, 50, 39, 75⟩ : Go.Eng.Fns) 1000 60 13 (.row [4, 2]) (.row [2, 2, 1])) = true := by kernel_rfl
set_option maxRecDepth 100000 in
theorem r30_18 : Go.Eng.isTrue (Go.Eng.twoRun Try.prog (Go.Eng.lenS 153) (⟨40, 42, 50, 39, 75⟩ : Go.Eng.Fns) 1000 60 13 (.row [4, 2]) (.row [2, 2, 1, 1])) = true := by kernel_rfl
set_option maxRecDepth 100000 in
theorem r30_19 : Go.Eng.isTrue (Go.Eng.twoRun Try.prog (Go.Eng.lenS 153) (⟨40, 42, 50, 39, 75⟩ : Go.Eng.Fns) 1000 60 13 (.row [4, 2]) (.row [2, 2, 2])) = true := by kernel_rfl
set_option maxRecDepth 100000 in
theorem r30_20 : Go.Eng.isTrue (Go.Eng.twoRun Try.prog (Go.Eng.lenS 153) (⟨40, 42, 50, 39, 75⟩ : Go.Eng.Fns) 1000 60 13 (.row [4, 2]) (.row [3])) = true := by kernel_rfl
set_option maxRecDepth 100000 in
theorem r30_21 : Go.Eng.isTrue (Go.Eng.twoRun Try.prog (Go.Eng.lenS 153) (⟨40, 42, 50, 39, 75⟩ : Go.Eng.Fns) 1000 60 13 (.row [4, 2]) (.row [3, 1])) = true := by kernel_rfl
set_option maxRecDepth 100000 in
theorem r30_22 : Go.Eng.isTrue (Go.Eng.twoRun Try.prog (Go.Eng.lenS 153) (⟨40, 42, 50, 39, 75⟩ : Go.Eng.Fns) 1000 60 13 (.row [4, 2]) (.row [3, 1, 1])) = true := by kernel_rfl
set_option maxRecDepth 100000 in
theorem r30_23 : Go.Eng.isTrue (Go.Eng.twoRun Try.prog (Go.Eng.lenS 153) (⟨40, 42, 50, 39, 75⟩ : Go.Eng.Fns) 1000 60 13 (.row [4, 2]) (.row [3, 1, 1, 1])) = true := by kernel_rfl
set_option maxRecDepth 100000 in
theorem r30_24 : Go.Eng.isTrue (Go.Eng.twoRun Try.prog (Go.Eng.lenS 153) (⟨40, 42, 50, 39, 75⟩ : Go.Eng.Fns) 1000 60 13 (.row [4, 2]) (.row [3, 2])) = true := by kernel_rfl
set_option maxRecDepth 100000 in
theorem r30_25 : Go.Eng.isTrue (Go.Eng.twoRun Try.prog (Go.Eng.lenS 153) (⟨40, 42, 50, 39, 75⟩ : Go.Eng.Fns) 1000 60 13 (.row [4, 2]) (.row [3, 2, 1])) = true := by kernel_rfl
set_option maxRecDepth 100000 in
theorem r30_26 : Go.Eng.isTrue (Go.Eng.twoRun Try.prog (Go.Eng.lenS 153) (⟨40, 42, 50, 39, 75⟩ : Go.Eng.Fns) 1000 60 13 (.row [4, 2]) (.row [3, 3])) = true := by kernel_rfl
set_option maxRecDepth 100000 in
theorem r30_27 : Go.Eng.isTrue (Go.Eng.twoRun Try.prog (Go.Eng.lenS 153) (⟨40, 42, 50, 39, 75⟩ : Go.Eng.Fns) 1000 60 13 (.row [4, 2]) (.row [4])) = true := by kernel_rfl
set_option maxRecDepth 100000 in
theorem r30_28 : Go.Eng.isTrue (Go.Eng.twoRun Try.prog (Go.Eng.lenS 153) (⟨40, 42, 50, 39, 75⟩ : Go.Eng.Fns) 1000 60 13 (.row [4, 2]) (.row [4, 1])) = true := by kernel_rfl
set_option maxRecDepth 100000 in
theorem r30_29 : Go.Eng.isTrue (Go.Eng.twoRun Try.prog (Go.Eng.lenS 153) (⟨40, 42, 50, 39, 75⟩ : Go.Eng.Fns) 1000 60 13 (.row [4, 2]) (.row [4, 1, 1])) = true := by kernel_rfl
set_option maxRecDepth 100000 in
theorem r30_30 : Go.Eng.isTrue (Go.Eng.twoRun Try.prog (Go.Eng.lenS 153) (⟨40, 42, 50, 39, 75⟩ : Go.Eng.Fns) 1000 60 13 (.row [4, 2]) (.row [4, 2])) = true := by kernel_rfl
set_option maxRecDepth 100000 in
theorem r30_31 : Go.Eng.isTrue (Go.Eng.twoRun Try.prog (Go.Eng.lenS 153) (⟨40, 42, 50, 39, 75⟩ : Go.Eng.Fns) 1000 60 13 (.row [4, 2]) (.row [5])) = true := by kernel_rfl
set_option maxRecDepth 100000 in
theorem r30_32 : Go.Eng.isTrue (Go.Eng.twoRun Try.prog (Go.Eng.lenS 153) (⟨40, 42, 50, 39, 75⟩ : Go.Eng.Fns) 1000 60 13 (.row [4, 2]) (.row [5, 1])) = true := by kernel_rfl
set_option maxRecDepth 100000 in
theorem r30_33 : Go.Eng.isTrue (Go.Eng.twoRun Try.prog (Go.Eng.lenS 153) (⟨40, 42, 50, 39, 75⟩ : Go.Eng.Fns) 1000 60 13 (.row [4, 2]) (.row [6])) = true := by kernel_rfl
theorem r30 : Go.Eng.AllL (fun c => Go.Eng.isTrue (Go.Eng.twoRun Try.prog (Go.Eng.lenS 153) (⟨40, 42, 50, 39, 75⟩ : Go.Eng.Fns) 1000 60 13 (.row [4, 2]) c) = true) Go.Eng.classes := by
  unfold Go.Eng.classes
  rw [Go.Eng.shares_eq]
  exact ⟨r30_0, r30_1, r30_2, r30_3, r30_4, r30_5, r30_6, r30_7, r30_8, r30_9, r30_10, r30_11, r30_12, r30_13, r30_14, r30_15, r30_16, r30_17, r30_18, r30_19, r30_20, r30_21, r30_22, r30_23, r30_24, r30_25, r30_26, r30_27, r30_28, r30_29, r30_30, r30_31, r30_32, r30_33, trivial⟩
end Go.Proofs.Ytnablcacdfebfac.fnExactShareJoinRuns
