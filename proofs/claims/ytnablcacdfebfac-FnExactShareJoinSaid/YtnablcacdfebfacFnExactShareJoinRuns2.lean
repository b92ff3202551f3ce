/- The runs of FnExactShareJoin, part 2. -/
import Derived.Test.YtnablcacdfebfacEngZa
import Derived.Test.YtnablcacdfebfacProg
namespace Go.Proofs.Ytnablcacdfebfac.fnExactShareJoinRuns
set_option linter.unusedVariables false
set_option linter.unusedSectionVars false
set_option linter.unusedSimpArgs false
set_option maxRecDepth 100000 in
theorem r2_0 : Go.Eng.isTrue (Go.Eng.twoRun Try.prog (Go.Eng.lenS 153) (⟨40, 42, 50, 39, 75⟩ : Go.Eng.Fns) 1000 60 13 .no .nil) = true := by kernel_rfl
set_option maxRecDepth 100000 in
theorem r2_1 : Go.Eng.isTrue (Go.Eng.twoRun Try.prog (Go.Eng.lenS 153) (⟨40, 42, 50, 39, 75⟩ : Go.Eng.Fns) 1000 60 13 .no .zero) = true := by kernel_rfl
set_option maxRecDepth 100000 in
theorem r2_2 : Go.Eng.isTrue (Go.Eng.twoRun Try.prog (Go.Eng.lenS 153) (⟨40, 42, 50, 39, 75⟩ : Go.Eng.Fns) 1000 60 13 .no .no) = true := by kernel_rfl
set_option maxRecDepth 100000 in
theorem r2_3 : Go.Eng.isTrue (Go.Eng.twoRun Try.prog (Go.Eng.lenS 153) (⟨40, 42, 50, 39, 75⟩ : Go.Eng.Fns) 1000 60 13 .no .long) = true := by kernel_rfl
set_option maxRecDepth 100000 in
theorem r2_4 : Go.Eng.isTrue (Go.Eng.twoRun Try.prog (Go.Eng.lenS 153) (⟨40, 42, 50, 39, 75⟩ : Go.Eng.Fns) 1000 60 13 .no (.row [])) = true := by kernel_rfl
set_option maxRecDepth 100000 in
theorem r2_5 : Go.Eng.isTrue (Go.Eng.twoRun Try.prog (Go.Eng.lenS 153) (⟨40, 42, 50, 39, 75⟩ : Go.Eng.Fns) 1000 60 13 .no (.row [1])) = true := by kernel_rfl
set_option maxRecDepth 100000 in
theorem r2_6 : Go.Eng.isTrue (Go.Eng.twoRun Try.prog (Go.Eng.lenS 153) (⟨40, 42, 50, 39, 75⟩ : Go.Eng.Fns) 1000 60 13 .no (.row [1, 1])) = true := by kernel_rfl
set_option maxRecDepth 100000 in
theorem r2_7 : Go.Eng.isTrue (Go.Eng.twoRun Try.prog (Go.Eng.lenS 153) (⟨40, 42, 50, 39, 75⟩ : Go.Eng.Fns) 1000 60 13 .no (.row [1, 1, 1])) = true := by kernel_rfl
set_option maxRecDepth 100000 in
theorem r2_8 : Go.Eng.isTrue (Go.Eng.twoRun Try.prog (Go.Eng.lenS 153) (⟨40, 42, 50, 39, 75⟩ : Go.Eng.Fns) 1000 60 13 .no (.row [1, 1, 1, 1])) = true := by kernel_rfl
set_option maxRecDepth 100000 in
theorem r2_9 : Go.Eng.isTrue (Go.Eng.twoRun Try.prog (Go.Eng.lenS 153) (⟨40, 42, 50, 39, 75⟩ : Go.Eng.Fns) 1000 60 13 .no (.row [1, 1, 1, 1, 1])) = true := by kernel_rfl
set_option maxRecDepth 100000 in
theorem r2_10 : Go.Eng.isTrue (Go.Eng.twoRun Try.prog (Go.Eng.lenS 153) (⟨40, 42, 50, 39, 75⟩ : Go.Eng.Fns) 1000 60 13 .no (.row [1, 1, 1, 1, 1, 1])) = true := by kernel_rfl
set_option maxRecDepth 100000 in
theorem r2_11 : Go.Eng.isTrue (Go.Eng.twoRun Try.prog (Go.Eng.lenS 153) (⟨40, 42, 50, 39, 75⟩ : Go.Eng.Fns) 1000 60 13 .no (.row [2])) = true := by kernel_rfl
set_option maxRecDepth 100000 in
theorem r2_12 : Go.Eng.isTrue (Go.Eng.twoRun Try.prog (Go.Eng.lenS 153) (⟨40, 42, 50, 39, 75⟩ : Go.Eng.Fns) 1000 60 13 .no (.row [2, 1])) = true := by kernel_rfl
set_option maxRecDepth 100000 in
theorem r2_13 : Go.Eng.isTrue (Go.Eng.twoRun Try.prog (Go.Eng.lenS 153) (⟨40, 42, 50, 39, 75⟩ : Go.Eng.Fns) 1000 60 13 .no (.row [2, 1, 1])) = true := by kernel_rfl
set_option maxRecDepth 100000 in
theorem r2_14 : Go.Eng.isTrue (Go.Eng.twoRun Try.prog (Go.Eng.lenS 153) (⟨40, 42, 50, 39, 75⟩ : Go.Eng.Fns) 1000 60 13 .no (.row [2, 1, 1, 1])) = true := by kernel_rfl
set_option maxRecDepth 100000 in
theorem r2_15 : Go.Eng.isTrue (Go.Eng.twoRun Try.prog (Go.Eng.lenS 153) (⟨40, 42, 50, 39, 75⟩ : Go.Eng.Fns) 1000 60 13 .no (.row [2, 1, 1, 1, 1])) = true := by kernel_rfl
set_option maxRecDepth 100000 in
theorem r2_16 : Go.Eng.isTrue (Go.Eng.twoRun Try.prog (Go.Eng.lenS 153) (⟨40, 42, 50, 39, 75⟩ : Go.Eng.Fns) 1000 60 13 .no (.row [2, 2])) = true := by kernel_rfl
set_option maxRecDepth 100000 in
theorem r2_17 : Go.Eng.isTrue (Go.Eng.twoRun Try.prog (Go.Eng.lenS 153) (⟨40, 42, 50, 39, 75⟩ : Go.Eng.Fns) 1000 60 13 .no (.row [2, 2, 1])) = true := by kernel_rfl
set_option maxRecDepth 100000 in
theorem r2_18 : Go.Eng.isTrue (Go.Eng.twoRun Try.prog (Go.Eng.lenS 153) (⟨40, 42, 50, 39, 75⟩ : Go.Eng.Fns) 1000 60 13 .no (.row [2, 2, 1, 1])) = true := by kernel_rfl
set_option maxRecDepth 100000 in
theorem r2_19 : Go.Eng.isTrue (Go.Eng.twoRun Try.prog (Go.Eng.lenS 153) (⟨40, 42, 50, 39, 75⟩ : Go.Eng.Fns) 1000 60 13 .no (.row [2, 2, 2])) = true := by kernel_rfl
set_option maxRecDepth 100000 in
theorem r2_20 : Go.Eng.isTrue (Go.Eng.twoRun Try.prog (Go.Eng.lenS 153) (⟨40, 42, 50, 39, 75⟩ : Go.Eng.Fns) 1000 60 13 .no (.row [3])) = true := by kernel_rfl
set_option maxRecDepth 100000 in
theorem r2_21 : Go.Eng.isTrue (Go.Eng.twoRun Try.prog (Go.Eng.lenS 153) (⟨40, 42, 50, 39, 75⟩ : Go.Eng.Fns) 1000 60 13 .no (.row [3, 1])) = true := by kernel_rfl
set_option maxRecDepth 100000 in
theorem r2_22 : Go.Eng.isTrue (Go.Eng.twoRun Try.prog (Go.Eng.lenS 153) (⟨40, 42, 50, 39, 75⟩ : Go.Eng.Fns) 1000 60 13 .no (.row [3, 1, 1])) = true := by kernel_rfl
set_option maxRecDepth 100000 in
theorem r2_23 : Go.Eng.isTrue (Go.Eng.twoRun Try.prog (Go.Eng.lenS 153) (⟨40, 42, 50, 39, 75⟩ : Go.Eng.Fns) 1000 60 13 .no (.row [3, 1, 1, 1])) = true := by kernel_rfl
set_option maxRecDepth 100000 in
theorem r2_24 : Go.Eng.isTrue (Go.Eng.twoRun Try.prog (Go.Eng.lenS 153) (⟨40, 42, 50, 39, 75⟩ : Go.Eng.Fns) 1000 60 13 .no (.row [3, 2])) = true := by kernel_rfl
set_option maxRecDepth 100000 in
theorem r2_25 : Go.Eng.isTrue (Go.Eng.twoRun Try.prog (Go.Eng.lenS 153) (⟨40, 42, 50, 39, 75⟩ : Go.Eng.Fns) 1000 60 13 .no (.row [3, 2, 1])) = true := by kernel_rfl
set_option maxRecDepth 100000 in
theorem r2_26 : Go.Eng.isTrue (Go.Eng.twoRun Try.prog (Go.Eng.lenS 153) (⟨40, 42, 50, 39, 75⟩ : Go.Eng.Fns) 1000 60 13 .no (.row [3, 3])) = true := by kernel_rfl
set_option maxRecDepth 100000 in
theorem r2_27 : Go.Eng.isTrue (Go.Eng.twoRun Try.prog (Go.Eng.lenS 153) (⟨40, 42, 50, 39, 75⟩ : Go.Eng.Fns) 1000 60 13 .no (.row [4])) = true := by kernel_rfl
set_option maxRecDepth 100000 in
theorem r2_28 : Go.Eng.isTrue (Go.Eng.twoRun Try.prog (Go.Eng.lenS 153) (⟨40, 42, 50, 39, 75⟩ : Go.Eng.Fns) 1000 60 13 .no (.row [4, 1])) = true := by kernel_rfl
set_option maxRecDepth 100000 in
theorem r2_29 : Go.Eng.isTrue (Go.Eng.twoRun Try.prog (Go.Eng.lenS 153) (⟨40, 42, 50, 39, 75⟩ : Go.Eng.Fns) 1000 60 13 .no (.row [4, 1, 1])) = true := by kernel_rfl
set_option maxRecDepth 100000 in
theorem r2_30 : Go.Eng.isTrue (Go.Eng.twoRun Try.prog (Go.Eng.lenS 153) (⟨40, 42, 50, 39, 75⟩ : Go.Eng.Fns) 1000 60 13 .no (.row [4, 2])) = true := by kernel_rfl
set_option maxRecDepth 100000 in
theorem r2_31 : Go.Eng.isTrue (Go.Eng.twoRun Try.prog (Go.Eng.lenS 153) (⟨40, 42, 50, 39, 75⟩ : Go.Eng.Fns) 1000 60 13 .no (.row [5])) = true := by kernel_rfl
set_option maxRecDepth 100000 in
theorem r2_32 : Go.Eng.isTrue (Go.Eng.twoRun Try.prog (Go.Eng.lenS 153) (⟨40, 42, 50, 39, 75⟩ : Go.Eng.Fns) 1000 60 13 .no (.row [5, 1])) = true := by kernel_rfl
set_option maxRecDepth 100000 in
theorem r2_33 : Go.Eng.isTrue (Go.Eng.twoRun Try.prog (Go.Eng.lenS 153) (⟨40, 42, 50, 39, 75⟩ : Go.Eng.Fns) 1000 60 13 .no (.row [6])) = true := by kernel_rfl
theorem r2 : Go.Eng.AllL (fun c => Go.Eng.isTrue (Go.Eng.twoRun Try.prog (Go.Eng.lenS 153) (⟨40, 42, 50, 39, 75⟩ : Go.Eng.Fns) 1000 60 13 .no c) = true) Go.Eng.classes := by
  unfold Go.Eng.classes
  rw [Go.Eng.shares_eq]
  exact ⟨r2_0, r2_1, r2_2, r2_3, r2_4, r2_5, r2_6, r2_7, r2_8, r2_9, r2_10, r2_11, r2_12, r2_13, r2_14, r2_15, r2_16, r2_17, r2_18, r2_19, r2_20, r2_21, r2_22, r2_23, r2_24, r2_25, r2_26, r2_27, r2_28, r2_29, r2_30, r2_31, r2_32, r2_33, trivial⟩
set_option maxRecDepth 100000 in
theorem r10_0 : Go.Eng.isTrue (Go.Eng.twoRun Try.prog (Go.Eng.lenS 153) (⟨40, 42, 50, 39, 75⟩ : Go.Eng.Fns) 1000 60 13 (.row [1, 1, 1, 1, 1, 1]) .nil) = true := by kernel_rfl
set_option maxRecDepth 100000 in
theorem r10_1 : Go.Eng.isTrue (Go.Eng.twoRun Try.prog (Go.Eng.lenS 153) (⟨40, 42, 50, 39, 75⟩ : Go.Eng.Fns) 1000 60 13 (.row [1, 1, 1, 1, 1, 1]) .zero) = true := by kernel_rfl
set_option maxRecDepth 100000 in
theorem r10_2 : Go.Eng.isTrue (Go.Eng.twoRun Try.prog (Go.Eng.lenS 153) (⟨40, 42, 50, 39, 75⟩ : Go.Eng.Fns) 1000 60 13 (.row [1, 1, 1, 1, 1, 1]) .no) = true := by kernel_rfl
set_option maxRecDepth 100000 in
theorem r10_3 : Go.Eng.isTrue (Go.Eng.twoRun Try.prog (Go.Eng.lenS 153) (⟨40, 42, 50, 39, 75⟩ : Go.Eng.Fns) 1000 60 13 (.row [1, 1, 1, 1, 1, 1]) .long) = true := by kernel_rfl
set_option maxRecDepth 100000 in
theorem r10_4 : Go.Eng.isTrue (Go.Eng.twoRun Try.prog (Go.Eng.lenS 153) (⟨40, 42, 50, 39, 75⟩ : Go.Eng.Fns) 1000 60 13 (.row [1, 1, 1, 1, 1, 1]) (.row [])) = true := by kernel_rfl
set_option maxRecDepth 100000 in
theorem r10_5 : Go.Eng.isTrue (Go.Eng.twoRun Try.prog (Go.Eng.lenS 153) (⟨40, 42, 50, 39, 75⟩ : Go.Eng.Fns) 1000 60 13 (.row [1, 1, 1, 1, 1, 1]) (.row [1])) = true := by kernel_rfl
set_option maxRecDepth 100000 in
theorem r10_6 : Go.Eng.isTrue (Go.Eng.twoRun Try.prog (Go.Eng.lenS 153) (⟨40, 42, 50, 39, 75⟩ : Go.Eng.Fns) 1000 60 13 (.row [1, 1, 1, 1, 1, 1]) (.row [1, 1])) = true := by kernel_rfl
set_option maxRecDepth 100000 in
theorem r10_7 : Go.Eng.isTrue (Go.Eng.twoRun Try.prog (Go.Eng.lenS 153) (⟨40, 42, 50, 39, 75⟩ : Go.Eng.Fns) 1000 60 13 (.row [1, 1, 1, 1, 1, 1]) (.row [1, 1, 1])) = true := by kernel_rfl
set_option maxRecDepth 100000 in
theorem r10_8 : Go.Eng.isTrue (Go.Eng.twoRun Try.prog (Go.Eng.lenS 153) (⟨40, 42, 50, 39, 75⟩ : Go.Eng.Fns) 1000 60 13 (.row [1, 1, 1, 1, 1, 1]) (.row [1, 1, 1, 1])) = true := by kernel_rfl
set_option maxRecDepth 100000 in
theorem r10_9 : Go.Eng.isTrue (Go.Eng.twoRun Try.prog (Go.Eng.lenS 153) (⟨40, 42, 50, 39, 75⟩ : Go.Eng.Fns) 1000 60 13 (.row [1, 1, 1, 1, 1, 1]) (.row [1, 1, 1, 1, 1])) = true := by kernel_rfl
set_option maxRecDepth 100000 in
theorem r10_10 : Go.Eng.isTrue (Go.Eng.twoRun Try.prog (Go.Eng.lenS 153) (⟨40, 42, 50, 39, 75⟩ : Go.Eng.Fns) 1000 60 13 (.row [1, 1, 1, 1, 1, 1]) (.row [1, 1, 1, 1, 1, 1])) = true := by kernel_rfl
set_option maxRecDepth 100000 in
theorem r10_11 : Go.Eng.isTrue (Go.Eng.twoRun Try.prog (Go.Eng.lenS 153) (⟨40, 42, 50, 39, 75⟩ : Go.Eng.Fns) 1000 60 13 (.row [1, 1, 1, 1, 1, 1]) (.row [2])) = true := by kernel_rfl
set_option maxRecDepth 100000 in
theorem r10_12 : Go.Eng.isTrue (Go.Eng.twoRun Try.prog (Go.Eng.lenS 153) (⟨40, 42, 50, 39, 75⟩ : Go.Eng.Fns) 1000 60 13 (.row [1, 1, 1, 1, 1, 1]) (.row [2, 1])) = true := by kernel_rfl
set_option maxRecDepth 100000 in
theorem r10_13 : Go.Eng.isTrue (Go.Eng.twoRun Try.prog (Go.Eng.lenS 153) (⟨40, 42, 50, 39, 75⟩ : Go.Eng.Fns) 1000 60 13 (.row [1, 1, 1, 1, 1, 1]) (.row [2, 1, 1])) = true := by kernel_rfl
set_option maxRecDepth 100000 in
theorem r10_14 : Go.Eng.isTrue (Go.Eng.twoRun Try.prog (Go.Eng.lenS 153) (⟨40, 42, 50, 39, 75⟩ : Go.Eng.Fns) 1000 60 13 (.row [1, 1, 1, 1, 1, 1]) (.row [2, 1, 1, 1])) = true := by kernel_rfl
set_option maxRecDepth 100000 in
theorem r10_15 : Go.Eng.isTrue (Go.Eng.twoRun Try.prog (Go.Eng.lenS 153) (⟨40, 42, 50, 39, 75⟩ : Go.Eng.Fns) 1000 60 13 (.row [1, 1, 1, 1, 1, 1]) (.row [2, 1, 1, 1, 1])) = true := by kernel_rfl
set_option maxRecDepth 100000 in
theorem r10_16 : Go.Eng.isTrue (Go.Eng.twoRun Try.prog (Go.Eng.lenS 153) (⟨40, 42, 50, 39, 75⟩ : Go.Eng.Fns) 1000 60 13 (.row [1, 1, 1, 1, 1, 1]) (.row [2, 2])) = true := by kernel_rfl
set_option maxRecDepth 100000 in
theorem r10_17 : Go.Eng.isTrue (Go.Eng.twoRun Try.prog (Go.Eng.lenS 153) (⟨40, 42, 50, 39, 75⟩ : Go.Eng.Fns) 1000 60 13 (.row [1, 1, 1, 1, 1, 1]) (.row [2, 2, 1])) = true := by kernel_rfl
set_option maxRecDepth 100000 in
theorem r10_18 : Go.Eng.isTrue (Go.Eng.twoRun Try.prog (Go.Eng.lenS 153) (⟨40, 42, 50, 39, 75⟩ : Go.Eng.Fns) 1000 60 13 (.row [1, 1, 1, 1, 1, 1]) (.row [2, 2, 1, 1])) = true := by kernel_rfl
set_option maxRecDepth 100000 in
theorem r10_19 : Go.Eng.isTrue (Go.Eng.twoRun Try.prog (Go.Eng.lenS 153) (⟨40, 42, 50, 39, 75⟩ : Go.Eng.Fns) 1000 60 13 (.row [1, 1, 1, 1, 1, 1]) (.row [2, 2, 2])) = true := by kernel_rfl
set_option maxRecDepth 100000 in
theorem r10_20 : Go.Eng.isTrue (Go.Eng.twoRun Try.prog (Go.Eng.lenS 153) (⟨40, 42, 50, 39, 75⟩ : Go.Eng.Fns) 1000 60 13 (.row [1, 1, 1, 1, 1, 1]) (.row [3])) = true := by kernel_rfl
set_option maxRecDepth 100000 in
theorem r10_21 : Go.Eng.isTrue (Go.Eng.twoRun Try.prog (Go.Eng.lenS 153) (⟨40, 42, 50, 39, 75⟩ : Go.Eng.Fns) 1000 60 13 (.row [1, 1, 1, 1, 1, 1]) (.row [3, 1])) = true := by kernel_rfl
set_option maxRecDepth 100000 in
theorem r10_22 : Go.Eng.isTrue (Go.Eng.twoRun Try.prog (Go.Eng.lenS 153) (⟨40, 42, 50, 39, 75⟩ : Go.Eng.Fns) 1000 60 13 (.row [1, 1, 1, 1, 1, 1]) (.row [3, 1, 1])) = true := by kernel_rfl
set_option maxRecDepth 100000 in
theorem r10_23 : Go.Eng.isTrue (Go.Eng.twoRun Try.prog (Go.Eng.lenS 153) (⟨40, 42, 50, 39, 75⟩ : Go.Eng.Fns) 1000 60 13 (.row [1, 1, 1, 1, 1, 1]) (.row [3, 1, 1, 1])) = true := by kernel_rfl
set_option maxRecDepth 100000 in
theorem r10_24 : Go.Eng.isTrue (Go.Eng.twoRun Try.prog (Go.Eng.lenS 153) (⟨40, 42, 50, 39, 75⟩ : Go.Eng.Fns) 1000 60 13 (.row [1, 1, 1, 1, 1, 1]) (.row [3, 2])) = true := by kernel_rfl
set_option maxRecDepth 100000 in
theorem r10_25 : Go.Eng.isTrue (Go.Eng.twoRun Try.prog (Go.Eng.lenS 153) (⟨40, 42, 50, 39, 75⟩ : Go.Eng.Fns) 1000 60 13 (.row [1, 1, 1, 1, 1, 1]) (.row [3, 2, 1])) = true := by kernel_rfl
set_option maxRecDepth 100000 in
theorem r10_26 : Go.Eng.isTrue (Go.Eng.twoRun Try.prog (Go.Eng.lenS 153) (⟨40, 42, 50, 39, 75⟩ : Go.Eng.Fns) 1000 60 13 (.row [1, 1, 1, 1, 1, 1]) (.row [3, 3])) = true := by kernel_rfl
set_option maxRecDepth 100000 in
theorem r10_27 : Go.Eng.isTrue (Go.Eng.twoRun Try.prog (Go.Eng.lenS 153) (⟨40, 42, 50, 39, 75⟩ : Go.Eng.Fns) 1000 60 13 (.row [1, 1, 1, 1, 1, 1]) (.row [4])) = true := by kernel_rfl
set_option maxRecDepth 100000 in
theorem r10_28 : Go.Eng.isTrue (Go.Eng.twoRun Try.prog (Go.Eng.lenS 153) (⟨40, 42, 50, 39, 75⟩ : Go.Eng.Fns) 1000 60 13 (.row [1, 1, 1, 1, 1, 1]) (.row [4, 1])) = true := by kernel_rfl
set_option maxRecDepth 100000 in
theorem r10_29 : Go.Eng.isTrue (Go.Eng.twoRun Try.prog (Go.Eng.lenS 153) (⟨40, 42, 50, 39, 75⟩ : Go.Eng.Fns) 1000 60 13 (.row [1, 1, 1, 1, 1, 1]) (.row [4, 1, 1])) = true := by kernel_rfl
set_option maxRecDepth 100000 in
theorem r10_30 : Go.Eng.isTrue (Go.Eng.twoRun Try.prog (Go.Eng.lenS 153) (⟨40, 42, 50, 39, 75⟩ : Go.Eng.Fns) 1000 60 13 (.row [1, 1, 1, 1, 1, 1]) (.row [4, 2])) = true := by kernel_rfl
set_option maxRecDepth 100000 in
theorem r10_31 : Go.Eng.isTrue (Go.Eng.twoRun Try.prog (Go.Eng.lenS 153) (⟨40, 42, 50, 39, 75⟩ : Go.Eng.Fns) 1000 60 13 (.row [1, 1, 1, 1, 1, 1]) (.row [5])) = true := by kernel_rfl
set_option maxRecDepth 100000 in
theorem r10_32 : Go.Eng.isTrue (Go.Eng.twoRun Try.prog (Go.Eng.lenS 153) (⟨40, 42, 50, 39, 75⟩ : Go.Eng.Fns) 1000 60 13 (.row [1, 1, 1, 1, 1, 1]) (.row [5, 1])) = true := by kernel_rfl
set_option maxRecDepth 100000 in
theorem r10_33 : Go.Eng.isTrue (Go.Eng.twoRun Try.prog (Go.Eng.lenS 153) (⟨40, 42, 50, 39, 75⟩ : Go.Eng.Fns) 1000 60 13 (.row [1, 1, 1, 1, 1, 1]) (.row [6])) = true := by kernel_rfl
theorem r10 : Go.Eng.AllL (fun c => Go.Eng.isTrue (Go.Eng.twoRun Try.prog (Go.Eng.lenS 153) (⟨40, 42, 50, 39, 75⟩ : Go.Eng.Fns) 1000 60 13 (.row [1, 1, 1, 1, 1, 1]) c) = true) Go.Eng.classes := by
  unfold Go.Eng.classes
  rw [Go.Eng.shares_eq]
  exact ⟨r10_0, r10_1, r10_2, r10_3, r10_4, r10_5, r10_6, r10_7, r10_8, r10_9, r10_10, r10_11, r10_12, r10_13, r10_14, r10_15, r10_16, r10_17, r10_18, r10_19, r10_20, r10_21, r10_22, r10_23, r10_24, r10_25, r10_26, r10_27, r10_28, r10_29, r10_30, r10_31, r10_32, r10_33, trivial⟩
set_option maxRecDepth 100000 in
theorem r18_0 : Go.Eng.isTrue (Go.Eng.twoRun Try.prog (Go.Eng.lenS 153) (⟨40, 42, 50, 39, 75⟩ : Go.Eng.Fns) 1000 60 13 (.row [2, 2, 1, 1]) .nil) = true := by kernel_rfl
set_option maxRecDepth 100000 in
theorem r18_1 : Go.Eng.isTrue (Go.Eng.twoRun Try.prog (Go.Eng.lenS 153) (⟨40, 42, 50, 39, 75⟩ : Go.Eng.Fns) 1000 60 13 (.row [2, 2, 1, 1]) .zero) = true := by kernel_rfl
set_option maxRecDepth 100000 in
theorem r18_2 : Go.Eng.isTrue (Go.Eng.twoRun Try.prog (Go.Eng.lenS 153) (⟨40, 42, 50, 39, 75⟩ : Go.Eng.Fns) 1000 60 13 (.row [2, 2, 1, 1]) .no) = true := by kernel_rfl
set_option maxRecDepth 100000 in
theorem r18_3 : Go.Eng.isTrue (Go.Eng.twoRun Try.prog (Go.Eng.lenS 153) (⟨40, 42, 50, 39, 75⟩ : Go.Eng.Fns) 1000 60 13 (.row [2, 2, 1, 1]) .long) = true := by kernel_rfl
set_option maxRecDepth 100000 in
theorem r18_4 : Go.Eng.isTrue (Go.Eng.twoRun Try.prog (Go.Eng.lenS 153) (⟨40, 42, 50, 39, 75⟩ : Go.Eng.Fns) 1000 60 13 (.row [2, 2, 1, 1]) (.row [])) = true := by kernel_rfl
set_option maxRecDepth 100000 in
theorem r18_5 : Go.Eng.isTrue (Go.Eng.twoRun Try.prog (Go.Eng.lenS 153) (⟨40, 42, 50, 39, 75⟩ : Go.Eng.Fns) 1000 60 13 (.row [2, 2, 1, 1]) (.row [1])) = true := by kernel_rfl
set_option maxRecDepth 100000 in
theorem r18_6 : Go.Eng.isTrue (Go.Eng.twoRun Try.prog (Go.Eng.lenS 153) (⟨40, 42, 50, 39, 75⟩ : Go.Eng.Fns) 1000 60 13 (.row [2, 2, 1, 1]) (.row [1, 1])) = true := by kernel_rfl
set_option maxRecDepth 100000 in
theorem r18_7 : Go.Eng.isTrue (Go.Eng.twoRun Try.prog (Go.Eng.lenS 153) (⟨40, 42, 50, 39, 75⟩ : Go.Eng.Fns) 1000 60 13 (.row [2, 2, 1, 1]) (.row [1, 1, 1])) = true := by kernel_rfl
set_option maxRecDepth 100000 in
theorem r18_8 : Go.Eng.isTrue (Go.Eng.twoRun Try.prog (Go.Eng.lenS 153) (⟨40, 42, 50, 39, 75⟩ : Go.Eng.Fns) 1000 60 13 (.row [2, 2, 1, 1]) (.row [1, 1, 1, 1])) = true := by kernel_rfl
set_option maxRecDepth 100000 in
theorem r18_9 : Go.Eng.isTrue (Go.Eng.twoRun Try.prog (Go.Eng.lenS 153) (⟨40, 42, 50, 39, 75⟩ : Go.Eng.Fns) 1000 60 13 (.row [2, 2, 1, 1]) (.row [1, 1, 1, 1, 1])) = true := by kernel_rfl
set_option maxRecDepth 100000 in
theorem r18_10 : Go.Eng.isTrue (Go.Eng.twoRun Try.prog (Go.Eng.lenS 153) (⟨40, 42, 50, 39, 75⟩ : Go.Eng.Fns) 1000 60 13 (.row [2, 2, 1, 1]) (.row [1, 1, 1, 1, 1, 1])) = true := by kernel_rfl
set_option maxRecDepth 100000 in
theorem r18_11 : Go.Eng.isTrue (Go.Eng.twoRun Try.prog (Go.Eng.lenS 153) (⟨40, 42, 50, 39, 75⟩ : Go.Eng.Fns) 1000 60 13 (.row [2, 2, 1, 1]) (.row [2])) = true := by kernel_rfl
set_option maxRecDepth 100000 in
theorem r18_12 : Go.Eng.isTrue (Go.Eng.twoRun Try.prog (Go.Eng.lenS 153) (⟨40, 42, 50, 39, 75⟩ : Go.Eng.Fns) 1000 60 13 (.row [2, 2, 1, 1]) (.row [2, 1])) = true := by kernel_rfl
set_option maxRecDepth 100000 in
theorem r18_13 : Go.Eng.isTrue (Go.Eng.twoRun Try.prog (Go.Eng.lenS 153) (⟨40, 42, 50, 39, 75⟩ : Go.Eng.Fns) 1000 60 13 (.row [2, 2, 1, 1]) (.row [2, 1, 1])) = true := by kernel_rfl
set_option maxRecDepth 100000 in
theorem r18_14 : Go.Eng.isTrue (Go.Eng.twoRun Try.prog (Go.Eng.lenS 153) (⟨40, 42, 50, 39, 75⟩ : Go.Eng.Fns) 1000 60 13 (.row [2, 2, 1, 1]) (.row [2, 1, 1, 1])) = true := by kernel_rfl
set_option maxRecDepth 100000 in
theorem r18_15 : Go.Eng.isTrue (Go.Eng.twoRun Try.prog (Go.Eng.lenS 153) (⟨40, 42, 50, 39, 75⟩ : Go.Eng.Fns) 1000 60 13 (.row [2, 2, 1, 1]) (.row [2, 1, 1, 1, 1])) = true := by kernel_rfl
set_option maxRecDepth 100000 in
theorem r18_16 : Go.Eng.isTrue (Go.Eng.twoRun Try.prog (Go.Eng.lenS 153) (⟨40, 42, 50, 39, 75⟩ : Go.Eng.Fns) 1000 60 13 (.row [2, 2, 1, 1]) (.row [2, 2])) = true := by kernel_rfl
set_option maxRecDepth 100000 in
theorem r18_17 : Go.Eng.isTrue (Go.Eng.twoRun Try.prog (Go.Eng.lenS 153) (⟨40, 42, 50, 39, 75⟩ : Go.Eng.Fns) 1000 60 13 (.row [2, 2, 1, 1]) (.row [2, 2, 1])) = true := by kernel_rfl
set_option maxRecDepth 100000 in
theorem r18_18 : Go.Eng.isTrue (Go.Eng.twoRun Try.prog (Go.Eng.lenS 153) (⟨40, 42, 50, 39, 75⟩ : Go.Eng.Fns) 1000 60 13 (.row [2, 2, 1, 1]) (.row [2, 2, 1, 1])) = true := by kernel_rfl
set_option maxRecDepth 100000 in
theorem r18_19 : Go.Eng.isTrue (Go.Eng.twoRun Try.prog (Go.Eng.lenS 153) (⟨40, 42, 50, 39, 75⟩ : Go.Eng.Fns) 1000 60 13 (.row [2, 2, 1, 1]) (.row [2, 2, 2])) = true := by kernel_rfl
set_option maxRecDepth 100000 in
theorem r18_20 : Go.Eng.isTrue (Go.Eng.twoRun Try.prog (Go.Eng.lenS 153) (⟨40, 42, 50, 39, 75⟩ : Go.Eng.Fns) 1000 60 13 (.row [2, 2, 1, 1]) (.row [3])) = true := by kernel_rfl
set_option maxRecDepth 100000 in
theorem r18_21 : Go.Eng.isTrue (Go.Eng.twoRun Try.prog (Go.Eng.lenS 153) (⟨40, 42, 50, 39, 75⟩ : Go.Eng.Fns) 1000 60 13 (.row [2, 2, 1, 1]) (.row [3, 1])) = true := by kernel_rfl
set_option maxRecDepth 100000 in
theorem r18_22 : Go.Eng.isTrue (Go.Eng.twoRun Try.prog (Go.Eng.lenS 153) (⟨40, 42, 50, 39, 75⟩ : Go.Eng.Fns) 1000 60 13 (.row [2, 2, 1, 1]) (.row [3, 1, 1])) = true := by kernel_rfl
set_option maxRecDepth 100000 in
theorem r18_23 : Go.Eng.isTrue (Go.Eng.twoRun Try.prog (Go.Eng.lenS 153) (⟨40, 42, 50, 39, 75⟩ : Go.Eng.Fns) 1000 60 13 (.row [2, 2, 1, 1]) (.row [3, 1, 1, 1])) = true := by kernel_rfl
set_option maxRecDepth 100000 in
theorem r18_24 : Go.Eng.isTrue (Go.Eng.twoRun Try.prog (Go.Eng.lenS 153) (⟨40, 42, 50, 39, 75⟩ : Go.Eng.Fns) 1000 60 13 (.row [2, 2, 1, 1]) (.row [3, 2])) = true := by kernel_rfl
set_option maxRecDepth 100000 in
theorem r18_25 : Go.Eng.isTrue (Go.Eng.twoRun Try.prog (Go.Eng.lenS 153) (⟨40, 42, 50, 39, 75⟩ : Go.Eng.Fns) 1000 60 13 (.row [2, 2, 1, 1]) (.row [3, 2, 1])) = true := by kernel_rfl
set_option maxRecDepth 100000 in
theorem r18_26 : Go.Eng.isTrue (Go.Eng.twoRun Try.prog (Go.Eng.lenS 153) (⟨40, 42, 50, 39, 75⟩ : Go.Eng.Fns) 1000 60 13 (.row [2, 2, 1, 1]) (.row [3, 3])) = true := by kernel_rfl
set_option maxRecDepth 100000 in
theorem r18_27 : Go.Eng.isTrue (Go.Eng.twoRun Try.prog (Go.Eng.lenS 153) (⟨40, 42, 50, 39, 75⟩ : Go.Eng.Fns) 1000 60 13 (.row [2, 2, 1, 1]) (.row [4])) = true := by kernel_rfl
set_option maxRecDepth 100000 in
theorem r18_28 : Go.Eng.isTrue (Go.Eng.twoRun Try.prog (Go.Eng.lenS 153) (⟨40, 42, 50, 39, 75⟩ : Go.Eng.Fns) 1000 60 13 (.row [2, 2, 1, 1]) (.row [4, 1])) = true := by kernel_rfl
set_option maxRecDepth 100000 in
theorem r18_29 : Go.Eng.isTrue (Go.Eng.twoRun Try.prog (Go.Eng.lenS 153) (⟨40, 42, 50, 39, 75⟩ : Go.Eng.Fns) 1000 60 13 (.row [2, 2, 1, 1]) (.row [4, 1, 1])) = true := by kernel_rfl
set_option maxRecDepth 100000 in
theorem r18_30 : Go.Eng.isTrue (Go.Eng.twoRun Try.prog (Go.Eng.lenS 153) (⟨40, 42, 50, 39, 75⟩ : Go.Eng.Fns) 1000 60 13 (.row [2, 2, 1, 1]) (.row [4, 2])) = true := by kernel_rfl
set_option maxRecDepth 100000 in
theorem r18_31 : Go.Eng.isTrue (Go.Eng.twoRun Try.prog (Go.Eng.lenS 153) (⟨40, 42, 50, 39, 75⟩ : Go.Eng.Fns) 1000 60 13 (.row [2, 2, 1, 1]) (.row [5])) = true := by kernel_rfl
set_option maxRecDepth 100000 in
theorem r18_32 : Go.Eng.isTrue (Go.Eng.twoRun Try.prog (Go.Eng.lenS 153) (⟨40, 42, 50, 39, 75⟩ : Go.Eng.Fns) 1000 60 13 (.row [2, 2, 1, 1]) (.row [5, 1])) = true := by kernel_rfl
set_option maxRecDepth 100000 in
theorem r18_33 : Go.Eng.isTrue (Go.Eng.twoRun Try.prog (Go.Eng.lenS 153) (⟨40, 42, 50, 39, 75⟩ : Go.Eng.Fns) 1000 60 13 (.row [2, 2, 1, 1]) (.row [6])) = true := by kernel_rfl
theorem r18 : Go.Eng.AllL (fun c => Go.Eng.isTrue (Go.Eng.twoRun Try.prog (Go.Eng.lenS 153) (⟨40, 42, 50, 39, 75⟩ : Go.Eng.Fns) 1000 60 13 (.row [2, 2, 1, 1]) c) = true) Go.Eng.classes := by
  unfold Go.Eng.classes
  rw [Go.Eng.shares_eq]
  exact ⟨r18_0, r18_1, r18_2, r18_3, r18_4, r18_5, r18_6, r18_7, r18_8, r18_9, r18_10, r18_11, r18_12, r18_13, r18_14, r18_15, r18_16, r18_17, r18_18, r18_19, r18_20, r18_21, r18_22, r18_23, r18_24, r18_25, r18_26, r18_27, r18_28, r18_29, r18_30, r18_31, r18_32, r18_33, trivial⟩
set_option maxRecDepth 100000 in
theorem r26_0 : Go.Eng.isTrue (Go.Eng.twoRun Try.prog (Go.Eng.lenS 153) (⟨40, 42, 50, 39, 75⟩ : Go.Eng.Fns) 1000 60 13 (.row [3, 3]) .nil) = true := by kernel_rfl
set_option maxRecDepth 100000 in
theorem r26_1 : Go.Eng.isTrue (Go.Eng.twoRun Try.prog (Go.Eng.lenS 153) (⟨40, 42, 50, 39, 75⟩ : Go.Eng.Fns) 1000 60 13 (.row [3, 3]) .zero) = true := by kernel_rfl
set_option maxRecDepth 100000 in
theorem r26_2 : Go.Eng.isTrue (Go.Eng.twoRun Try.prog (Go.Eng.lenS 153) (⟨40, 42, 50, 39, 75⟩ : Go.Eng.Fns) 1000 60 13 (.row [3, 3]) .no) = true := by kernel_rfl
set_option maxRecDepth 100000 in
theorem r26_3 : Go.Eng.isTrue (Go.Eng.twoRun Try.prog (Go.Eng.lenS 153) (⟨40, 42, 50, 39, 75⟩ : Go.Eng.Fns) 1000 60 13 (.row [3, 3]) .long) = true := by kernel_rfl
set_option maxRecDepth 100000 in
theorem r26_4 : Go.Eng.isTrue (Go.Eng.twoRun Try.prog (Go.Eng.lenS 153) (⟨40, 42, 50, 39, 75⟩ : Go.Eng.Fns) 1000 60 13 (.row [3, 3]) (.row [])) = true := by kernel_rfl
set_option maxRecDepth 100000 in
theorem r26_5 : Go.Eng.isTrue (Go.Eng.twoRun Try.prog (Go.Eng.lenS 153) (⟨40, 42, 50, 39, 75⟩ : Go.Eng.Fns) 1000 60 13 (.row [3, 3]) (.row [1])) = true := by kernel_rfl
set_option maxRecDepth 100000 in
theorem r26_6 : Go.Eng.isTrue (Go.Eng.twoRun Try.prog (Go.Eng.lenS 153) (⟨40, 42, 50, 39, 75⟩ : Go.Eng.Fns) 1000 60 13 (.row [3, 3]) (.row [1, 1])) = true := by kernel_rfl
set_option maxRecDepth 100000 in
theorem r26_7 : Go.Eng.isTrue (Go.Eng.twoRun Try.prog (Go.Eng.lenS 153) (⟨40, 42, 50, 39, 75⟩ : Go.Eng.Fns) 1000 60 13 (.row [3, 3]) (.row [1, 1, 1])) = true := by kernel_rfl
set_option maxRecDepth 100000 in
theorem r26_8 : Go.Eng.isTrue (Go.Eng.twoRun Try.prog (Go.Eng.lenS 153) (⟨40, 42, 50, 39, 75⟩ : Go.Eng.Fns) 1000 60 13 (.row [3, 3]) (.row [1, 1, 1, 1])) = true := by kernel_rfl
set_option maxRecDepth 100000 in
theorem r26_9 : Go.Eng.isTrue (Go.Eng.twoRun Try.prog (Go.Eng.lenS 153) (⟨40, 42, 50, 39, 75⟩ : Go.Eng.Fns) 1000 60 13 (.row [3, 3]) (.row [1, 1, 1, 1, 1])) = true := by kernel_rfl
set_option maxRecDepth 100000 in
theorem r26_10 : Go.Eng.isTrue (Go.Eng.twoRun Try.prog (Go.Eng.lenS 153) (⟨40, 42, 50, 39, 75⟩ : Go.Eng.Fns) 1000 60 13 (.row [3, 3]) (.row [1, 1, 1, 1, 1, 1])) = true := by kernel_rfl
set_option maxRecDepth 100000 in
theorem r26_11 : Go.Eng.isTrue (Go.Eng.twoRun Try.prog (Go.Eng.lenS 153) (⟨40, 42, 50, 39, 75⟩ : Go.Eng.Fns) 1000 60 13 (.row [3, 3]) (.row [2])) = true := by kernel_rfl
set_option maxRecDepth 100000 in
theorem r26_12 : Go.Eng.isTrue (Go.Eng.twoRun Try.prog (Go.Eng.lenS 153) (⟨40, 42, 50, 39, 75⟩ : Go.Eng.Fns) 1000 60 13 (.row [3, 3]) (.row [2, 1])) = true := by kernel_rfl
set_option maxRecDepth 100000 in
theorem r26_13 : Go.Eng.isTrue (Go.Eng.twoRun Try.prog (Go.Eng.lenS 153) (⟨40, 42, 50, 39, 75⟩ : Go.Eng.Fns) 1000 60 13 (.row [3, 3]) (.row [2, 1, 1])) = true := by kernel_rfl
set_option maxRecDepth 100000 in
theorem r26_14 : Go.Eng.isTrue (Go.Eng.twoRun Try.prog (Go.Eng.lenS 153) (⟨40, 42, 50, 39, 75⟩ : Go.Eng.Fns) 1000 60 13 (.row [3, 3]) (.row [2, 1, 1, 1])) = true := by kernel_rfl
set_option maxRecDepth 100000 in
theorem r26_15 : Go.Eng.isTrue (Go.Eng.twoRun Try.prog (Go.Eng.lenS 153) (⟨40, 42, 50, 39, 75⟩ : Go.Eng.Fns) 1000 60 13 (.row [3, 3]) (.row [2, 1, 1, 1, 1])) = true := by kernel_rfl
set_option maxRecDepth 100000 in
theorem r26_16 : Go.Eng.isTrue (Go.Eng.twoRun Try.prog (Go.Eng.lenS 153) (⟨40, 42, 50, 39, 75⟩ : Go.Eng.Fns) 1000 60 13 (.row [3, 3]) (.row [2, 2])) = true := by kernel_rfl
set_option maxRecDepth 100000 in
theorem r26_17 : Go.Eng.isTrue (Go.Eng.twoRun Try.prog (Go.Eng.lenS 153) (⟨40, 42, 50, 39, 75⟩ : Go.Eng.Fns) 1000 60 13 (.row [3, 3]) (.row [2, 2, 1])) = true := by kernel_rfl
set_option maxRecDepth 100000 in
theorem r26_18 : Go.Eng.isTrue (Go.Eng.twoRun Try.prog (Go.Eng.lenS 153) (⟨40, 42, 50, 39, 75⟩ : Go.Eng.Fns) 1000 60 13 (.row [3, 3]) (.row [2, 2, 1, 1])) = true := by kernel_rfl
set_option maxRecDepth 100000 in
theorem r26_19 : Go.Eng.isTrue (Go.Eng.twoRun Try.prog (Go.Eng.lenS 153) (⟨40, 42, 50, 39, 75⟩ : Go.Eng.Fns) 1000 60 13 (.row [3, 3]) (.row [2, 2, 2])) = true := by kernel_rfl
set_option maxRecDepth 100000 in
theorem r26_20 : Go.Eng.isTrue (Go.Eng.twoRun Try.prog (Go.Eng.lenS 153) (⟨40, 42, 50, 39, 75⟩ : Go.Eng.Fns) 1000 60 13 (.row [3, 3]) (.row [3])) = true := by kernel_rfl
set_option maxRecDepth 100000 in
theorem r26_21 : Go.Eng.isTrue (Go.Eng.twoRun Try.prog (Go.Eng.lenS 153) (⟨40, 42, 50, 39, 75⟩ : Go.Eng.Fns) 1000 60 13 (.row [3, 3]) (.row [3, 1])) = true := by kernel_rfl
set_option maxRecDepth 100000 in
theorem r26_22 : Go.Eng.isTrue (Go.Eng.twoRun Try.prog (Go.Eng.lenS 153) (⟨40, 42, 50, 39, 75⟩ : Go.Eng.Fns) 1000 60 13 (.row [3, 3]) (.row [3, 1, 1])) = true := by kernel_rfl
set_option maxRecDepth 100000 in
theorem r26_23 : Go.Eng.isTrue (Go.Eng.twoRun Try.prog (Go.Eng.lenS 153) (⟨40, 42, 50, 39, 75⟩ : Go.Eng.Fns) 1000 60 13 (.row [3, 3]) (.row [3, 1, 1, 1])) = true := by kernel_rfl
set_option maxRecDepth 100000 in
theorem r26_24 : Go.Eng.isTrue (Go.Eng.twoRun Try.prog (Go.Eng.lenS 153) (⟨40, 42, 50, 39, 75⟩ : Go.Eng.Fns) 1000 60 13 (.row [3, 3]) (.row [3, 2])) = true := by kernel_rfl
set_option maxRecDepth 100000 in
theorem r26_25 : Go.Eng.isTrue (Go.Eng.twoRun Try.prog (Go.Eng.lenS 153) (⟨40, 42, 50, 39, 75⟩ : Go.Eng.Fns) 1000 60 13 (.row [3, 3]) (.row [3, 2, 1])) = true := by kernel_rfl
set_option maxRecDepth 100000 in
theorem r26_26 : Go.Eng.isTrue (Go.Eng.twoRun Try.prog (Go.Eng.lenS 153) (⟨40, 42, 50, 39, 75⟩ : Go.Eng.Fns) 1000 60 13 (.row [3, 3]) (.row [3, 3])) = true := by kernel_rfl
set_option maxRecDepth 100000 in
theorem r26_27 : Go.Eng.isTrue (Go.Eng.twoRun Try.prog (Go.Eng.lenS 153) (⟨40, 42, 50, 39, 75⟩ : Go.Eng.Fns) 1000 60 13 (.row [3, 3]) (.row [4])) = true := by kernel_rfl
set_option maxRecDepth 100000 in
theorem r26_28 : Go.Eng.isTrue (Go.Eng.twoRun Try.prog (Go.Eng.lenS 153) (⟨40, 42, 50, 39, 75⟩ : Go.Eng.Fns) 1000 60 13 (.row [3, 3]) (.row [4, 1])) = true := by kernel_rfl
set_option maxRecDepth 100000 in
theorem r26_29 : Go.Eng.isTrue (Go.Eng.twoRun Try.prog (Go.Eng.lenS 153) (⟨40, 42, 50, 39, 75⟩ : Go.Eng.Fns) 1000 60 13 (.row [3, 3]) (.row [4, 1, 1])) = true := by kernel_rfl
set_option maxRecDepth 100000 in
theorem r26_30 : Go.Eng.isTrue (Go.Eng.twoRun Try.prog (Go.Eng.lenS 153) (⟨40, 42, 50, 39, 75⟩ : Go.Eng.Fns) 1000 60 13 (.row [3, 3]) (.row [4, 2])) = true := by kernel_rfl
set_option maxRecDepth 100000 in
theorem r26_31 : Go.Eng.isTrue (Go.Eng.twoRun Try.prog (Go.Eng.lenS 153) (⟨40, 42, 50, 39, 75⟩ : Go.Eng.Fns) 1000 60 13 (.row [3, 3]) (.row [5])) = true := by kernel_rfl
set_option maxRecDepth 100000 in
theorem r26_32 : Go.Eng.isTrue (Go.Eng.twoRun Try.prog (Go.Eng.lenS 153) (⟨40, 42, 50, 39, 75⟩ : Go.Eng.Fns) 1000 60 13 (.row [3, 3]) (.row [5, 1])) = true := by kernel_rfl
set_option maxRecDepth 100000 in
theorem r26_33 : Go.Eng.isTrue (Go.Eng.twoRun Try.prog (Go.Eng.lenS 153) (⟨40, 42, 50, 39, 75⟩ : Go.Eng.Fns) 1000 60 13 (.row [3, 3]) (.row [6])) = true := by kernel_rfl
theorem r26 : Go.Eng.AllL (fun c => Go.Eng.isTrue (Go.Eng.twoRun Try.prog (Go.Eng.lenS 153) (⟨40, 42, 50, 39, 75⟩ : Go.Eng.Fns) 1000 60 13 (.row [3, 3]) c) = true) Go.Eng.classes := by
  unfold Go.Eng.classes
  rw [Go.Eng.shares_eq]
  exact ⟨r26_0, r26_1, r26_2, r26_3, r26_4, r26_5, r26_6, r26_7, r26_8, r26_9, r26_10, r26_11, r26_12, r26_13, r26_14, r26_15, r26_16, r26_17, r26_18, r26_19, r26_20, r26_21, r26_22, r26_23, r26_24, r26_25, r26_26, r26_27, r26_28, r26_29, r26_30, r26_31, r26_32, r26_33, trivial⟩
end Go.Proofs.Ytnablcacdfebfac.fnExactShareJoinRuns
