/- The runs of FnExactShareJoin, part 0. -/
import Derived.Test.YtnablcacdfebfacEngZa
import Derived.Test.YtnablcacdfebfacProg
namespace Go.Proofs.Ytnablcacdfebfac.fnExactShareJoinRuns
set_option linter.unusedVariables false
set_option linter.unusedSectionVars false
set_option linter.unusedSimpArgs false
set_option maxRecDepth 100000 in
theorem r0_0 : Go.Eng.isTrue (Go.Eng.twoRun Try.prog (Go.Eng.lenS 153) (⟨40, 42, 50, 39, 75⟩ : Go.Eng.Fns) 1000 60 13 .nil .nil) = true := by kernel_rfl
set_option maxRecDepth 100000 in
theorem r0_1 : Go.Eng.isTrue (Go.Eng.twoRun Try.prog (Go.Eng.lenS 153) (⟨40, 42, 50, 39, 75⟩ : Go.Eng.Fns) 1000 60 13 .nil .zero) = true := by kernel_rfl
set_option maxRecDepth 100000 in
theorem r0_2 : Go.Eng.isTrue (Go.Eng.twoRun Try.prog (Go.Eng.lenS 153) (⟨40, 42, 50, 39, 75⟩ : Go.Eng.Fns) 1000 60 13 .nil .no) = true := by kernel_rfl
set_option maxRecDepth 100000 in
theorem r0_3 : Go.Eng.isTrue (Go.Eng.twoRun Try.prog (Go.Eng.lenS 153) (⟨40, 42, 50, 39, 75⟩ : Go.Eng.Fns) 1000 60 13 .nil .long) = true := by kernel_rfl
set_option maxRecDepth 100000 in
theorem r0_4 : Go.Eng.isTrue (Go.Eng.twoRun Try.prog (Go.Eng.lenS 153) (⟨40, 42, 50, 39, 75⟩ : Go.Eng.Fns) 1000 60 13 .nil (.row [])) = true := by kernel_rfl
set_option maxRecDepth 100000 in
theorem r0_5 : Go.Eng.isTrue (Go.Eng.twoRun Try.prog (Go.Eng.lenS 153) (⟨40, 42, 50, 39, 75⟩ : Go.Eng.Fns) 1000 60 13 .nil (.row [1])) = true := by kernel_rfl
set_option maxRecDepth 100000 in
theorem r0_6 : Go.Eng.isTrue (Go.Eng.twoRun Try.prog (Go.Eng.lenS 153) (⟨40, 42, 50, 39, 75⟩ : Go.Eng.Fns) 1000 60 13 .nil (.row [1, 1])) = true := by kernel_rfl
set_option maxRecDepth 100000 in
theorem r0_7 : Go.Eng.isTrue (Go.Eng.twoRun Try.prog (Go.Eng.lenS 153) (⟨40, 42, 50, 39, 75⟩ : Go.Eng.Fns) 1000 60 13 .nil (.row [1, 1, 1])) = true := by kernel_rfl
set_option maxRecDepth 100000 in
theorem r0_8 : Go.Eng.isTrue (Go.Eng.twoRun Try.prog (Go.Eng.lenS 153) (⟨40, 42, 50, 39, 75⟩ : Go.Eng.Fns) 1000 60 13 .nil (.row [1, 1, 1, 1])) = true := by kernel_rfl
set_option maxRecDepth 100000 in
theorem r0_9 : Go.Eng.isTrue (Go.Eng.twoRun Try.prog (Go.Eng.lenS 153) (⟨40, 42, 50, 39, 75⟩ : Go.Eng.Fns) 1000 60 13 .nil (.row [1, 1, 1, 1, 1])) = true := by kernel_rfl
set_option maxRecDepth 100000 in
theorem r0_10 : Go.Eng.isTrue (Go.Eng.twoRun Try.prog (Go.Eng.lenS 153) (⟨40, 42, 50, 39, 75⟩ : Go.Eng.Fns) 1000 60 13 .nil (.row [1, 1, 1, 1, 1, 1])) = true := by kernel_rfl
set_option maxRecDepth 100000 in
theorem r0_11 : Go.Eng.isTrue (Go.Eng.twoRun Try.prog (Go.Eng.lenS 153) (⟨40, 42, 50, 39, 75⟩ : Go.Eng.Fns) 1000 60 13 .nil (.row [2])) = true := by kernel_rfl
set_option maxRecDepth 100000 in
theorem r0_12 : Go.Eng.isTrue (Go.Eng.twoRun Try.prog (Go.Eng.lenS 153) (⟨40, 42, 50, 39, 75⟩ : Go.Eng.Fns) 1000 60 13 .nil (.row [2, 1])) = true := by kernel_rfl
set_option maxRecDepth 100000 in
theorem r0_13 : Go.Eng.isTrue (Go.Eng.twoRun Try.prog (Go.Eng.lenS 153) (⟨40, 42, 50, 39, 75⟩ : Go.Eng.Fns) 1000 60 13 .nil (.row [2, 1, 1])) = true := by kernel_rfl
set_option maxRecDepth 100000 in
theorem r0_14 : Go.Eng.isTrue (Go.Eng.twoRun Try.prog (Go.Eng.lenS 153) (⟨40, 42, 50, 39, 75⟩ : Go.Eng.Fns) 1000 60 13 .nil (.row [2, 1, 1, 1])) = true := by kernel_rfl
set_option maxRecDepth 100000 in
theorem r0_15 : Go.Eng.isTrue (Go.Eng.twoRun Try.prog (Go.Eng.lenS 153) (⟨40, 42, 50, 39, 75⟩ : Go.Eng.Fns) 1000 60 13 .nil (.row [2, 1, 1, 1, 1])) = true := by kernel_rfl
set_option maxRecDepth 100000 in
theorem r0_16 : Go.Eng.isTrue (Go.Eng.twoRun Try.prog (Go.Eng.lenS 153) (⟨40, 42, 50, 39, 75⟩ : Go.Eng.Fns) 1000 60 13 .nil (.row [2, 2])) = true := by kernel_rfl
set_option maxRecDepth 100000 in
theorem r0_17 : Go.Eng.isTrue (Go.Eng.twoRun Try.prog (Go.Eng.lenS 153) (⟨40, 42, 50, 39, 75⟩ : Go.Eng.Fns) 1000 60 13 .nil (.row [2, 2, 1])) = true := by kernel_rfl
set_option maxRecDepth 100000 in
theorem r0_18 : Go.Eng.isTrue (Go.Eng.twoRun Try.prog (Go.Eng.lenS 153) (⟨40, 42, 50, 39, 75⟩ : Go.Eng.Fns) 1000 60 13 .nil (.row [2, 2, 1, 1])) = true := by kernel_rfl
set_option maxRecDepth 100000 in
theorem r0_19 : Go.Eng.isTrue (Go.Eng.twoRun Try.prog (Go.Eng.lenS 153) (⟨40, 42, 50, 39, 75⟩ : Go.Eng.Fns) 1000 60 13 .nil (.row [2, 2, 2])) = true := by kernel_rfl
set_option maxRecDepth 100000 in
theorem r0_20 : Go.Eng.isTrue (Go.Eng.twoRun Try.prog (Go.Eng.lenS 153) (⟨40, 42, 50, 39, 75⟩ : Go.Eng.Fns) 1000 60 13 .nil (.row [3])) = true := by kernel_rfl
set_option maxRecDepth 100000 in
theorem r0_21 : Go.Eng.isTrue (Go.Eng.twoRun Try.prog (Go.Eng.lenS 153) (⟨40, 42, 50, 39, 75⟩ : Go.Eng.Fns) 1000 60 13 .nil (.row [3, 1])) = true := by kernel_rfl
set_option maxRecDepth 100000 in
theorem r0_22 : Go.Eng.isTrue (Go.Eng.twoRun Try.prog (Go.Eng.lenS 153) (⟨40, 42, 50, 39, 75⟩ : Go.Eng.Fns) 1000 60 13 .nil (.row [3, 1, 1])) = true := by kernel_rfl
set_option maxRecDepth 100000 in
theorem r0_23 : Go.Eng.isTrue (Go.Eng.twoRun Try.prog (Go.Eng.lenS 153) (⟨40, 42, 50, 39, 75⟩ : Go.Eng.Fns) 1000 60 13 .nil (.row [3, 1, 1, 1])) = true := by kernel_rfl
set_option maxRecDepth 100000 in
theorem r0_24 : Go.Eng.isTrue (Go.Eng.twoRun Try.prog (Go.Eng.lenS 153) (⟨40, 42, 50, 39, 75⟩ : Go.Eng.Fns) 1000 60 13 .nil (.row [3, 2])) = true := by kernel_rfl
set_option maxRecDepth 100000 in
theorem r0_25 : Go.Eng.isTrue (Go.Eng.twoRun Try.prog (Go.Eng.lenS 153) (⟨40, 42, 50, 39, 75⟩ : Go.Eng.Fns) 1000 60 13 .nil (.row [3, 2, 1])) = true := by kernel_rfl
set_option maxRecDepth 100000 in
theorem r0_26 : Go.Eng.isTrue (Go.Eng.twoRun Try.prog (Go.Eng.lenS 153) (⟨40, 42, 50, 39, 75⟩ : Go.Eng.Fns) 1000 60 13 .nil (.row [3, 3])) = true := by kernel_rfl
set_option maxRecDepth 100000 in
theorem r0_27 : Go.Eng.isTrue (Go.Eng.twoRun Try.prog (Go.Eng.lenS 153) (⟨40, 42, 50, 39, 75⟩ : Go.Eng.Fns) 1000 60 13 .nil (.row [4])) = true := by kernel_rfl
set_option maxRecDepth 100000 in
theorem r0_28 : Go.Eng.isTrue (Go.Eng.twoRun Try.prog (Go.Eng.lenS 153) (⟨40, 42, 50, 39, 75⟩ : Go.Eng.Fns) 1000 60 13 .nil (.row [4, 1])) = true := by kernel_rfl
set_option maxRecDepth 100000 in
theorem r0_29 : Go.Eng.isTrue (Go.Eng.twoRun Try.prog (Go.Eng.lenS 153) (⟨40, 42, 50, 39, 75⟩ : Go.Eng.Fns) 1000 60 13 .nil (.row [4, 1, 1])) = true := by kernel_rfl
set_option maxRecDepth 100000 in
theorem r0_30 : Go.Eng.isTrue (Go.Eng.twoRun Try.prog (Go.Eng.lenS 153) (⟨40, 42, 50, 39, 75⟩ : Go.Eng.Fns) 1000 60 13 .nil (.row [4, 2])) = true := by kernel_rfl
set_option maxRecDepth 100000 in
theorem r0_31 : Go.Eng.isTrue (Go.Eng.twoRun Try.prog (Go.Eng.lenS 153) (⟨40, 42, 50, 39, 75⟩ : Go.Eng.Fns) 1000 60 13 .nil (.row [5])) = true := by kernel_rfl
set_option maxRecDepth 100000 in
theorem r0_32 : Go.Eng.isTrue (Go.Eng.twoRun Try.prog (Go.Eng.lenS 153) (⟨40, 42, 50, 39, 75⟩ : Go.Eng.Fns) 1000 60 13 .nil (.row [5, 1])) = true := by kernel_rfl
set_option maxRecDepth 100000 in
theorem r0_33 : Go.Eng.isTrue (Go.Eng.twoRun Try.prog (Go.Eng.lenS 153) (⟨40, 42, 50, 39, 75⟩ : Go.Eng.Fns) 1000 60 13 .nil (.row [6])) = true := by kernel_rfl
theorem r0 : Go.Eng.AllL (fun c => Go.Eng.isTrue (Go.Eng.twoRun Try.prog (Go.Eng.lenS 153) (⟨40, 42, 50, 39, 75⟩ : Go.Eng.Fns) 1000 60 13 .nil c) = true) Go.Eng.classes := by
  unfold Go.Eng.classes
  rw [Go.Eng.shares_eq]
  exact ⟨r0_0, r0_1, r0_2, r0_3, r0_4, r0_5, r0_6, r0_7, r0_8, r0_9, r0_10, r0_11, r0_12, r0_13, r0_14, r0_15, r0_16, r0_17, r0_18, r0_19, r0_20, r0_21, r0_22, r0_23, r0_24, r0_25, r0_26, r0_27, r0_28, r0_29, r0_30, r0_31, r0_32, r0_33, trivial⟩
set_option maxRecDepth 100000 in
theorem r8_0 : Go.Eng.isTrue (Go.Eng.twoRun Try.prog (Go.Eng.lenS 153) (⟨40, 42, 50, 39, 75⟩ : Go.Eng.Fns) 1000 60 13 (.row [1, 1, 1, 1]) .nil) = true := by kernel_rfl
set_option maxRecDepth 100000 in
theorem r8_1 : Go.Eng.isTrue (Go.Eng.twoRun Try.prog (Go.Eng.lenS 153) (⟨40, 42, 50, 39, 75⟩ : Go.Eng.Fns) 1000 60 13 (.row [1, 1, 1, 1]) .zero) = true := by kernel_rfl
set_option maxRecDepth 100000 in
theorem r8_2 : Go.Eng.isTrue (Go.Eng.twoRun Try.prog (Go.Eng.lenS 153) (⟨40, 42, 50, 39, 75⟩ : Go.Eng.Fns) 1000 60 13 (.row [1, 1, 1, 1]) .no) = true := by kernel_rfl
set_option maxRecDepth 100000 in
theorem r8_3 : Go.Eng.isTrue (Go.Eng.twoRun Try.prog (Go.Eng.lenS 153) (⟨40, 42, 50, 39, 75⟩ : Go.Eng.Fns) 1000 60 13 (.row [1, 1, 1, 1]) .long) = true := by kernel_rfl
set_option maxRecDepth 100000 in
theorem r8_4 : Go.Eng.isTrue (Go.Eng.twoRun Try.prog (Go.Eng.lenS 153) (⟨40, 42, 50, 39, 75⟩ : Go.Eng.Fns) 1000 60 13 (.row [1, 1, 1, 1]) (.row [])) = true := by kernel_rfl
set_option maxRecDepth 100000 in
theorem r8_5 : Go.Eng.isTrue (Go.Eng.twoRun Try.prog (Go.Eng.lenS 153) (⟨40, 42, 50, 39, 75⟩ : Go.Eng.Fns) 1000 60 13 (.row [1, 1, 1, 1]) (.row [1])) = true := by kernel_rfl
set_option maxRecDepth 100000 in
theorem r8_6 : Go.Eng.isTrue (Go.Eng.twoRun Try.prog (Go.Eng.lenS 153) (⟨40, 42, 50, 39, 75⟩ : Go.Eng.Fns) 1000 60 13 (.row [1, 1, 1, 1]) (.row [1, 1])) = true := by kernel_rfl
set_option maxRecDepth 100000 in
theorem r8_7 : Go.Eng.isTrue (Go.Eng.twoRun Try.prog (Go.Eng.lenS 153) (⟨40, 42, 50, 39, 75⟩ : Go.Eng.Fns) 1000 60 13 (.row [1, 1, 1, 1]) (.row [1, 1, 1])) = true := by kernel_rfl
set_option maxRecDepth 100000 in
theorem r8_8 : Go.Eng.isTrue (Go.Eng.twoRun Try.prog (Go.Eng.lenS 153) (⟨40, 42, 50, 39, 75⟩ : Go.Eng.Fns) 1000 60 13 (.row [1, 1, 1, 1]) (.row [1, 1, 1, 1])) = true := by kernel_rfl
set_option maxRecDepth 100000 in
theorem r8_9 : Go.Eng.isTrue (Go.Eng.twoRun Try.prog (Go.Eng.lenS 153) (⟨40, 42, 50, 39, 75⟩ : Go.Eng.Fns) 1000 60 13 (.row [1, 1, 1, 1]) (.row [1, 1, 1, 1, 1])) = true := by kernel_rfl
set_option maxRecDepth 100000 in
theorem r8_10 : Go.Eng.isTrue (Go.Eng.twoRun Try.prog (Go.Eng.lenS 153) (⟨40, 42, 50, 39, 75⟩ : Go.Eng.Fns) 1000 60 13 (.row [1, 1, 1, 1]) (.row [1, 1, 1, 1, 1, 1])) = true := by kernel_rfl
set_option maxRecDepth 100000 in
theorem r8_11 : Go.Eng.isTrue (Go.Eng.twoRun Try.prog (Go.Eng.lenS 153) (⟨40, 42, 50, 39, 75⟩ : Go.Eng.Fns) 1000 60 13 (.row [1, 1, 1, 1]) (.row [2])) = true := by kernel_rfl
set_option maxRecDepth 100000 in
theorem r8_12 : Go.Eng.isTrue (Go.Eng.twoRun Try.prog (Go.Eng.lenS 153) (⟨40, 42, 50, 39, 75⟩ : Go.Eng.Fns) 1000 60 13 (.row [1, 1, 1, 1]) (.row [2, 1])) = true := by kernel_rfl
set_option maxRecDepth 100000 in
theorem r8_13 : Go.Eng.isTrue (Go.Eng.twoRun Try.prog (Go.Eng.lenS 153) (⟨40, 42, 50, 39, 75⟩ : Go.Eng.Fns) 1000 60 13 (.row [1, 1, 1, 1]) (.row [2, 1, 1])) = true := by kernel_rfl
set_option maxRecDepth 100000 in
theorem r8_14 : Go.Eng.isTrue (Go.Eng.twoRun Try.prog (Go.Eng.lenS 153) (⟨40, 42, 50, 39, 75⟩ : Go.Eng.Fns) 1000 60 13 (.row [1, 1, 1, 1]) (.row [2, 1, 1, 1])) = true := by kernel_rfl
set_option maxRecDepth 100000 in
theorem r8_15 : Go.Eng.isTrue (Go.Eng.twoRun Try.prog (Go.Eng.lenS 153) (⟨40, 42, 50, 39, 75⟩ : Go.Eng.Fns) 1000 60 13 (.row [1, 1, 1, 1]) (.row [2, 1, 1, 1, 1])) = true := by kernel_rfl
set_option maxRecDepth 100000 in
theorem r8_16 : Go.Eng.isTrue (Go.Eng.twoRun Try.prog (Go.Eng.lenS 153) (⟨40, 42, 50, 39, 75⟩ : Go.Eng.Fns) 1000 60 13 (.row [1, 1, 1, 1]) (.row [2, 2])) = true := by kernel_rfl
set_option maxRecDepth 100000 in
theorem r8_17 : Go.Eng.isTrue (Go.Eng.twoRun Try.prog (Go.Eng.lenS 153) (⟨40, 42, 50, 39, 75⟩ : Go.Eng.Fns) 1000 60 13 (.row [1, 1, 1, 1]) (.row [2, 2, 1])) = true := by kernel_rfl
set_option maxRecDepth 100000 in
theorem r8_18 : Go.Eng.isTrue (Go.Eng.twoRun Try.prog (Go.Eng.lenS 153) (⟨40, 42, 50, 39, 75⟩ : Go.Eng.Fns) 1000 60 13 (.row [1, 1, 1, 1]) (.row [2, 2, 1, 1])) = true := by kernel_rfl
set_option maxRecDepth 100000 in
theorem r8_19 : Go.Eng.isTrue (Go.Eng.twoRun Try.prog (Go.Eng.lenS 153) (⟨40, 42, 50, 39, 75⟩ : Go.Eng.Fns) 1000 60 13 (.row [1, 1, 1, 1]) (.row [2, 2, 2])) = true := by kernel_rfl
set_option maxRecDepth 100000 in
theorem r8_20 : Go.Eng.isTrue (Go.Eng.twoRun Try.prog (Go.Eng.lenS 153) (⟨40, 42, 50, 39, 75⟩ : Go.Eng.Fns) 1000 60 13 (.row [1, 1, 1, 1]) (.row [3])) = true := by kernel_rfl
set_option maxRecDepth 100000 in
theorem r8_21 : Go.Eng.isTrue (Go.Eng.twoRun Try.prog (Go.Eng.lenS 153) (⟨40, 42, 50, 39, 75⟩ : Go.Eng.Fns) 1000 60 13 (.row [1, 1, 1, 1]) (.row [3, 1])) = true := by kernel_rfl
set_option maxRecDepth 100000 in
theorem r8_22 : Go.Eng.isTrue (Go.Eng.twoRun Try.prog (Go.Eng.lenS 153) (⟨40, 42, 50, 39, 75⟩ : Go.Eng.Fns) 1000 60 13 (.row [1, 1, 1, 1]) (.row [3, 1, 1])) = true := by kernel_rfl
set_option maxRecDepth 100000 in
theorem r8_23 : Go.Eng.isTrue (Go.Eng.twoRun Try.prog (Go.Eng.lenS 153) (⟨40, 42, 50, 39, 75⟩ : Go.Eng.Fns) 1000 60 13 (.row [1, 1, 1, 1]) (.row [3, 1, 1, 1])) = true := by kernel_rfl
set_option maxRecDepth 100000 in
theorem r8_24 : Go.Eng.isTrue (Go.Eng.twoRun Try.prog (Go.Eng.lenS 153) (⟨40, 42, 50, 39, 75⟩ : Go.Eng.Fns) 1000 60 13 (.row [1, 1, 1, 1]) (.row [3, 2])) = true := by kernel_rfl
set_option maxRecDepth 100000 in
theorem r8_25 : Go.Eng.isTrue (Go.Eng.twoRun Try.prog (Go.Eng.lenS 153) (⟨40, 42, 50, 39, 75⟩ : Go.Eng.Fns) 1000 60 13 (.row [1, 1, 1, 1]) (.row [3, 2, 1])) = true := by kernel_rfl
set_option maxRecDepth 100000 in
theorem r8_26 : Go.Eng.isTrue (Go.Eng.twoRun Try.prog (Go.Eng.lenS 153) (⟨40, 42, 50, 39, 75⟩ : Go.Eng.Fns) 1000 60 13 (.row [1, 1, 1, 1]) (.row [3, 3])) = true := by kernel_rfl
set_option maxRecDepth 100000 in
theorem r8_27 : Go.Eng.isTrue (Go.Eng.twoRun Try.prog (Go.Eng.lenS 153) (⟨40, 42, 50, 39, 75⟩ : Go.Eng.Fns) 1000 60 13 (.row [1, 1, 1, 1]) (.row [4])) = true := by kernel_rfl
set_option maxRecDepth 100000 in
theorem r8_28 : Go.Eng.isTrue (Go.Eng.twoRun Try.prog (Go.Eng.lenS 153) (⟨40, 42, 50, 39, 75⟩ : Go.Eng.Fns) 1000 60 13 (.row [1, 1, 1, 1]) (.row [4, 1])) = true := by kernel_rfl
set_option maxRecDepth 100000 in
theorem r8_29 : Go.Eng.isTrue (Go.Eng.twoRun Try.prog (Go.Eng.lenS 153) (⟨40, 42, 50, 39, 75⟩ : Go.Eng.Fns) 1000 60 13 (.row [1, 1, 1, 1]) (.row [4, 1, 1])) = true := by kernel_rfl
set_option maxRecDepth 100000 in
theorem r8_30 : Go.Eng.isTrue (Go.Eng.twoRun Try.prog (Go.Eng.lenS 153) (⟨40, 42, 50, 39, 75⟩ : Go.Eng.Fns) 1000 60 13 (.row [1, 1, 1, 1]) (.row [4, 2])) = true := by kernel_rfl
set_option maxRecDepth 100000 in
theorem r8_31 : Go.Eng.isTrue (Go.Eng.twoRun Try.prog (Go.Eng.lenS 153) (⟨40, 42, 50, 39, 75⟩ : Go.Eng.Fns) 1000 60 13 (.row [1, 1, 1, 1]) (.row [5])) = true := by kernel_rfl
set_option maxRecDepth 100000 in
theorem r8_32 : Go.Eng.isTrue (Go.Eng.twoRun Try.prog (Go.Eng.lenS 153) (⟨40, 42, 50, 39, 75⟩ : Go.Eng.Fns) 1000 60 13 (.row [1, 1, 1, 1]) (.row [5, 1])) = true := by kernel_rfl
set_option maxRecDepth 100000 in
theorem r8_33 : Go.Eng.isTrue (Go.Eng.twoRun Try.prog (Go.Eng.lenS 153) (⟨40, 42, 50, 39, 75⟩ : Go.Eng.Fns) 1000 60 13 (.row [1, 1, 1, 1]) (.row [6])) = true := by kernel_rfl
theorem r8 : Go.Eng.AllL (fun c => Go.Eng.isTrue (Go.Eng.twoRun Try.prog (Go.Eng.lenS 153) (⟨40, 42, 50, 39, 75⟩ : Go.Eng.Fns) 1000 60 13 (.row [1, 1, 1, 1]) c) = true) Go.Eng.classes := by
  unfold Go.Eng.classes
  rw [Go.Eng.shares_eq]
  exact ⟨r8_0, r8_1, r8_2, r8_3, r8_4, r8_5, r8_6, r8_7, r8_8, r8_9, r8_10, r8_11, r8_12, r8_13, r8_14, r8_15, r8_16, r8_17, r8_18, r8_19, r8_20, r8_21, r8_22, r8_23, r8_24, r8_25, r8_26, r8_27, r8_28, r8_29, r8_30, r8_31, r8_32, r8_33, trivial⟩
set_option maxRecDepth 100000 in
theorem r16_0 : Go.Eng.isTrue (Go.Eng.twoRun Try.prog (Go.Eng.lenS 153) (⟨40, 42, 50, 39, 75⟩ : Go.Eng.Fns) 1000 60 13 (.row [2, 2]) .nil) = true := by kernel_rfl
set_option maxRecDepth 100000 in
theorem r16_1 : Go.Eng.isTrue (Go.Eng.twoRun Try.prog (Go.Eng.lenS 153) (⟨40, 42, 50, 39, 75⟩ : Go.Eng.Fns) 1000 60 13 (.row [2, 2]) .zero) = true := by kernel_rfl
set_option maxRecDepth 100000 in
theorem r16_2 : Go.Eng.isTrue (Go.Eng.twoRun Try.prog (Go.Eng.lenS 153) (⟨40, 42, 50, 39, 75⟩ : Go.Eng.Fns) 1000 60 13 (.row [2, 2]) .no) = true := by kernel_rfl
set_option maxRecDepth 100000 in
theorem r16_3 : Go.Eng.isTrue (Go.Eng.twoRun Try.prog (Go.Eng.lenS 153) (⟨40, 42, 50, 39, 75⟩ : Go.Eng.Fns) 1000 60 13 (.row [2, 2]) .long) = true := by kernel_rfl
set_option maxRecDepth 100000 in
theorem r16_4 : Go.Eng.isTrue (Go.Eng.twoRun Try.prog (Go.Eng.lenS 153) (⟨40, 42, 50, 39, 75⟩ : Go.Eng.Fns) 1000 60 13 (.row [2, 2]) (.row [])) = true := by kernel_rfl
set_option maxRecDepth 100000 in
theorem r16_5 : Go.Eng.isTrue (Go.Eng.twoRun Try.prog (Go.Eng.lenS 153) (⟨40, 42, 50, 39, 75⟩ : Go.Eng.Fns) 1000 60 13 (.row [2, 2]) (.row [1])) = true := by kernel_rfl
set_option maxRecDepth 100000 in
theorem r16_6 : Go.Eng.isTrue (Go.Eng.twoRun Try.prog (Go.Eng.lenS 153) (⟨40, 42, 50, 39, 75⟩ : Go.Eng.Fns) 1000 60 13 (.row [2, 2]) (.row [1, 1])) = true := by kernel_rfl
set_option maxRecDepth 100000 in
theorem r16_7 : Go.Eng.isTrue (Go.Eng.twoRun Try.prog (Go.Eng.lenS 153) (⟨40, 42, 50, 39, 75⟩ : Go.Eng.Fns) 1000 60 13 (.row [2, 2]) (.row [1, 1, 1])) = true := by kernel_rfl
set_option maxRecDepth 100000 in
theorem r16_8 : Go.Eng.isTrue (Go.Eng.twoRun Try.prog (Go.Eng.lenS 153) (⟨40, 42, 50, 39, 75⟩ : Go.Eng.Fns) 1000 60 13 (.row [2, 2]) (.row [1, 1, 1, 1])) = true := by kernel_rfl
set_option maxRecDepth 100000 in
theorem r16_9 : Go.Eng.isTrue (Go.Eng.twoRun Try.prog (Go.Eng.lenS 153) (⟨40, 42, 50, 39, 75⟩ : Go.Eng.Fns) 1000 60 13 (.row [2, 2]) (.row [1, 1, 1, 1, 1])) = true := by kernel_rfl
set_option maxRecDepth 100000 in
theorem r16_10 : Go.Eng.isTrue (Go.Eng.twoRun Try.prog (Go.Eng.lenS 153) (⟨40, 42, 50, 39, 75⟩ : Go.Eng.Fns) 1000 60 13 (.row [2, 2]) (.row [1, 1, 1, 1, 1, 1])) = true := by kernel_rfl
set_option maxRecDepth 100000 in
theorem r16_11 : Go.Eng.isTrue (Go.Eng.twoRun Try.prog (Go.Eng.lenS 153) (⟨40, 42, 50, 39, 75⟩ : Go.Eng.Fns) 1000 60 13 (.row [2, 2]) (.row [2])) = true := by kernel_rfl
set_option maxRecDepth 100000 in
theorem r16_12 : Go.Eng.isTrue (Go.Eng.twoRun Try.prog (Go.Eng.lenS 153) (⟨40, 42, 50, 39, 75⟩ : Go.Eng.Fns) 1000 60 13 (.row [2, 2]) (.row [2, 1])) = true := by kernel_rfl
set_option maxRecDepth 100000 in
theorem r16_13 : Go.Eng.isTrue (Go.Eng.twoRun Try.prog (Go.Eng.lenS 153) (⟨40, 42, 50, 39, 75⟩ : Go.Eng.Fns) 1000 60 13 (.row [2, 2]) (.row [2, 1, 1])) = true := by kernel_rfl
set_option maxRecDepth 100000 in
theorem r16_14 : Go.Eng.isTrue (Go.Eng.twoRun Try.prog (Go.Eng.lenS 153) (⟨40, 42, 50, 39, 75⟩ : Go.Eng.Fns) 1000 60 13 (.row [2, 2]) (.row [2, 1, 1, 1])) = true := by kernel_rfl
set_option maxRecDepth 100000 in
theorem r16_15 : Go.Eng.isTrue (Go.Eng.twoRun Try.prog (Go.Eng.lenS 153) (⟨40, 42, 50, 39, 75⟩ : Go.Eng.Fns) 1000 60 13 (.row [2, 2]) (.row [2, 1, 1, 1, 1])) = true := by kernel_rfl
set_option maxRecDepth 100000 in
theorem r16_16 : Go.Eng.isTrue (Go.Eng.twoRun Try.prog (Go.Eng.lenS 153) (⟨40, 42, 50, 39, 75⟩ : Go.Eng.Fns) 1000 60 13 (.row [2, 2]) (.row [2, 2])) = true := by kernel_rfl
set_option maxRecDepth 100000 in
theorem r16_17 : Go.Eng.isTrue (Go.Eng.twoRun Try.prog (Go.Eng.lenS 153) (⟨40, 42, 50, 39, 75⟩ : Go.Eng.Fns) 1000 60 13 (.row [2, 2]) (.row [2, 2, 1])) = true := by kernel_rfl
set_option maxRecDepth 100000 in
theorem r16_18 : Go.Eng.isTrue (Go.Eng.twoRun Try.prog (Go.Eng.lenS 153) (⟨40, 42, 50, 39, 75⟩ : Go.Eng.Fns) 1000 60 13 (.row [2, 2]) (.row [2, 2, 1, 1])) = true := by kernel_rfl
set_option maxRecDepth 100000 in
theorem r16_19 : Go.Eng.isTrue (Go.Eng.twoRun Try.prog (Go.Eng.lenS 153) (⟨40, 42, 50, 39, 75⟩ : Go.Eng.Fns) 1000 60 13 (.row [2, 2]) (.row [2, 2, 2])) = true := by kernel_rfl
set_option maxRecDepth 100000 in
theorem r16_20 : Go.Eng.isTrue (Go.Eng.twoRun Try.prog (Go.Eng.lenS 153) (⟨40, 42, 50, 39, 75⟩ : Go.Eng.Fns) 1000 60 13 (.row [2, 2]) (.row [3])) = true := by kernel_rfl
set_option maxRecDepth 100000 in
theorem r16_21 : Go.Eng.isTrue (Go.Eng.twoRun Try.prog (Go.Eng.lenS 153) (⟨40, 42, 50, 39, 75⟩ : Go.Eng.Fns) 1000 60 13 (.row [2, 2]) (.row [3, 1])) = true := by kernel_rfl
set_option maxRecDepth 100000 in
theorem r16_22 : Go.Eng.isTrue (Go.Eng.twoRun Try.prog (Go.Eng.lenS 153) (⟨40, 42, 50, 39, 75⟩ : Go.Eng.Fns) 1000 60 13 (.row [2, 2]) (.row [3, 1, 1])) = true := by kernel_rfl
set_option maxRecDepth 100000 in
theorem r16_23 : Go.Eng.isTrue (Go.Eng.twoRun Try.prog (Go.Eng.lenS 153) (⟨40, 42, 50, 39, 75⟩ : Go.Eng.Fns) 1000 60 13 (.row [2, 2]) (.row [3, 1, 1, 1])) = true := by kernel_rfl
set_option maxRecDepth 100000 in
theorem r16_24 : Go.Eng.isTrue (Go.Eng.twoRun Try.prog (Go.Eng.lenS 153) (⟨40, 42, 50, 39, 75⟩ : Go.Eng.Fns) 1000 60 13 (.row [2, 2]) (.row [3, 2])) = true := by kernel_rfl
set_option maxRecDepth 100000 in
theorem r16_25 : Go.Eng.isTrue (Go.Eng.twoRun Try.prog (Go.Eng.lenS 153) (⟨40, 42, 50, 39, 75⟩ : Go.Eng.Fns) 1000 60 13 (.row [2, 2]) (.row [3, 2, 1])) = true := by kernel_rfl
set_option maxRecDepth 100000 in
theorem r16_26 : Go.Eng.isTrue (Go.Eng.twoRun Try.prog (Go.Eng.lenS 153) (⟨40, 42, 50, 39, 75⟩ : Go.Eng.Fns) 1000 60 13 (.row [2, 2]) (.row [3, 3])) = true := by kernel_rfl
set_option maxRecDepth 100000 in
theorem r16_27 : Go.Eng.isTrue (Go.Eng.twoRun Try.prog (Go.Eng.lenS 153) (⟨40, 42, 50, 39, 75⟩ : Go.Eng.Fns) 1000 60 13 (.row [2, 2]) (.row [4])) = true := by kernel_rfl
set_option maxRecDepth 100000 in
theorem r16_28 : Go.Eng.isTrue (Go.Eng.twoRun Try.prog (Go.Eng.lenS 153) (⟨40, 42, 50, 39, 75⟩ : Go.Eng.Fns) 1000 60 13 (.row [2, 2]) (.row [4, 1])) = true := by kernel_rfl
set_option maxRecDepth 100000 in
theorem r16_29 : Go.Eng.isTrue (Go.Eng.twoRun Try.prog (Go.Eng.lenS 153) (⟨40, 42, 50, 39, 75⟩ : Go.Eng.Fns) 1000 60 13 (.row [2, 2]) (.row [4, 1, 1])) = true := by kernel_rfl
set_option maxRecDepth 100000 in
theorem r16_30 : Go.Eng.isTrue (Go.Eng.twoRun Try.prog (Go.Eng.lenS 153) (⟨40, 42, 50, 39, 75⟩ : Go.Eng.Fns) 1000 60 13 (.row [2, 2]) (.row [4, 2])) = true := by kernel_rfl
set_option maxRecDepth 100000 in
theorem r16_31 : Go.Eng.isTrue (Go.Eng.twoRun Try.prog (Go.Eng.lenS 153) (⟨40, 42, 50, 39, 75⟩ : Go.Eng.Fns) 1000 60 13 (.row [2, 2]) (.row [5])) = true := by kernel_rfl
set_option maxRecDepth 100000 in
theorem r16_32 : Go.Eng.isTrue (Go.Eng.twoRun Try.prog (Go.Eng.lenS 153) (⟨40, 42, 50, 39, 75⟩ : Go.Eng.Fns) 1000 60 13 (.row [2, 2]) (.row [5, 1])) = true := by kernel_rfl
set_option maxRecDepth 100000 in
theorem r16_33 : Go.Eng.isTrue (Go.Eng.twoRun Try.prog (Go.Eng.lenS 153) (⟨40, 42, 50, 39, 75⟩ : Go.Eng.Fns) 1000 60 13 (.row [2, 2]) (.row [6])) = true := by kernel_rfl
theorem r16 : Go.Eng.AllL (fun c => Go.Eng.isTrue (Go.Eng.twoRun Try.prog (Go.Eng.lenS 153) (⟨40, 42, 50, 39, 75⟩ : Go.Eng.Fns) 1000 60 13 (.row [2, 2]) c) = true) Go.Eng.classes := by
  unfold Go.Eng.classes
  rw [Go.Eng.shares_eq]
  exact ⟨r16_0, r16_1, r16_2, r16_3, r16_4, r16_5, r16_6, r16_7, r16_8, r16_9, r16_10, r16_11, r16_12, r16_13, r16_14, r16_15, r16_16, r16_17, r16_18, r16_19, r16_20, r16_21, r16_22, r16_23, r16_24, r16_25, r16_26, r16_27, r16_28, r16_29, r16_30, r16_31, r16_32, r16_33, trivial⟩
set_option maxRecDepth 100000 in
theorem r24_0 : Go.Eng.isTrue (Go.Eng.twoRun Try.prog (Go.Eng.lenS 153) (⟨40, 42, 50, 39, 75⟩ : Go.Eng.Fns) 1000 60 13 (.row [3, 2]) .nil) = true := by kernel_rfl
set_option maxRecDepth 100000 in
theorem r24_1 : Go.Eng.isTrue (Go.Eng.twoRun Try.prog (Go.Eng.lenS 153) (⟨40, 42, 50, 39, 75⟩ : Go.Eng.Fns) 1000 60 13 (.row [3, 2]) .zero) = true := by kernel_rfl
set_option maxRecDepth 100000 in
theorem r24_2 : Go.Eng.isTrue (Go.Eng.twoRun Try.prog (Go.Eng.lenS 153) (⟨40, 42, 50, 39, 75⟩ : Go.Eng.Fns) 1000 60 13 (.row [3, 2]) .no) = true := by kernel_rfl
set_option maxRecDepth 100000 in
theorem r24_3 : Go.Eng.isTrue (Go.Eng.twoRun Try.prog (Go.Eng.lenS 153) (⟨40, 42, 50, 39, 75⟩ : Go.Eng.Fns) 1000 60 13 (.row [3, 2]) .long) = true := by kernel_rfl
set_option maxRecDepth 100000 in
theorem r24_4 : Go.Eng.isTrue (Go.Eng.twoRun Try.prog (Go.Eng.lenS 153) (⟨40, 42, 50, 39, 75⟩ : Go.Eng.Fns) 1000 60 13 (.row [3, 2]) (.row [])) = true := by kernel_rfl
set_option maxRecDepth 100000 in
theorem r24_5 : Go.Eng.isTrue (Go.Eng.twoRun Try.prog (Go.Eng.lenS 153) (⟨40, 42, 50, 39, 75⟩ : Go.Eng.Fns) 1000 60 13 (.row [3, 2]) (.row [1])) = true := by kernel_rfl
set_option maxRecDepth 100000 in
theorem r24_6 : Go.Eng.isTrue (Go.Eng.twoRun Try.prog (Go.Eng.lenS 153) (⟨40, 42, 50, 39, 75⟩ : Go.Eng.Fns) 1000 60 13 (.row [3, 2]) (.row [1, 1])) = true := by kernel_rfl
set_option maxRecDepth 100000 in
theorem r24_7 : Go.Eng.isTrue (Go.Eng.twoRun Try.prog (Go.Eng.lenS 153) (⟨40, 42, 50, 39, 75⟩ : Go.Eng.Fns) 1000 60 13 (.row [3, 2]) (.row [1, 1, 1])) = true := by kernel_rfl
set_option maxRecDepth 100000 in
theorem r24_8 : Go.Eng.isTrue (Go.Eng.twoRun Try.prog (Go.Eng.lenS 153) (⟨40, 42, 50, 39, 75⟩ : Go.Eng.Fns) 1000 60 13 (.row [3, 2]) (.row [1, 1, 1, 1])) = true := by kernel_rfl
set_option maxRecDepth 100000 in
theorem r24_9 : Go.Eng.isTrue (Go.Eng.twoRun Try.prog (Go.Eng.lenS 153) (⟨40, 42, 50, 39, 75⟩ : Go.Eng.Fns) 1000 60 13 (.row [3, 2]) (.row [1, 1, 1, 1, 1])) = true := by kernel_rfl
set_option maxRecDepth 100000 in
theorem r24_10 : Go.Eng.isTrue (Go.Eng.twoRun Try.prog (Go.Eng.lenS 153) (⟨40, 42, 50, 39, 75⟩ : Go.Eng.Fns) 1000 60 13 (.row [3, 2]) (.row [1, 1, 1, 1, 1, 1])) = true := by kernel_rfl
set_option maxRecDepth 100000 in
theorem r24_11 : Go.Eng.isTrue (Go.Eng.twoRun Try.prog (Go.Eng.lenS 153) (⟨40, 42, 50, 39, 75⟩ : Go.Eng.Fns) 1000 60 13 (.row [3, 2]) (.row [2])) = true := by kernel_rfl
set_option maxRecDepth 100000 in
theorem r24_12 : Go.Eng.isTrue (Go.Eng.twoRun Try.prog (Go.Eng.lenS 153) (⟨40, 42, 50, 39, 75⟩ : Go.Eng.Fns) 1000 60 13 (.row [3, 2]) (.row [2, 1])) = true := by kernel_rfl
set_option maxRecDepth 100000 in
theorem r24_13 : Go.Eng.isTrue (Go.Eng.twoRun Try.prog (Go.Eng.lenS 153) (⟨40, 42, 50, 39, 75⟩ : Go.Eng.Fns) 1000 60 13 (.row [3, 2]) (.row [2, 1, 1])) = true := by kernel_rfl
set_option maxRecDepth 100000 in
theorem r24_14 : Go.Eng.isTrue (Go.Eng.twoRun Try.prog (Go.Eng.lenS 153) (⟨40, 42, 50, 39, 75⟩ : Go.Eng.Fns) 1000 60 13 (.row [3, 2]) (.row [2, 1, 1, 1])) = true := by kernel_rfl
set_option maxRecDepth 100000 in
theorem r24_15 : Go.Eng.isTrue (Go.Eng.twoRun Try.prog (Go.Eng.lenS 153) (⟨40, 42, 50, 39, 75⟩ : Go.Eng.Fns) 1000 60 13 (.row [3, 2]) (.row [2, 1, 1, 1, 1])) = true := by kernel_rfl
set_option maxRecDepth 100000 in
theorem r24_16 : Go.Eng.isTrue (Go.Eng.twoRun Try.prog (Go.Eng.lenS 153) (⟨40, 42, 50, 39, 75⟩ : Go.Eng.Fns) 1000 60 13 (.row [3, 2]) (.row [2, 2])) = true := by kernel_rfl
set_option maxRecDepth 100000 in
theorem r24_17 : Go.Eng.isTrue (Go.Eng.twoRun Try.prog (Go.Eng.lenS 153) (⟨40, 42, 50, 39, 75⟩ : Go.Eng.Fns) 1000 60 13 (.row [3, 2]) (.row [2, 2, 1])) = true := by kernel_rfl
set_option maxRecDepth 100000 in
theorem r24_18 : Go.Eng.isTrue (Go.Eng.twoRun Try.prog (Go.Eng.lenS 153) (⟨40, 42, 50, 39, 75⟩ : Go.Eng.Fns) 1000 60 13 (.row [3, 2]) (.row [2, 2, 1, 1])) = true := by kernel_rfl
set_option maxRecDepth 100000 in
theorem r24_19 : Go.Eng.isTrue (Go.Eng.twoRun Try.prog (Go.Eng.lenS 153) (⟨40, 42, 50, 39, 75⟩ : Go.Eng.Fns) 1000 60 13 (.row [3, 2]) (.row [2, 2, 2])) = true := by kernel_rfl
set_option maxRecDepth 100000 in
theorem r24_20 : Go.Eng.isTrue (Go.Eng.twoRun Try.prog (Go.Eng.lenS 153) (⟨40, 42, 50, 39, 75⟩ : Go.Eng.Fns) 1000 60 13 (.row [3, 2]) (.row [3])) = true := by kernel_rfl
set_option maxRecDepth 100000 in
theorem r24_21 : Go.Eng.isTrue (Go.Eng.twoRun Try.prog (Go.Eng.lenS 153) (⟨40, 42, 50, 39, 75⟩ : Go.Eng.Fns) 1000 60 13 (.row [3, 2]) (.row [3, 1])) = true := by kernel_rfl
set_option maxRecDepth 100000 in
theorem r24_22 : Go.Eng.isTrue (Go.Eng.twoRun Try.prog (Go.Eng.lenS 153) (⟨40, 42, 50, 39, 75⟩ : Go.Eng.Fns) 1000 60 13 (.row [3, 2]) (.row [3, 1, 1])) = true := by kernel_rfl
set_option maxRecDepth 100000 in
theorem r24_23 : Go.Eng.isTrue (Go.Eng.twoRun Try.prog (Go.Eng.lenS 153) (⟨40, 42, 50, 39, 75⟩ : Go.Eng.Fns) 1000 60 13 (.row [3, 2]) (.row [3, 1, 1, 1])) = true := by kernel_rfl
set_option maxRecDepth 100000 in
theorem r24_24 : Go.Eng.isTrue (Go.Eng.twoRun Try.prog (Go.Eng.lenS 153) (⟨40, 42, 50, 39, 75⟩ : Go.Eng.Fns) 1000 60 13 (.row [3, 2]) (.row [3, 2])) = true := by kernel_rfl
set_option maxRecDepth 100000 in
theorem r24_25 : Go.Eng.isTrue (Go.Eng.twoRun Try.prog (Go.Eng.lenS 153) (⟨40, 42, 50, 39, 75⟩ : Go.Eng.Fns) 1000 60 13 (.row [3, 2]) (.row [3, 2, 1])) = true := by kernel_rfl
set_option maxRecDepth 100000 in
theorem r24_26 : Go.Eng.isTrue (Go.Eng.twoRun Try.prog (Go.Eng.lenS 153) (⟨40, 42, 50, 39, 75⟩ : Go.Eng.Fns) 1000 60 13 (.row [3, 2]) (.row [3, 3])) = true := by kernel_rfl
set_option maxRecDepth 100000 in
theorem r24_27 : Go.Eng.isTrue (Go.Eng.twoRun Try.prog (Go.Eng.lenS 153) (⟨40, 42, 50, 39, 75⟩ : Go.Eng.Fns) 1000 60 13 (.row [3, 2]) (.row [4])) = true := by kernel_rfl
set_option maxRecDepth 100000 in
theorem r24_28 : Go.Eng.isTrue (Go.Eng.twoRun Try.prog (Go.Eng.lenS 153) (⟨40, 42, 50, 39, 75⟩ : Go.Eng.Fns) 1000 60 13 (.row [3, 2]) (.row [4, 1])) = true := by kernel_rfl
set_option maxRecDepth 100000 in
theorem r24_29 : Go.Eng.isTrue (Go.Eng.twoRun Try.prog (Go.Eng.lenS 153) (⟨40, 42, 50, 39, 75⟩ : Go.Eng.Fns) 1000 60 13 (.row [3, 2]) (.row [4, 1, 1])) = true := by kernel_rfl
set_option maxRecDepth 100000 in
theorem r24_30 : Go.Eng.isTrue (Go.Eng.twoRun Try.prog (Go.Eng.lenS 153) (⟨40, 42, 50, 39, 75⟩ : Go.Eng.Fns) 1000 60 13 (.row [3, 2]) (.row [4, 2])) = true := by kernel_rfl
set_option maxRecDepth 100000 in
theorem r24_31 : Go.Eng.isTrue (Go.Eng.twoRun Try.prog (Go.Eng.lenS 153) (⟨40, 42, 50, 39, 75⟩ : Go.Eng.Fns) 1000 60 13 (.row [3, 2]) (.row [5])) = true := by kernel_rfl
set_option maxRecDepth 100000 in
theorem r24_32 : Go.Eng.isTrue (Go.Eng.twoRun Try.prog (Go.Eng.lenS 153) (⟨40, 42, 50, 39, 75⟩ : Go.Eng.Fns) 1000 60 13 (.row [3, 2]) (.row [5, 1])) = true := by kernel_rfl
set_option maxRecDepth 100000 in
theorem r24_33 : Go.Eng.isTrue (Go.Eng.twoRun Try.prog (Go.Eng.lenS 153) (⟨40, 42, 50, 39, 75⟩ : Go.Eng.Fns) 1000 60 13 (.row [3, 2]) (.row [6])) = true := by kernel_rfl
theorem r24 : Go.Eng.AllL (fun c => Go.Eng.isTrue (Go.Eng.twoRun Try.prog (Go.Eng.lenS 153) (⟨40, 42, 50, 39, 75⟩ : Go.Eng.Fns) 1000 60 13 (.row [3, 2]) c) = true) Go.Eng.classes := by
  unfold Go.Eng.classes
  rw [Go.Eng.shares_eq]
  exact ⟨r24_0, r24_1, r24_2, r24_3, r24_4, r24_5, r24_6, r24_7, r24_8, r24_9, r24_10, r24_11, r24_12, r24_13, r24_14, r24_15, r24_16, r24_17, r24_18, r24_19, r24_20, r24_21, r24_22, r24_23, r24_24, r24_25, r24_26, r24_27, r24_28, r24_29, r24_30, r24_31, r24_32, r24_33, trivial⟩
set_option maxRecDepth 100000 in
theorem r32_0 : Go.Eng.isTrue (Go.Eng.twoRun Try.prog (Go.Eng.lenS 153) (⟨40, 42, 50, 39, 75⟩ : Go.Eng.Fns) 1000 60 13 (.row [5, 1]) .nil) = true := by kernel_rfl
set_option maxRecDepth 100000 in
theorem r32_1 : Go.Eng.isTrue (Go.Eng.twoRun Try.prog (Go.Eng.lenS 153) (⟨40, 42, 50, 39, 75⟩ : Go.Eng.Fns) 1000 60 13 (.row [5, 1]) .zero) = true := by kernel_rfl
set_option maxRecDepth 100000 in
theorem r32_2 : Go.Eng.isTrue (Go.Eng.twoRun Try.prog (Go.Eng.lenS 153) (⟨40, 42, 50, 39, 75⟩ : Go.Eng.Fns) 1000 60 13 (.row [5, 1]) .no) = true := by kernel_rfl
set_option maxRecDepth 100000 in
theorem r32_3 : Go.Eng.isTrue (Go.Eng.twoRun Try.prog (Go.Eng.lenS 153) (⟨40, 42, 50, 39, 75⟩ : Go.Eng.Fns) 1000 60 13 (.row [5, 1]) .long) = true := by kernel_rfl
set_option maxRecDepth 100000 in
theorem r32_4 : Go.Eng.isTrue (Go.Eng.twoRun Try.prog (Go.Eng.lenS 153) (⟨40, 42, 50, 39, 75⟩ : Go.Eng.Fns) 1000 60 13 (.row [5, 1]) (.row [])) = true := by kernel_rfl
set_option maxRecDepth 100000 in
theorem r32_5 : Go.Eng.isTrue (Go.Eng.twoRun Try.prog (Go.Eng.lenS 153) (⟨40, 42, 50, 39, 75⟩ : Go.Eng.Fns) 1000 60 13 (.row [5, 1]) (.row [1])) = true := by kernel_rfl
set_option maxRecDepth 100000 in
theorem r32_6 : Go.Eng.isTrue (Go.Eng.twoRun Try.prog (Go.Eng.lenS 153) (⟨40, 42, 50, 39, 75⟩ : Go.Eng.Fns) 1000 60 13 (.row [5, 1]) (.row [1, 1])) = true := by kernel_rfl
set_option maxRecDepth 100000 in
theorem r32_7 : Go.Eng.isTrue (Go.Eng.twoRun Try.prog (Go.Eng.lenS 153) (⟨40, 42, 50, 39, 75⟩ : Go.Eng.Fns) 1000 60 13 (.row [5, 1]) (.row [1, 1, 1])) = true := by kernel_rfl
set_option maxRecDepth 100000 in
theorem r32_8 : Go.Eng.isTrue (Go.Eng.twoRun Try.prog (Go.Eng.lenS 153) (⟨40, 42, 50, 39, 75⟩ : Go.Eng.Fns) 1000 60 13 (.row [5, 1]) (.row [1, 1, 1, 1])) = true := by kernel_rfl
set_option maxRecDepth 100000 in
theorem r32_9 : Go.Eng.isTrue (Go.Eng.twoRun Try.prog (Go.Eng.lenS 153) (⟨40, 42, 50, 39, 75⟩ : Go.Eng.Fns) 1000 60 13 (.row [5, 1]) (.row [1, 1, 1, 1, 1])) = true := by kernel_rfl
set_option maxRecDepth 100000 in
theorem r32_10 : Go.Eng.isTrue (Go.Eng.twoRun Try.prog (Go.Eng.lenS 153) (⟨40, 42, 50, 39, 75⟩ : Go.Eng.Fns) 1000 60 13 (.row [5, 1]) (.row [1, 1, 1, 1, 1, 1])) = true := by kernel_rfl
set_option maxRecDepth 100000 in
theorem r32_11 : Go.Eng.isTrue (Go.Eng.twoRun Try.prog (Go.Eng.lenS 153) (⟨40, 42, 50, 39, 75⟩ : Go.Eng.Fns) 1000 60 13 (.row [5, 1]) (.row [2])) = true := by kernel_rfl
set_option maxRecDepth 100000 in
theorem r32_12 : Go.Eng.isTrue (Go.Eng.twoRun Try.prog (Go.Eng.lenS 153) (⟨40, 42, 50, 39, 75⟩ : Go.Eng.Fns) 1000 60 13 (.row [5, 1]) (.row [2, 1])) = true := by kernel_rfl
set_option maxRecDepth 100000 in
theorem r32_13 : Go.Eng.isTrue (Go.Eng.twoRun Try.prog (Go.Eng.lenS 153) (⟨40, 42, 50, 39, 75⟩ : Go.Eng.Fns) 1000 60 13 (.row [5, 1]) (.row [2, 1, 1])) = true := by kernel_rfl
set_option maxRecDepth 100000 in
theorem r32_14 : Go.Eng.isTrue (Go.Eng.twoRun Try.prog (Go.Eng.lenS 153) (⟨40, 42, 50, 39, 75⟩ : Go.Eng.Fns) 1000 60 13 (.row [5, 1]) (.row [2, 1, 1, 1])) = true := by kernel_rfl
set_option maxRecDepth 100000 in
theorem r32_15 : Go.Eng.isTrue (Go.Eng.twoRun Try.prog (Go.Eng.lenS 153) (⟨40, 42, 50, 39, 75⟩ : Go.Eng.Fns) 1000 60 13 (.row [5, 1]) (.row [2, 1, 1, 1, 1])) = true := by kernel_rfl
set_option maxRecDepth 100000 in
theorem r32_16 : Go.Eng.isTrue (Go.Eng.twoRun Try.prog (Go.Eng.lenS 153) (⟨40, 42, 50, 39, 75⟩ : Go.Eng.Fns) 1000 60 13 (.row [5, 1]) (.row [2, 2])) = true := by kernel_rfl
set_option maxRecDepth 100000 in
theorem r32_17 : Go.Eng.isTrue (Go.Eng.twoRun Try.prog (Go.Eng.lenS 153) (⟨40, 42, 50, 39, 75⟩ : Go.Eng.Fns) 1000 60 13 (.row [5, 1]) (.row [2, 2, 1])) = true := by kernel_rfl
set_option maxRecDepth 100000 in
theorem r32_18 : Go.Eng.isTrue (Go.Eng.twoRun Try.prog (Go.Eng.lenS 153) (⟨40, 42, 50, 39, 75⟩ : Go.Eng.Fns) 1000 60 13 (.row [5, 1]) (.row [2, 2, 1, 1])) = true := by kernel_rfl
set_option maxRecDepth 100000 in
theorem r32_19 : Go.Eng.isTrue (Go.Eng.twoRun Try.prog (Go.Eng.lenS 153) (⟨40, 42, 50, 39, 75⟩ : Go.Eng.Fns) 1000 60 13 (.row [5, 1]) (.row [2, 2, 2])) = true := by kernel_rfl
set_option maxRecDepth 100000 in
theorem r32_20 : Go.Eng.isTrue (Go.Eng.twoRun Try.prog (Go.Eng.lenS 153) (⟨40, 42, 50, 39, 75⟩ : Go.Eng.Fns) 1000 60 13 (.row [5, 1]) (.row [3])) = true := by kernel_rfl
set_option maxRecDepth 100000 in
theorem r32_21 : Go.Eng.isTrue (Go.Eng.twoRun Try.prog (Go.Eng.lenS 153) (⟨40, 42, 50, 39, 75⟩ : Go.Eng.Fns) 1000 60 13 (.row [5, 1]) (.row [3, 1])) = true := by kernel_rfl
set_option maxRecDepth 100000 in
theorem r32_22 : Go.Eng.isTrue (Go.Eng.twoRun Try.prog (Go.Eng.lenS 153) (⟨40, 42, 50, 39, 75⟩ : Go.Eng.Fns) 1000 60 13 (.row [5, 1]) (.row [3, 1, 1])) = true := by kernel_rfl
set_option maxRecDepth 100000 in
theorem r32_23 : Go.Eng.isTrue (Go.Eng.twoRun Try.prog (Go.Eng.lenS 153) (⟨40, 42, 50, 39, 75⟩ : Go.Eng.Fns) 1000 60 13 (.row [5, 1]) (.row [3, 1, 1, 1])) = true := by kernel_rfl
set_option maxRecDepth 100000 in
theorem r32_24 : Go.Eng.isTrue (Go.Eng.twoRun Try.prog (Go.Eng.lenS 153) (⟨40, 42, 50, 39, 75⟩ : Go.Eng.Fns) 1000 60 13 (.row [5, 1]) (.row [3, 2])) = true := by kernel_rfl
set_option maxRecDepth 100000 in
theorem r32_25 : Go.Eng.isTrue (Go.Eng.twoRun Try.prog (Go.Eng.lenS 153) (⟨40, 42, 50, 39, 75⟩ : Go.Eng.Fns) 1000 60 13 (.row [5, 1]) (.row [3, 2, 1])) = true := by kernel_rfl
set_option maxRecDepth 100000 in
theorem r32_26 : Go.Eng.isTrue (Go.Eng.twoRun Try.prog (Go.Eng.lenS 153) (⟨40, 42, 50, 39, 75⟩ : Go.Eng.Fns) 1000 60 13 (.row [5, 1]) (.row [3, 3])) = true := by kernel_rfl
set_option maxRecDepth 100000 in
theorem r32_27 : Go.Eng.isTrue (Go.Eng.twoRun Try.prog (Go.Eng.lenS 153) (⟨40, 42, 50, 39, 75⟩ : Go.Eng.Fns) 1000 60 13 (.row [5, 1]) (.row [4])) = true := by kernel_rfl
set_option maxRecDepth 100000 in
theorem r32_28 : Go.Eng.isTrue (Go.Eng.twoRun Try.prog (Go.Eng.lenS 153) (⟨40, 42, 50, 39, 75⟩ : Go.Eng.Fns) 1000 60 13 (.row [5, 1]) (.row [4, 1])) = true := by kernel_rfl
set_option maxRecDepth 100000 in
theorem r32_29 : Go.Eng.isTrue (Go.Eng.twoRun Try.prog (Go.Eng.lenS 153) (⟨40, 42, 50, 39, 75⟩ : Go.Eng.Fns) 1000 60 13 (.row [5, 1]) (.row [4, 1, 1])) = true := by kernel_rfl
set_option maxRecDepth 100000 in
theorem r32_30 : Go.Eng.isTrue (Go.Eng.twoRun Try.prog (Go.Eng.lenS 153) (⟨40, 42, 50, 39, 75⟩ : Go.Eng.Fns) 1000 60 13 (.row [5, 1]) (.row [4, 2])) = true := by kernel_rfl
set_option maxRecDepth 100000 in
theorem r32_31 : Go.Eng.isTrue (Go.Eng.twoRun Try.prog (Go.Eng.lenS 153) (⟨40, 42, 50, 39, 75⟩ : Go.Eng.Fns) 1000 60 13 (.row [5, 1]) (.row [5])) = true := by kernel_rfl
set_option maxRecDepth 100000 in
theorem r32_32 : Go.Eng.isTrue (Go.Eng.twoRun Try.prog (Go.Eng.lenS 153) (⟨40, 42, 50, 39, 75⟩ : Go.Eng.Fns) 1000 60 13 (.row [5, 1]) (.row [5, 1])) = true := by kernel_rfl
set_option maxRecDepth 100000 in
theorem r32_33 : Go.Eng.isTrue (Go.Eng.twoRun Try.prog (Go.Eng.lenS 153) (⟨40, 42, 50, 39, 75⟩ : Go.Eng.Fns) 1000 60 13 (.row [5, 1]) (.row [6])) = true := by kernel_rfl
theorem r32 : Go.Eng.AllL (fun c => Go.Eng.isTrue (Go.Eng.twoRun Try.prog (Go.Eng.lenS 153) (⟨40, 42, 50, 39, 75⟩ : Go.Eng.Fns) 1000 60 13 (.row [5, 1]) c) = true) Go.Eng.classes := by
  unfold Go.Eng.classes
  rw [Go.Eng.shares_eq]
  exact ⟨r32_0, r32_1, r32_2, r32_3, r32_4, r32_5, r32_6, r32_7, r32_8, r32_9, r32_10, r32_11, r32_12, r32_13, r32_14, r32_15, r32_16, r32_17, r32_18, r32_19, r32_20, r32_21, r32_22, r32_23, r32_24, r32_25, r32_26, r32_27, r32_28, r32_29, r32_30, r32_31, r32_32, r32_33, trivial⟩
end Go.Proofs.Ytnablcacdfebfac.fnExactShareJoinRuns
