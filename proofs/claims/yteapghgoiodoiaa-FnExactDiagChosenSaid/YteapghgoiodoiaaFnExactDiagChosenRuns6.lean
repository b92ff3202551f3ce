/- The runs of FnExactDiagChosen, part 6. -/
import Derived.Test.YteapghgoiodoiaaEngZd
import Derived.Test.YteapghgoiodoiaaCbC
import Derived.Test.YteapghgoiodoiaaProg
namespace Go.Proofs.Yteapghgoiodoiaa.fnExactDiagChosenRuns
set_option linter.unusedVariables false
set_option linter.unusedSectionVars false
set_option linter.unusedSimpArgs false
set_option maxRecDepth 100000 in
theorem r6_0 : Go.Eng.isTrue (Go.Eng.lptRun Try.prog Go.Proofs.Yteapghgoiodoiaa.CbC.sums (⟨13, 15, 15, 52, 54⟩ : Go.Eng.Fns) 56 40 1000 60 4 (.row [1, 1]) .nil) = true := by kernel_rfl
set_option maxRecDepth 100000 in
theorem r6_1 : Go.Eng.isTrue (Go.Eng.lptRun Try.prog Go.Proofs.Yteapghgoiodoiaa.CbC.sums (⟨13, 15, 15, 52, 54⟩ : Go.Eng.Fns) 56 40 1000 60 4 (.row [1, 1]) .zero) = true := by kernel_rfl
set_option maxRecDepth 100000 in
theorem r6_2 : Go.Eng.isTrue (Go.Eng.lptRun Try.prog Go.Proofs.Yteapghgoiodoiaa.CbC.sums (⟨13, 15, 15, 52, 54⟩ : Go.Eng.Fns) 56 40 1000 60 4 (.row [1, 1]) .no) = true := by kernel_rfl
set_option maxRecDepth 100000 in
theorem r6_3 : Go.Eng.isTrue (Go.Eng.lptRun Try.prog Go.Proofs.Yteapghgoiodoiaa.CbC.sums (⟨13, 15, 15, 52, 54⟩ : Go.Eng.Fns) 56 40 1000 60 4 (.row [1, 1]) .long) = true := by kernel_rfl
set_option maxRecDepth 100000 in
theorem r6_4 : Go.Eng.isTrue (Go.Eng.lptRun Try.prog Go.Proofs.Yteapghgoiodoiaa.CbC.sums (⟨13, 15, 15, 52, 54⟩ : Go.Eng.Fns) 56 40 1000 60 4 (.row [1, 1]) (.pt 0)) = true := by kernel_rfl
set_option maxRecDepth 100000 in
theorem r6_5 : Go.Eng.isTrue (Go.Eng.lptRun Try.prog Go.Proofs.Yteapghgoiodoiaa.CbC.sums (⟨13, 15, 15, 52, 54⟩ : Go.Eng.Fns) 56 40 1000 60 4 (.row [1, 1]) (.pt 1)) = true := by kernel_rfl
set_option maxRecDepth 100000 in
theorem r6_6 : Go.Eng.isTrue (Go.Eng.lptRun Try.prog Go.Proofs.Yteapghgoiodoiaa.CbC.sums (⟨13, 15, 15, 52, 54⟩ : Go.Eng.Fns) 56 40 1000 60 4 (.row [1, 1]) (.pt 2)) = true := by kernel_rfl
set_option maxRecDepth 100000 in
theorem r6_7 : Go.Eng.isTrue (Go.Eng.lptRun Try.prog Go.Proofs.Yteapghgoiodoiaa.CbC.sums (⟨13, 15, 15, 52, 54⟩ : Go.Eng.Fns) 56 40 1000 60 4 (.row [1, 1]) (.pt 3)) = true := by kernel_rfl
set_option maxRecDepth 100000 in
theorem r6_8 : Go.Eng.isTrue (Go.Eng.lptRun Try.prog Go.Proofs.Yteapghgoiodoiaa.CbC.sums (⟨13, 15, 15, 52, 54⟩ : Go.Eng.Fns) 56 40 1000 60 4 (.row [1, 1]) (.pt 4)) = true := by kernel_rfl
set_option maxRecDepth 100000 in
theorem r6_9 : Go.Eng.isTrue (Go.Eng.lptRun Try.prog Go.Proofs.Yteapghgoiodoiaa.CbC.sums (⟨13, 15, 15, 52, 54⟩ : Go.Eng.Fns) 56 40 1000 60 4 (.row [1, 1]) (.pt 5)) = true := by kernel_rfl
theorem r6 : Go.Eng.AllL (fun c => Go.Eng.isTrue (Go.Eng.lptRun Try.prog Go.Proofs.Yteapghgoiodoiaa.CbC.sums (⟨13, 15, 15, 52, 54⟩ : Go.Eng.Fns) 56 40 1000 60 4 (.row [1, 1]) c) = true) Go.Eng.pclasses := ⟨r6_0, r6_1, r6_2, r6_3, r6_4, r6_5, r6_6, r6_7, r6_8, r6_9, trivial⟩
set_option maxRecDepth 100000 in
theorem r14_0 : Go.Eng.isTrue (Go.Eng.lptRun Try.prog Go.Proofs.Yteapghgoiodoiaa.CbC.sums (⟨13, 15, 15, 52, 54⟩ : Go.Eng.Fns) 56 40 1000 60 4 (.row [2, 1, 1, 1]) .nil) = true := by kernel_rfl
set_option maxRecDepth 100000 in
theorem r14_1 : Go.Eng.isTrue (Go.Eng.lptRun Try.prog Go.Proofs.Yteapghgoiodoiaa.CbC.sums (⟨13, 15, 15, 52, 54⟩ : Go.Eng.Fns) 56 40 1000 60 4 (.row [2, 1, 1, 1]) .zero) = true := by kernel_rfl
set_option maxRecDepth 100000 in
theorem r14_2 : Go.Eng.isTrue (Go.Eng.lptRun Try.prog Go.Proofs.Yteapghgoiodoiaa.CbC.sums (⟨13, 15, 15, 52, 54⟩ : Go.Eng.Fns) 56 40 1000 60 4 (.row [2, 1, 1, 1]) .no) = true := by kernel_rfl
set_option maxRecDepth 100000 in
theorem r14_3 : Go.Eng.isTrue (Go.Eng.lptRun Try.prog Go.Proofs.Yteapghgoiodoiaa.CbC.sums (⟨13, 15, 15, 52, 54⟩ : Go.Eng.Fns) 56 40 1000 60 4 (.row [2, 1, 1, 1]) .long) = true := by kernel_rfl
set_option maxRecDepth 100000 in
theorem r14_4 : Go.Eng.isTrue (Go.Eng.lptRun Try.prog Go.Proofs.Yteapghgoiodoiaa.CbC.sums (⟨13, 15, 15, 52, 54⟩ : Go.Eng.Fns) 56 40 1000 60 4 (.row [2, 1, 1, 1]) (.pt 0)) = true := by kernel_rfl
set_option maxRecDepth 100000 in
theorem r14_5 : Go.Eng.isTrue (Go.Eng.lptRun Try.prog Go.Proofs.Yteapghgoiodoiaa.CbC.sums (⟨13, 15, 15, 52, 54⟩ : Go.Eng.Fns) 56 40 1000 60 4 (.row [2, 1, 1, 1]) (.pt 1)) = true := by kernel_rfl
set_option maxRecDepth 100000 in
theorem r14_6 : Go.Eng.isTrue (Go.Eng.lptRun Try.prog Go.Proofs.Yteapghgoiodoiaa.CbC.sums (⟨13, 15, 15, 52, 54⟩ : Go.Eng.Fns) 56 40 1000 60 4 (.row [2, 1, 1, 1]) (.pt 2)) = true := by kernel_rfl
set_option maxRecDepth 100000 in
theorem r14_7 : Go.Eng.isTrue (Go.Eng.lptRun Try.prog Go.Proofs.Yteapghgoiodoiaa.CbC.sums (⟨13, 15, 15, 52, 54⟩ : Go.Eng.Fns) 56 40 1000 60 4 (.row [2, 1, 1, 1]) (.pt 3)) = true := by kernel_rfl
set_option maxRecDepth 100000 in
theorem r14_8 : Go.Eng.isTrue (Go.Eng.lptRun Try.prog Go.Proofs.Yteapghgoiodoiaa.CbC.sums (⟨13, 15, 15, 52, 54⟩ : Go.Eng.Fns) 56 40 1000 60 4 (.row [2, 1, 1, 1]) (.pt 4)) = true := by kernel_rfl
set_option maxRecDepth 100000 in
theorem r14_9 : Go.Eng.isTrue (Go.Eng.lptRun Try.prog Go.Proofs.Yteapghgoiodoiaa.CbC.sums (⟨13, 15, 15, 52, 54⟩ : Go.Eng.Fns) 56 40 1000 60 4 (.row [2, 1, 1, 1]) (.pt 5)) = true := by kernel_rfl
theorem r14 : Go.Eng.AllL (fun c => Go.Eng.isTrue (Go.Eng.lptRun Try.prog Go.Proofs.Yteapghgoiodoiaa.CbC.sums (⟨13, 15, 15, 52, 54⟩ : Go.Eng.Fns) 56 40 1000 60 4 (.row [2, 1, 1, 1]) c) = true) Go.Eng.pclasses := ⟨r14_0, r14_1, r14_2, r14_3, r14_4, r14_5, r14_6, r14_7, r14_8, r14_9, trivial⟩
set_option maxRecDepth 100000 in
theorem r22_0 : Go.Eng.isTrue (Go.Eng.lptRun Try.prog Go.Proofs.Yteapghgoiodoiaa.CbC.sums (⟨13, 15, 15, 52, 54⟩ : Go.Eng.Fns) 56 40 1000 60 4 (.row [3, 1, 1]) .nil) = true := by kernel_rfl
set_option maxRecDepth 100000 in
theorem r22_1 : Go.Eng.isTrue (Go.Eng.lptRun Try.prog Go.Proofs.Yteapghgoiodoiaa.CbC.sums (⟨13, 15, 15, 52, 54⟩ : Go.Eng.Fns) 56 40 1000 60 4 (.row [3, 1, 1]) .zero) = true := by kernel_rfl
set_option maxRecDepth 100000 in
theorem r22_2 : Go.Eng.isTrue (Go.Eng.lptRun Try.prog Go.Proofs.Yteapghgoiodoiaa.CbC.sums (⟨13, 15, 15, 52, 54⟩ : Go.Eng.Fns) 56 40 1000 60 4 (.row [3, 1, 1]) .no) = true := by kernel_rfl
set_option maxRecDepth 100000 in
theorem r22_3 : Go.Eng.isTrue (Go.Eng.lptRun Try.prog Go.Proofs.Yteapghgoiodoiaa.CbC.sums (⟨13, 15, 15, 52, 54⟩ : Go.Eng.Fns) 56 40 1000 60 4 (.row [3, 1, 1]) .long) = true := by kernel_rfl
set_option maxRecDepth 100000 in
theorem r22_4 : Go.Eng.isTrue (Go.Eng.lptRun Try.prog Go.Proofs.Yteapghgoiodoiaa.CbC.sums (⟨13, 15, 15, 52, 54⟩ : Go.Eng.Fns) 56 40 1000 60 4 (.row [3, 1, 1]) (.pt 0)) = true := by kernel_rfl
set_option maxRecDepth 100000 in
theorem r22_5 : Go.Eng.isTrue (Go.Eng.lptRun Try.prog Go.Proofs.Yteapghgoiodoiaa.CbC.sums (⟨13, 15, 15, 52, 54⟩ : Go.Eng.Fns) 56 40 1000 60 4 (.row [3, 1, 1]) (.pt 1)) = true := by kernel_rfl
set_option maxRecDepth 100000 in
theorem r22_6 : Go.Eng.isTrue (Go.Eng.lptRun Try.prog Go.Proofs.Yteapghgoiodoiaa.CbC.sums (⟨13, 15, 15, 52, 54⟩ : Go.Eng.Fns) 56 40 1000 60 4 (.row [3, 1, 1]) (.pt 2)) = true := by kernel_rfl
set_option maxRecDepth 100000 in
theorem r22_7 : Go.Eng.isTrue (Go.Eng.lptRun Try.prog Go.Proofs.Yteapghgoiodoiaa.CbC.sums (⟨13, 15, 15, 52, 54⟩ : Go.Eng.Fns) 56 40 1000 60 4 (.row [3, 1, 1]) (.pt 3)) = true := by kernel_rfl
set_option maxRecDepth 100000 in
theorem r22_8 : Go.Eng.isTrue (Go.Eng.lptRun Try.prog Go.Proofs.Yteapghgoiodoiaa.CbC.sums (⟨13, 15, 15, 52, 54⟩ : Go.Eng.Fns) 56 40 1000 60 4 (.row [3, 1, 1]) (.pt 4)) = true := by kernel_rfl
set_option maxRecDepth 100000 in
theorem r22_9 : Go.Eng.isTrue (Go.Eng.lptRun Try.prog Go.Proofs.Yteapghgoiodoiaa.CbC.sums (⟨13, 15, 15, 52, 54⟩ : Go.Eng.Fns) 56 40 1000 60 4 (.row [3, 1, 1]) (.pt 5)) = true := by kernel_rfl
theorem r22 : Go.Eng.AllL (fun c => Go.Eng.isTrue (Go.Eng.lptRun Try.prog Go.Proofs.Yteapghgoiodoiaa.CbC.sums (⟨13, 15, 15, 52, 54⟩ : Go.Eng.Fns) 56 40 1000 60 4 (.row [3, 1, 1]) c) = true) Go.Eng.pclasses := ⟨r22_0, r22_1, r22_2, r22_3, r22_4, r22_5, r22_6, r22_7, r22_8, r22_9, trivial⟩
set_option maxRecDepth 100000 in
theorem r30_0 : Go.Eng.isTrue (Go.Eng.lptRun Try.prog Go.Proofs.Yteapghgoiodoiaa.CbC.sums (⟨13, 15, 15, 52, 54⟩ : Go.Eng.Fns) 56 40 1000 60 4 (.row [4, 2]) .nil) = true := by kernel_rfl
set_option maxRecDepth 100000 in
theorem r30_1 : Go.Eng.isTrue (Go.Eng.lptRun Try.prog Go.Proofs.Yteapghgoiodoiaa.CbC.sums (⟨13, 15, 15, 52, 54⟩ : Go.Eng.Fns) 56 40 1000 60 4 (.row [4, 2]) .zero) = true := by kernel_rfl
set_option maxRecDepth 100000 in
theorem r30_2 : Go.Eng.isTrue (Go.Eng.lptRun Try.prog Go.Proofs.Yteapghgoiodoiaa.CbC.sums (⟨13, 15, 15, 52, 54⟩ : Go.Eng.Fns) 56 40 1000 60 4 (.row [4, 2]) .no) = true := by kernel_rfl
set_option maxRecDepth 100000 in
theorem r30_3 : Go.Eng.isTrue (Go.Eng.lptRun Try.prog Go.Proofs.Yteapghgoiodoiaa.CbC.sums (⟨13, 15, 15, 52, 54⟩ : Go.Eng.Fns) 56 40 1000 60 4 (.row [4, 2]) .long) = true := by kernel_rfl
set_option maxRecDepth 100000 in
theorem r30_4 : Go.Eng.isTrue (Go.Eng.lptRun Try.prog Go.Proofs.Yteapghgoiodoiaa.CbC.sums (⟨13, 15, 15, 52, 54⟩ : Go.Eng.Fns) 56 40 1000 60 4 (.row [4, 2]) (.pt 0)) = true := by kernel_rfl
set_option maxRecDepth 100000 in
theorem r30_5 : Go.Eng.isTrue (Go.Eng.lptRun Try.prog Go.Proofs.Yteapghgoiodoiaa.CbC.sums (⟨13, 15, 15, 52, 54⟩ : Go.Eng.Fns) 56 40 1000 60 4 (.row [4, 2]) (.pt 1)) = true := by kernel_rfl
set_option maxRecDepth 100000 in
theorem r30_6 : Go.Eng.isTrue (Go.Eng.lptRun Try.prog Go.Proofs.Yteapghgoiodoiaa.CbC.sums (⟨13, 15, 15, 52, 54⟩ : Go.Eng.Fns) 56 40 1000 60 4 (.row [4, 2]) (.pt 2)) = true := by kernel_rfl
set_option maxRecDepth 100000 in
theorem r30_7 : Go.Eng.isTrue (Go.Eng.lptRun Try.prog Go.Proofs.Yteapghgoiodoiaa.CbC.sums (⟨13, 15, 15, 52, 54⟩ : Go.Eng.Fns) 56 40 1000 60 4 (.row [4, 2]) (.pt 3)) = true := by kernel_rfl
set_option maxRecDepth 100000 in
theorem r30_8 : Go.Eng.isTrue (Go.Eng.lptRun Try.prog Go.Proofs.Yteapghgoiodoiaa.CbC.sums (⟨13, 15, 15, 52, 54⟩ : Go.Eng.Fns) 56 40 1000 60 4 (.row [4, 2]) (.pt 4)) = true := by kernel_rfl
set_option maxRecDepth 100000 in
theorem r30_9 : Go.Eng.isTrue (Go.Eng.lptRun Try.prog Go.Proofs.Yteapghgoiodoiaa.CbC.sums (⟨13, 15, 15, 52, 54⟩ : Go.Eng.Fns) 56 40 1000 60 4 (.row [4, 2]) (.pt 5)) = true := by kernel_rfl
theorem r30 : Go.Eng.AllL (fun c => Go.Eng.isTrue (Go.Eng.lptRun Try.prog Go.Proofs.Yteapghgoiodoiaa.CbC.sums (⟨13, 15, 15, 52, 54⟩ : Go.Eng.Fns) 56 40 1000 60 4 (.row [4, 2]) c) = true) Go.Eng.pclasses := ⟨r30_0, r30_1, r30_2, r30_3, r30_4, r30_5, r30_6, r30_7, r30_8, r30_9, trivial⟩
end Go.Proofs.Yteapghgoiodoiaa.fnExactDiagChosenRuns
