/- The runs of FnExactDiagPowers, part 3. -/
import Derived.Test.YteapghgoiodoiaaEngZd
import Derived.Test.YteapghgoiodoiaaSignsZ
import Derived.Test.YteapghgoiodoiaaProg
namespace Go.Proofs.Yteapghgoiodoiaa.fnExactDiagPowersRuns
set_option linter.unusedVariables false
set_option linter.unusedSectionVars false
set_option linter.unusedSimpArgs false
set_option maxRecDepth 100000 in
theorem r3_0 : Go.Eng.isTrue (Go.Eng.lptRun Try.prog Go.Proofs.Yteapghgoiodoiaa.tabSigns.sums (⟨13, 15, 15, 52, 54⟩ : Go.Eng.Fns) 56 40 1000 60 7 .long .nil) = true := by kernel_rfl
set_option maxRecDepth 100000 in
theorem r3_1 : Go.Eng.isTrue (Go.Eng.lptRun Try.prog Go.Proofs.Yteapghgoiodoiaa.tabSigns.sums (⟨13, 15, 15, 52, 54⟩ : Go.Eng.Fns) 56 40 1000 60 7 .long .zero) = true := by kernel_rfl
set_option maxRecDepth 100000 in
theorem r3_2 : Go.Eng.isTrue (Go.Eng.lptRun Try.prog Go.Proofs.Yteapghgoiodoiaa.tabSigns.sums (⟨13, 15, 15, 52, 54⟩ : Go.Eng.Fns) 56 40 1000 60 7 .long .no) = true := by kernel_rfl
set_option maxRecDepth 100000 in
theorem r3_3 : Go.Eng.isTrue (Go.Eng.lptRun Try.prog Go.Proofs.Yteapghgoiodoiaa.tabSigns.sums (⟨13, 15, 15, 52, 54⟩ : Go.Eng.Fns) 56 40 1000 60 7 .long .long) = true := by kernel_rfl
set_option maxRecDepth 100000 in
theorem r3_4 : Go.Eng.isTrue (Go.Eng.lptRun Try.prog Go.Proofs.Yteapghgoiodoiaa.tabSigns.sums (⟨13, 15, 15, 52, 54⟩ : Go.Eng.Fns) 56 40 1000 60 7 .long (.pt 0)) = true := by kernel_rfl
set_option maxRecDepth 100000 in
theorem r3_5 : Go.Eng.isTrue (Go.Eng.lptRun Try.prog Go.Proofs.Yteapghgoiodoiaa.tabSigns.sums (⟨13, 15, 15, 52, 54⟩ : Go.Eng.Fns) 56 40 1000 60 7 .long (.pt 1)) = true := by kernel_rfl
set_option maxRecDepth 100000 in
theorem r3_6 : Go.Eng.isTrue (Go.Eng.lptRun Try.prog Go.Proofs.Yteapghgoiodoiaa.tabSigns.sums (⟨13, 15, 15, 52, 54⟩ : Go.Eng.Fns) 56 40 1000 60 7 .long (.pt 2)) = true := by kernel_rfl
set_option maxRecDepth 100000 in
theorem r3_7 : Go.Eng.isTrue (Go.Eng.lptRun Try.prog Go.Proofs.Yteapghgoiodoiaa.tabSigns.sums (⟨13, 15, 15, 52, 54⟩ : Go.Eng.Fns) 56 40 1000 60 7 .long (.pt 3)) = true := by kernel_rfl
set_option maxRecDepth 100000 in
theorem r3_8 : Go.Eng.isTrue (Go.Eng.lptRun Try.prog Go.Proofs.Yteapghgoiodoiaa.tabSigns.sums (⟨13, 15, 15, 52, 54⟩ : Go.Eng.Fns) 56 40 1000 60 7 .long (.pt 4)) = true := by kernel_rfl
set_option maxRecDepth 100000 in
theorem r3_9 : Go.Eng.isTrue (Go.Eng.lptRun Try.prog Go.Proofs.Yteapghgoiodoiaa.tabSigns.sums (⟨13, 15, 15, 52, 54⟩ : Go.Eng.Fns) 56 40 1000 60 7 .long (.pt 5)) = true := by kernel_rfl
theorem r3 : Go.Eng.AllL (fun c => Go.Eng.isTrue (Go.Eng.lptRun Try.prog Go.Proofs.Yteapghgoiodoiaa.tabSigns.sums (⟨13, 15, 15, 52, 54⟩ : Go.Eng.Fns) 56 40 1000 60 7 .long c) = true) Go.Eng.pclasses := ⟨r3_0, r3_1, r3_2, r3_3, r3_4, r3_5, r3_6, r3_7, r3_8, r3_9, trivial⟩
set_option maxRecDepth 100000 in
theorem r9_0 : Go.Eng.isTrue (Go.Eng.lptRun Try.prog Go.Proofs.Yteapghgoiodoiaa.tabSigns.sums (⟨13, 15, 15, 52, 54⟩ : Go.Eng.Fns) 56 40 1000 60 7 (.row [1, 1, 1, 1, 1]) .nil) = true := by kernel_rfl
set_option maxRecDepth 100000 in
theorem r9_1 : Go.Eng.isTrue (Go.Eng.lptRun Try.prog Go.Proofs.Yteapghgoiodoiaa.tabSigns.sums (⟨13, 15, 15, 52, 54⟩ : Go.Eng.Fns) 56 40 1000 60 7 (.row [1, 1, 1, 1, 1]) .zero) = true := by kernel_rfl
set_option maxRecDepth 100000 in
theorem r9_2 : Go.Eng.isTrue (Go.Eng.lptRun Try.prog Go.Proofs.Yteapghgoiodoiaa.tabSigns.sums (⟨13, 15, 15, 52, 54⟩ : Go.Eng.Fns) 56 40 1000 60 7 (.row [1, 1, 1, 1, 1]) .no) = true := by kernel_rfl
set_option maxRecDepth 100000 in
theorem r9_3 : Go.Eng.isTrue (Go.Eng.lptRun Try.prog Go.Proofs.Yteapghgoiodoiaa.tabSigns.sums (⟨13, 15, 15, 52, 54⟩ : Go.Eng.Fns) 56 40 1000 60 7 (.row [1, 1, 1, 1, 1]) .long) = true := by kernel_rfl
set_option maxRecDepth 100000 in
theorem r9_4 : Go.Eng.isTrue (Go.Eng.lptRun Try.prog Go.Proofs.Yteapghgoiodoiaa.tabSigns.sums (⟨13, 15, 15, 52, 54⟩ : Go.Eng.Fns) 56 40 1000 60 7 (.row [1, 1, 1, 1, 1]) (.pt 0)) = true := by kernel_rfl
set_option maxRecDepth 100000 in
theorem r9_5 : Go.Eng.isTrue (Go.Eng.lptRun Try.prog Go.Proofs.Yteapghgoiodoiaa.tabSigns.sums (⟨13, 15, 15, 52, 54⟩ : Go.Eng.Fns) 56 40 1000 60 7 (.row [1, 1, 1, 1, 1]) (.pt 1)) = true := by kernel_rfl
set_option maxRecDepth 100000 in
theorem r9_6 : Go.Eng.isTrue (Go.Eng.lptRun Try.prog Go.Proofs.Yteapghgoiodoiaa.tabSigns.sums (⟨13, 15, 15, 52, 54⟩ : Go.Eng.Fns) 56 40 1000 60 7 (.row [1, 1, 1, 1, 1]) (.pt 2)) = true := by kernel_rfl
set_option maxRecDepth 100000 in
theorem r9_7 : Go.Eng.isTrue (Go.Eng.lptRun Try.prog Go.Proofs.Yteapghgoiodoiaa.tabSigns.sums (⟨13, 15, 15, 52, 54⟩ : Go.Eng.Fns) 56 40 1000 60 7 (.row [1, 1, 1, 1, 1]) (.pt 3)) = true := by kernel_rfl
set_option maxRecDepth 100000 in
theorem r9_8 : Go.Eng.isTrue (Go.Eng.lptRun Try.prog Go.Proofs.Yteapghgoiodoiaa.tabSigns.sums (⟨13, 15, 15, 52, 54⟩ : Go.Eng.Fns) 56 40 1000 60 7 (.row [1, 1, 1, 1, 1]) (.pt 4)) = true := by kernel_rfl
set_option maxRecDepth 100000 in
theorem r9_9 : Go.Eng.isTrue (Go.Eng.lptRun Try.prog Go.Proofs.Yteapghgoiodoiaa.tabSigns.sums (⟨13, 15, 15, 52, 54⟩ : Go.Eng.Fns) 56 40 1000 60 7 (.row [1, 1, 1, 1, 1]) (.pt 5)) = true := by kernel_rfl
theorem r9 : Go.Eng.AllL (fun c => Go.Eng.isTrue (Go.Eng.lptRun Try.prog Go.Proofs.Yteapghgoiodoiaa.tabSigns.sums (⟨13, 15, 15, 52, 54⟩ : Go.Eng.Fns) 56 40 1000 60 7 (.row [1, 1, 1, 1, 1]) c) = true) Go.Eng.pclasses := ⟨r9_0, r9_1, r9_2, r9_3, r9_4, r9_5, r9_6, r9_7, r9_8, r9_9, trivial⟩
set_option maxRecDepth 100000 in
theorem r15_0 : Go.Eng.isTrue (Go.Eng.lptRun Try.prog Go.Proofs.Yteapghgoiodoiaa.tabSigns.sums (⟨13, 15, 15, 52, 54⟩ : Go.Eng.Fns) 56 40 1000 60 7 (.row [2, 1, 1, 1, 1]) .nil) = true := by kernel_rfl
set_option maxRecDepth 100000 in
theorem r15_1 : Go.Eng.isTrue (Go.Eng.lptRun Try.prog Go.Proofs.Yteapghgoiodoiaa.tabSigns.sums (⟨13, 15, 15, 52, 54⟩ : Go.Eng.Fns) 56 40 1000 60 7 (.row [2, 1, 1, 1, 1]) .zero) = true := by kernel_rfl
set_option maxRecDepth 100000 in
theorem r15_2 : Go.Eng.isTrue (Go.Eng.lptRun Try.prog Go.Proofs.Yteapghgoiodoiaa.tabSigns.sums (⟨13, 15, 15, 52, 54⟩ : Go.Eng.Fns) 56 40 1000 60 7 (.row [2, 1, 1, 1, 1]) .no) = true := by kernel_rfl
set_option maxRecDepth 100000 in
theorem r15_3 : Go.Eng.isTrue (Go.Eng.lptRun Try.prog Go.Proofs.Yteapghgoiodoiaa.tabSigns.sums (⟨13, 15, 15, 52, 54⟩ : Go.Eng.Fns) 56 40 1000 60 7 (.row [2, 1, 1, 1, 1]) .long) = true := by kernel_rfl
set_option maxRecDepth 100000 in
theorem r15_4 : Go.Eng.isTrue (Go.Eng.lptRun Try.prog Go.Proofs.Yteapghgoiodoiaa.tabSigns.sums (⟨13, 15, 15, 52, 54⟩ : Go.Eng.Fns) 56 40 1000 60 7 (.row [2, 1, 1, 1, 1]) (.pt 0)) = true := by kernel_rfl
set_option maxRecDepth 100000 in
theorem r15_5 : Go.Eng.isTrue (Go.Eng.lptRun Try.prog Go.Proofs.Yteapghgoiodoiaa.tabSigns.sums (⟨13, 15, 15, 52, 54⟩ : Go.Eng.Fns) 56 40 1000 60 7 (.row [2, 1, 1, 1, 1]) (.pt 1)) = true := by kernel_rfl
set_option maxRecDepth 100000 in
theorem r15_6 : Go.Eng.isTrue (Go.Eng.lptRun Try.prog Go.Proofs.Yteapghgoiodoiaa.tabSigns.sums (⟨13, 15, 15, 52, 54⟩ : Go.Eng.Fns) 56 40 1000 60 7 (.row [2, 1, 1, 1, 1]) (.pt 2)) = true := by kernel_rfl
set_option maxRecDepth 100000 in
theorem r15_7 : Go.Eng.isTrue (Go.Eng.lptRun Try.prog Go.Proofs.Yteapghgoiodoiaa.tabSigns.sums (⟨13, 15, 15, 52, 54⟩ : Go.Eng.Fns) 56 40 1000 60 7 (.row [2, 1, 1, 1, 1]) (.pt 3)) = true := by kernel_rfl
set_option maxRecDepth 100000 in
theorem r15_8 : Go.Eng.isTrue (Go.Eng.lptRun Try.prog Go.Proofs.Yteapghgoiodoiaa.tabSigns.sums (⟨13, 15, 15, 52, 54⟩ : Go.Eng.Fns) 56 40 1000 60 7 (.row [2, 1, 1, 1, 1]) (.pt 4)) = true := by kernel_rfl
set_option maxRecDepth 100000 in
theorem r15_9 : Go.Eng.isTrue (Go.Eng.lptRun Try.prog Go.Proofs.Yteapghgoiodoiaa.tabSigns.sums (⟨13, 15, 15, 52, 54⟩ : Go.Eng.Fns) 56 40 1000 60 7 (.row [2, 1, 1, 1, 1]) (.pt 5)) = true := by kernel_rfl
theorem r15 : Go.Eng.AllL (fun c => Go.Eng.isTrue (Go.Eng.lptRun Try.prog Go.Proofs.Yteapghgoiodoiaa.tabSigns.sums (⟨13, 15, 15, 52, 54⟩ : Go.Eng.Fns) 56 40 1000 60 7 (.row [2, 1, 1, 1, 1]) c) = true) Go.Eng.pclasses := ⟨r15_0, r15_1, r15_2, r15_3, r15_4, r15_5, r15_6, r15_7, r15_8, r15_9, trivial⟩
set_option maxRecDepth 100000 in
theorem r21_0 : Go.Eng.isTrue (Go.Eng.lptRun Try.prog Go.Proofs.Yteapghgoiodoiaa.tabSigns.sums (⟨13, 15, 15, 52, 54⟩ : Go.Eng.Fns) 56 40 1000 60 7 (.row [3, 1]) .nil) = true := by kernel_rfl
set_option maxRecDepth 100000 in
theorem r21_1 : Go.Eng.isTrue (Go.Eng.lptRun Try.prog Go.Proofs.Yteapghgoiodoiaa.tabSigns.sums (⟨13, 15, 15, 52, 54⟩ : Go.Eng.Fns) 56 40 1000 60 7 (.row [3, 1]) .zero) = true := by kernel_rfl
set_option maxRecDepth 100000 in
theorem r21_2 : Go.Eng.isTrue (Go.Eng.lptRun Try.prog Go.Proofs.Yteapghgoiodoiaa.tabSigns.sums (⟨13, 15, 15, 52, 54⟩ : Go.Eng.Fns) 56 40 1000 60 7 (.row [3, 1]) .no) = true := by kernel_rfl
set_option maxRecDepth 100000 in
theorem r21_3 : Go.Eng.isTrue (Go.Eng.lptRun Try.prog Go.Proofs.Yteapghgoiodoiaa.tabSigns.sums (⟨13, 15, 15, 52, 54⟩ : Go.Eng.Fns) 56 40 1000 60 7 (.row [3, 1]) .long) = true := by kernel_rfl
set_option maxRecDepth 100000 in
theorem r21_4 : Go.Eng.isTrue (Go.Eng.lptRun Try.prog Go.Proofs.Yteapghgoiodoiaa.tabSigns.sums (⟨13, 15, 15, 52, 54⟩ : Go.Eng.Fns) 56 40 1000 60 7 (.row [3, 1]) (.pt 0)) = true := by kernel_rfl
set_option maxRecDepth 100000 in
theorem r21_5 : Go.Eng.isTrue (Go.Eng.lptRun Try.prog Go.Proofs.Yteapghgoiodoiaa.tabSigns.sums (⟨13, 15, 15, 52, 54⟩ : Go.Eng.Fns) 56 40 1000 60 7 (.row [3, 1]) (.pt 1)) = true := by kernel_rfl
set_option maxRecDepth 100000 in
theorem r21_6 : Go.Eng.isTrue (Go.Eng.lptRun Try.prog Go.Proofs.Yteapghgoiodoiaa.tabSigns.sums (⟨13, 15, 15, 52, 54⟩ : Go.Eng.Fns) 56 40 1000 60 7 (.row [3, 1]) (.pt 2)) = true := by kernel_rfl
set_option maxRecDepth 100000 in
theorem r21_7 : Go.Eng.isTrue (Go.Eng.lptRun Try.prog Go.Proofs.Yteapghgoiodoiaa.tabSigns.sums (⟨13, 15, 15, 52, 54⟩ : Go.Eng.Fns) 56 40 1000 60 7 (.row [3, 1]) (.pt 3)) = true := by kernel_rfl
set_option maxRecDepth 100000 in
theorem r21_8 : Go.Eng.isTrue (Go.Eng.lptRun Try.prog Go.Proofs.Yteapghgoiodoiaa.tabSigns.sums (⟨13, 15, 15, 52, 54⟩ : Go.Eng.Fns) 56 40 1000 60 7 (.row [3, 1]) (.pt 4)) = true := by kernel_rfl
set_option maxRecDepth 100000 in
theorem r21_9 : Go.Eng.isTrue (Go.Eng.lptRun Try.prog Go.Proofs.Yteapghgoiodoiaa.tabSigns.sums (⟨13, 15, 15, 52, 54⟩ : Go.Eng.Fns) 56 40 1000 60 7 (.row [3, 1]) (.pt 5)) = true := by kernel_rfl
theorem r21 : Go.Eng.AllL (fun c => Go.Eng.isTrue (Go.Eng.lptRun Try.prog Go.Proofs.Yteapghgoiodoiaa.tabSigns.sums (⟨13, 15, 15, 52, 54⟩ : Go.Eng.Fns) 56 40 1000 60 7 (.row [3, 1]) c) = true) Go.Eng.pclasses := ⟨r21_0, r21_1, r21_2, r21_3, r21_4, r21_5, r21_6, r21_7, r21_8, r21_9, trivial⟩
set_option maxRecDepth 100000 in
theorem r27_0 : Go.Eng.isTrue (Go.Eng.lptRun Try.prog Go.Proofs.Yteapghgoiodoiaa.tabSigns.sums (⟨13, 15, 15, 52, 54⟩ : Go.Eng.Fns) 56 40 1000 60 7 (.row [4]) .nil) = true := by kernel_rfl
set_option maxRecDepth 100000 in
theorem r27_1 : Go.Eng.isTrue (Go.Eng.lptRun Try.prog Go.Proofs.Yteapghgoiodoiaa.tabSigns.sums (⟨13, 15, 15, 52, 54⟩ : Go.Eng.Fns) 56 40 1000 60 7 (.row [4]) .zero) = true := by kernel_rfl
set_option maxRecDepth 100000 in
theorem r27_2 : Go.Eng.isTrue (Go.Eng.lptRun Try.prog Go.Proofs.Yteapghgoiodoiaa.tabSigns.sums (⟨13, 15, 15, 52, 54⟩ : Go.Eng.Fns) 56 40 1000 60 7 (.row [4]) .no) = true := by kernel_rfl
set_option maxRecDepth 100000 in
theorem r27_3 : Go.Eng.isTrue (Go.Eng.lptRun Try.prog Go.Proofs.Yteapghgoiodoiaa.tabSigns.sums (⟨13, 15, 15, 52, 54⟩ : Go.Eng.Fns) 56 40 1000 60 7 (.row [4]) .long) = true := by kernel_rfl
set_option maxRecDepth 100000 in
theorem r27_4 : Go.Eng.isTrue (Go.Eng.lptRun Try.prog Go.Proofs.Yteapghgoiodoiaa.tabSigns.sums (⟨13, 15, 15, 52, 54⟩ : Go.Eng.Fns) 56 40 1000 60 7 (.row [4]) (.pt 0)) = true := by kernel_rfl
set_option maxRecDepth 100000 in
theorem r27_5 : Go.Eng.isTrue (Go.Eng.lptRun Try.prog Go.Proofs.Yteapghgoiodoiaa.tabSigns.sums (⟨13, 15, 15, 52, 54⟩ : Go.Eng.Fns) 56 40 1000 60 7 (.row [4]) (.pt 1)) = true := by kernel_rfl
set_option maxRecDepth 100000 in
theorem r27_6 : Go.Eng.isTrue (Go.Eng.lptRun Try.prog Go.Proofs.Yteapghgoiodoiaa.tabSigns.sums (⟨13, 15, 15, 52, 54⟩ : Go.Eng.Fns) 56 40 1000 60 7 (.row [4]) (.pt 2)) = true := by kernel_rfl
set_option maxRecDepth 100000 in
theorem r27_7 : Go.Eng.isTrue (Go.Eng.lptRun Try.prog Go.Proofs.Yteapghgoiodoiaa.tabSigns.sums (⟨13, 15, 15, 52, 54⟩ : Go.Eng.Fns) 56 40 1000 60 7 (.row [4]) (.pt 3)) = true := by kernel_rfl
set_option maxRecDepth 100000 in
theorem r27_8 : Go.Eng.isTrue (Go.Eng.lptRun Try.prog Go.Proofs.Yteapghgoiodoiaa.tabSigns.sums (⟨13, 15, 15, 52, 54⟩ : Go.Eng.Fns) 56 40 1000 60 7 (.row [4]) (.pt 4)) = true := by kernel_rfl
set_option maxRecDepth 100000 in
theorem r27_9 : Go.Eng.isTrue (Go.Eng.lptRun Try.prog Go.Proofs.Yteapghgoiodoiaa.tabSigns.sums (⟨13, 15, 15, 52, 54⟩ : Go.Eng.Fns) 56 40 1000 60 7 (.row [4]) (.pt 5)) = true := by kernel_rfl
theorem r27 : Go.Eng.AllL (fun c => Go.Eng.isTrue (Go.Eng.lptRun Try.prog Go.Proofs.Yteapghgoiodoiaa.tabSigns.sums (⟨13, 15, 15, 52, 54⟩ : Go.Eng.Fns) 56 40 1000 60 7 (.row [4]) c) = true) Go.Eng.pclasses := ⟨r27_0, r27_1, r27_2, r27_3, r27_4, r27_5, r27_6, r27_7, r27_8, r27_9, trivial⟩
set_option maxRecDepth 100000 in
theorem r33_0 : Go.Eng.isTrue (Go.Eng.lptRun Try.prog Go.Proofs.Yteapghgoiodoiaa.tabSigns.sums (⟨13, 15, 15, 52, 54⟩ : Go.Eng.Fns) 56 40 1000 60 7 (.row [6]) .nil) = true := by kernel_rfl
set_option maxRecDepth 100000 in
theorem r33_1 : Go.Eng.isTrue (Go.Eng.lptRun Try.prog Go.Proofs.Yteapghgoiodoiaa.tabSigns.sums (⟨13, 15, 15, 52, 54⟩ : Go.Eng.Fns) 56 40 1000 60 7 (.row [6]) .zero) = true := by kernel_rfl
set_option maxRecDepth 100000 in
theorem r33_2 : Go.Eng.isTrue (Go.Eng.lptRun Try.prog Go.Proofs.Yteapghgoiodoiaa.tabSigns.sums (⟨13, 15, 15, 52, 54⟩ : Go.Eng.Fns) 56 40 1000 60 7 (.row [6]) .no) = true := by kernel_rfl
set_option maxRecDepth 100000 in
theorem r33_3 : Go.Eng.isTrue (Go.Eng.lptRun Try.prog Go.Proofs.Yteapghgoiodoiaa.tabSigns.sums (⟨13, 15, 15, 52, 54⟩ : Go.Eng.Fns) 56 40 1000 60 7 (.row [6]) .long) = true := by kernel_rfl
set_option maxRecDepth 100000 in
theorem r33_4 : Go.Eng.isTrue (Go.Eng.lptRun Try.prog Go.Proofs.Yteapghgoiodoiaa.tabSigns.sums (⟨13, 15, 15, 52, 54⟩ : Go.Eng.Fns) 56 40 1000 60 7 (.row [6]) (.pt 0)) = true := by kernel_rfl
set_option maxRecDepth 100000 in
theorem r33_5 : Go.Eng.isTrue (Go.Eng.lptRun Try.prog Go.Proofs.Yteapghgoiodoiaa.tabSigns.sums (⟨13, 15, 15, 52, 54⟩ : Go.Eng.Fns) 56 40 1000 60 7 (.row [6]) (.pt 1)) = true := by kernel_rfl
set_option maxRecDepth 100000 in
theorem r33_6 : Go.Eng.isTrue (Go.Eng.lptRun Try.prog Go.Proofs.Yteapghgoiodoiaa.tabSigns.sums (⟨13, 15, 15, 52, 54⟩ : Go.Eng.Fns) 56 40 1000 60 7 (.row [6]) (.pt 2)) = true := by kernel_rfl
set_option maxRecDepth 100000 in
theorem r33_7 : Go.Eng.isTrue (Go.Eng.lptRun Try.prog Go.Proofs.Yteapghgoiodoiaa.tabSigns.sums (⟨13, 15, 15, 52, 54⟩ : Go.Eng.Fns) 56 40 1000 60 7 (.row [6]) (.pt 3)) = true := by kernel_rfl
set_option maxRecDepth 100000 in
theorem r33_8 : Go.Eng.isTrue (Go.Eng.lptRun Try.prog Go.Proofs.Yteapghgoiodoiaa.tabSigns.sums (⟨13, 15, 15, 52, 54⟩ : Go.Eng.Fns) 56 40 1000 60 7 (.row [6]) (.pt 4)) = true := by kernel_rfl
set_option maxRecDepth 100000 in
theorem r33_9 : Go.Eng.isTrue (Go.Eng.lptRun Try.prog Go.Proofs.Yteapghgoiodoiaa.tabSigns.sums (⟨13, 15, 15, 52, 54⟩ : Go.Eng.Fns) 56 40 1000 60 7 (.row [6]) (.pt 5)) = true := by kernel_rfl
theorem r33 : Go.Eng.AllL (fun c => Go.Eng.isTrue (Go.Eng.lptRun Try.prog Go.Proofs.Yteapghgoiodoiaa.tabSigns.sums (⟨13, 15, 15, 52, 54⟩ : Go.Eng.Fns) 56 40 1000 60 7 (.row [6]) c) = true) Go.Eng.pclasses := ⟨r33_0, r33_1, r33_2, r33_3, r33_4, r33_5, r33_6, r33_7, r33_8, r33_9, trivial⟩
end Go.Proofs.Yteapghgoiodoiaa.fnExactDiagPowersRuns
