/- The runs of FnExactDiagPowers, part 1. -/
import Derived.Test.YteapghgoiodoiaaEngZd
import Derived.Test.YteapghgoiodoiaaSignsZ
import Derived.Test.YteapghgoiodoiaaProg
namespace Go.Proofs.Yteapghgoiodoiaa.fnExactDiagPowersRuns
set_option linter.unusedVariables false
set_option linter.unusedSectionVars false
set_option linter.unusedSimpArgs false
set_option maxRecDepth 100000 in
theorem r1_0 : Go.Eng.isTrue (Go.Eng.lptRun Try.prog Go.Proofs.Yteapghgoiodoiaa.tabSigns.sums (⟨13, 15, 15, 52, 54⟩ : Go.Eng.Fns) 56 40 1000 60 7 .zero .nil) = true := by kernel_rfl
set_option maxRecDepth 100000 in
theorem r1_1 : Go.Eng.isTrue (Go.Eng.lptRun Try.prog Go.Proofs.Yteapghgoiodoiaa.tabSigns.sums (⟨13, 15, 15, 52, 54⟩ : Go.Eng.Fns) 56 40 1000 60 7 .zero .zero) = true := by kernel_rfl
set_option maxRecDepth 100000 in
theorem r1_2 : Go.Eng.isTrue (Go.Eng.lptRun Try.prog Go.Proofs.Yteapghgoiodoiaa.tabSigns.sums (⟨13, 15, 15, 52, 54⟩ : Go.Eng.Fns) 56 40 1000 60 7 .zero .no) = true := by kernel_rfl
set_option maxRecDepth 100000 in
theorem r1_3 : Go.Eng.isTrue (Go.Eng.lptRun Try.prog Go.Proofs.Yteapghgoiodoiaa.tabSigns.sums (⟨13, 15, 15, 52, 54⟩ : Go.Eng.Fns) 56 40 1000 60 7 .zero .long) = true := by kernel_rfl
set_option maxRecDepth 100000 in
theorem r1_4 : Go.Eng.isTrue (Go.Eng.lptRun Try.prog Go.Proofs.Yteapghgoiodoiaa.tabSigns.sums (⟨13, 15, 15, 52, 54⟩ : Go.Eng.Fns) 56 40 1000 60 7 .zero (.pt 0)) = true := by kernel_rfl
set_option maxRecDepth 100000 in
theorem r1_5 : Go.Eng.isTrue (Go.Eng.lptRun Try.prog Go.Proofs.Yteapghgoiodoiaa.tabSigns.sums (⟨13, 15, 15, 52, 54⟩ : Go.Eng.Fns) 56 40 1000 60 7 .zero (.pt 1)) = true := by kernel_rfl
set_option maxRecDepth 100000 in
theorem r1_6 : Go.Eng.isTrue (Go.Eng.lptRun Try.prog Go.Proofs.Yteapghgoiodoiaa.tabSigns.sums (⟨13, 15, 15, 52, 54⟩ : Go.Eng.Fns) 56 40 1000 60 7 .zero (.pt 2)) = true := by kernel_rfl
set_option maxRecDepth 100000 in
theorem r1_7 : Go.Eng.isTrue (Go.Eng.lptRun Try.prog Go.Proofs.Yteapghgoiodoiaa.tabSigns.sums (⟨13, 15, 15, 52, 54⟩ : Go.Eng.Fns) 56 40 1000 60 7 .zero (.pt 3)) = true := by kernel_rfl
set_option maxRecDepth 100000 in
theorem r1_8 : Go.Eng.isTrue (Go.Eng.lptRun Try.prog Go.Proofs.Yteapghgoiodoiaa.tabSigns.sums (⟨13, 15, 15, 52, 54⟩ : Go.Eng.Fns) 56 40 1000 60 7 .zero (.pt 4)) = true := by kernel_rfl
set_option maxRecDepth 100000 in
theorem r1_9 : Go.Eng.isTrue (Go.Eng.lptRun Try.prog Go.Proofs.Yteapghgoiodoiaa.tabSigns.sums (⟨13, 15, 15, 52, 54⟩ : Go.Eng.Fns) 56 40 1000 60 7 .zero (.pt 5)) = true := by kernel_rfl
theorem r1 : Go.Eng.AllL (fun c => Go.Eng.isTrue (Go.Eng.lptRun Try.prog Go.Proofs.Yteapghgoiodoiaa.tabSigns.sums (⟨13, 15, 15, 52, 54⟩ : Go.Eng.Fns) 56 40 1000 60 7 .zero c) = true) Go.Eng.pclasses := ⟨r1_0, r1_1, r1_2, r1_3, r1_4, r1_5, r1_6, r1_7, r1_8, r1_9, trivial⟩
set_option maxRecDepth 100000 in
theorem r7_0 : Go.Eng.isTrue (Go.Eng.lptRun Try.prog Go.Proofs.Yteapghgoiodoiaa.tabSigns.sums (⟨13, 15, 15, 52, 54⟩ : Go.Eng.Fns) 56 40 1000 60 7 (.row [1, 1, 1]) .nil) = true := by kernel_rfl
set_option maxRecDepth 100000 in
theorem r7_1 : Go.Eng.isTrue (Go.Eng.lptRun Try.prog Go.Proofs.Yteapghgoiodoiaa.tabSigns.sums (⟨13, 15, 15, 52, 54⟩ : Go.Eng.Fns) 56 40 1000 60 7 (.row [1, 1, 1]) .zero) = true := by kernel_rfl
set_option maxRecDepth 100000 in
theorem r7_2 : Go.Eng.isTrue (Go.Eng.lptRun Try.prog Go.Proofs.Yteapghgoiodoiaa.tabSigns.sums (⟨13, 15, 15, 52, 54⟩ : Go.Eng.Fns) 56 40 1000 60 7 (.row [1, 1, 1]) .no) = true := by kernel_rfl
set_option maxRecDepth 100000 in
theorem r7_3 : Go.Eng.isTrue (Go.Eng.lptRun Try.prog Go.Proofs.Yteapghgoiodoiaa.tabSigns.sums (⟨13, 15, 15, 52, 54⟩ : Go.Eng.Fns) 56 40 1000 60 7 (.row [1, 1, 1]) .long) = true := by kernel_rfl
set_option maxRecDepth 100000 in
theorem r7_4 : Go.Eng.isTrue (Go.Eng.lptRun Try.prog Go.Proofs.Yteapghgoiodoiaa.tabSigns.sums (⟨13, 15, 15, 52, 54⟩ : Go.Eng.Fns) 56 40 1000 60 7 (.row [1, 1, 1]) (.pt 0)) = true := by kernel_rfl
set_option maxRecDepth 100000 in
theorem r7_5 : Go.Eng.isTrue (Go.Eng.lptRun Try.prog Go.Proofs.Yteapghgoiodoiaa.tabSigns.sums (⟨13, 15, 15, 52, 54⟩ : Go.Eng.Fns) 56 40 1000 60 7 (.row [1, 1, 1]) (.pt 1)) = true := by kernel_rfl
set_option maxRecDepth 100000 in
theorem r7_6 : Go.Eng.isTrue (Go.Eng.lptRun Try.prog Go.Proofs.Yteapghgoiodoiaa.tabSigns.sums (⟨13, 15, 15, 52, 54⟩ : Go.Eng.Fns) 56 40 1000 60 7 (.row [1, 1, 1]) (.pt 2)) = true := by kernel_rfl
set_option maxRecDepth 100000 in
theorem r7_7 : Go.Eng.isTrue (Go.Eng.lptRun Try.prog Go.Proofs.Yteapghgoiodoiaa.tabSigns.sums (⟨13, 15, 15, 52, 54⟩ : Go.Eng.Fns) 56 40 1000 60 7 (.row [1, 1, 1]) (.pt 3)) = true := by kernel_rfl
set_option maxRecDepth 100000 in
theorem r7_8 : Go.Eng.isTrue (Go.Eng.lptRun Try.prog Go.Proofs.Yteapghgoiodoiaa.tabSigns.sums (⟨13, 15, 15, 52, 54⟩ : Go.Eng.Fns) 56 40 1000 60 7 (.row [1, 1, 1]) (.pt 4)) = true := by kernel_rfl
set_option maxRecDepth 100000 in
theorem r7_9 : Go.Eng.isTrue (Go.Eng.lptRun Try.prog Go.Proofs.Yteapghgoiodoiaa.tabSigns.sums (⟨13, 15, 15, 52, 54⟩ : Go.Eng.Fns) 56 40 1000 60 7 (.row [1, 1, 1]) (.pt 5)) = true := by kernel_rfl
theorem r7 : Go.Eng.AllL (fun c => Go.Eng.isTrue (Go.Eng.lptRun Try.prog Go.Proofs.Yteapghgoiodoiaa.tabSigns.sums (⟨13, 15, 15, 52, 54⟩ : Go.Eng.Fns) 56 40 1000 60 7 (.row [1, 1, 1]) c) = true) Go.Eng.pclasses := ⟨r7_0, r7_1, r7_2, r7_3, r7_4, r7_5, r7_6, r7_7, r7_8, r7_9, trivial⟩
set_option maxRecDepth 100000 in
theorem r13_0 : Go.Eng.isTrue (Go.Eng.lptRun Try.prog Go.Proofs.Yteapghgoiodoiaa.tabSigns.sums (⟨13, 15, 15, 52, 54⟩ : Go.Eng.Fns) 56 40 1000 60 7 (.row [2, 1, 1]) .nil) = true := by kernel_rfl
set_option maxRecDepth 100000 in
theorem r13_1 : Go.Eng.isTrue (Go.Eng.lptRun Try.prog Go.Proofs.Yteapghgoiodoiaa.tabSigns.sums (⟨13, 15, 15, 52, 54⟩ : Go.Eng.Fns) 56 40 1000 60 7 (.row [2, 1, 1]) .zero) = true := by kernel_rfl
set_option maxRecDepth 100000 in
theorem r13_2 : Go.Eng.isTrue (Go.Eng.lptRun Try.prog Go.Proofs.Yteapghgoiodoiaa.tabSigns.sums (⟨13, 15, 15, 52, 54⟩ : Go.Eng.Fns) 56 40 1000 60 7 (.row [2, 1, 1]) .no) = true := by kernel_rfl
set_option maxRecDepth 100000 in
theorem r13_3 : Go.Eng.isTrue (Go.Eng.lptRun Try.prog Go.Proofs.Yteapghgoiodoiaa.tabSigns.sums (⟨13, 15, 15, 52, 54⟩ : Go.Eng.Fns) 56 40 1000 60 7 (.row [2, 1, 1]) .long) = true := by kernel_rfl
set_option maxRecDepth 100000 in
theorem r13_4 : Go.Eng.isTrue (Go.Eng.lptRun Try.prog Go.Proofs.Yteapghgoiodoiaa.tabSigns.sums (⟨13, 15, 15, 52, 54⟩ : Go.Eng.Fns) 56 40 1000 60 7 (.row [2, 1, 1]) (.pt 0)) = true := by kernel_rfl
set_option maxRecDepth 100000 in
theorem r13_5 : Go.Eng.isTrue (Go.Eng.lptRun Try.prog Go.Proofs.Yteapghgoiodoiaa.tabSigns.sums (⟨13, 15, 15, 52, 54⟩ : Go.Eng.Fns) 56 40 1000 60 7 (.row [2, 1, 1]) (.pt 1)) = true := by kernel_rfl
set_option maxRecDepth 100000 in
theorem r13_6 : Go.Eng.isTrue (Go.Eng.lptRun Try.prog Go.Proofs.Yteapghgoiodoiaa.tabSigns.sums (⟨13, 15, 15, 52, 54⟩ : Go.Eng.Fns) 56 40 1000 60 7 (.row [2, 1, 1]) (.pt 2)) = true := by kernel_rfl
set_option maxRecDepth 100000 in
theorem r13_7 : Go.Eng.isTrue (Go.Eng.lptRun Try.prog Go.Proofs.Yteapghgoiodoiaa.tabSigns.sums (⟨13, 15, 15, 52, 54⟩ : Go.Eng.Fns) 56 40 1000 60 7 (.row [2, 1, 1]) (.pt 3)) = true := by kernel_rfl
set_option maxRecDepth 100000 in
theorem r13_8 : Go.Eng.isTrue (Go.Eng.lptRun Try.prog Go.Proofs.Yteapghgoiodoiaa.tabSigns.sums (⟨13, 15, 15, 52, 54⟩ : Go.Eng.Fns) 56 40 1000 60 7 (.row [2, 1, 1]) (.pt 4)) = true := by kernel_rfl
set_option maxRecDepth 100000 in
theorem r13_9 : Go.Eng.isTrue (Go.Eng.lptRun Try.prog Go.Proofs.Yteapghgoiodoiaa.tabSigns.sums (⟨13, 15, 15, 52, 54⟩ : Go.Eng.Fns) 56 40 1000 60 7 (.row [2, 1, 1]) (.pt 5)) = true := by kernel_rfl
theorem r13 : Go.Eng.AllL (fun c => Go.Eng.isTrue (Go.Eng.lptRun Try.prog Go.Proofs.Yteapghgoiodoiaa.tabSigns.sums (⟨13, 15, 15, 52, 54⟩ : Go.Eng.Fns) 56 40 1000 60 7 (.row [2, 1, 1]) c) = true) Go.Eng.pclasses := ⟨r13_0, r13_1, r13_2, r13_3, r13_4, r13_5, r13_6, r13_7, r13_8, r13_9, trivial⟩
set_option maxRecDepth 100000 in
theorem r19_0 : Go.Eng.isTrue (Go.Eng.lptRun Try.prog Go.Proofs.Yteapghgoiodoiaa.tabSigns.sums (⟨13, 15, 15, 52, 54⟩ : Go.Eng.Fns) 56 40 1000 60 7 (.row [2, 2, 2]) .nil) = true := by kernel_rfl
set_option maxRecDepth 100000 in
theorem r19_1 : Go.Eng.isTrue (Go.Eng.lptRun Try.prog Go.Proofs.Yteapghgoiodoiaa.tabSigns.sums (⟨13, 15, 15, 52, 54⟩ : Go.Eng.Fns) 56 40 1000 60 7 (.row [2, 2, 2]) .zero) = true := by kernel_rfl
set_option maxRecDepth 100000 in
theorem r19_2 : Go.Eng.isTrue (Go.Eng.lptRun Try.prog Go.Proofs.Yteapghgoiodoiaa.tabSigns.sums (⟨13, 15, 15, 52, 54⟩ : Go.Eng.Fns) 56 40 1000 60 7 (.row [2, 2, 2]) .no) = true := by kernel_rfl
set_option maxRecDepth 100000 in
theorem r19_3 : Go.Eng.isTrue (Go.Eng.lptRun Try.prog Go.Proofs.Yteapghgoiodoiaa.tabSigns.sums (⟨13, 15, 15, 52, 54⟩ : Go.Eng.Fns) 56 40 1000 60 7 (.row [2, 2, 2]) .long) = true := by kernel_rfl
set_option maxRecDepth 100000 in
theorem r19_4 : Go.Eng.isTrue (Go.Eng.lptRun Try.prog Go.Proofs.Yteapghgoiodoiaa.tabSigns.sums (⟨13, 15, 15, 52, 54⟩ : Go.Eng.Fns) 56 40 1000 60 7 (.row [2, 2, 2]) (.pt 0)) = true := by kernel_rfl
set_option maxRecDepth 100000 in
theorem r19_5 : Go.Eng.isTrue (Go.Eng.lptRun Try.prog Go.Proofs.Yteapghgoiodoiaa.tabSigns.sums (⟨13, 15, 15, 52, 54⟩ : Go.Eng.Fns) 56 40 1000 60 7 (.row [2, 2, 2]) (.pt 1)) = true := by kernel_rfl
set_option maxRecDepth 100000 in
theorem r19_6 : Go.Eng.isTrue (Go.Eng.lptRun Try.prog Go.Proofs.Yteapghgoiodoiaa.tabSigns.sums (⟨13, 15, 15, 52, 54⟩ : Go.Eng.Fns) 56 40 1000 60 7 (.row [2, 2, 2]) (.pt 2)) = true := by kernel_rfl
set_option maxRecDepth 100000 in
theorem r19_7 : Go.Eng.isTrue (Go.Eng.lptRun Try.prog Go.Proofs.Yteapghgoiodoiaa.tabSigns.sums (⟨13, 15, 15, 52, 54⟩ : Go.Eng.Fns) 56 40 1000 60 7 (.row [2, 2, 2]) (.pt 3)) = true := by kernel_rfl
set_option maxRecDepth 100000 in
theorem r19_8 : Go.Eng.isTrue (Go.Eng.lptRun Try.prog Go.Proofs.Yteapghgoiodoiaa.tabSigns.sums (⟨13, 15, 15, 52, 54⟩ : Go.Eng.Fns) 56 40 1000 60 7 (.row [2, 2, 2]) (.pt 4)) = true := by kernel_rfl
set_option maxRecDepth 100000 in
theorem r19_9 : Go.Eng.isTrue (Go.Eng.lptRun Try.prog Go.Proofs.Yteapghgoiodoiaa.tabSigns.sums (⟨13, 15, 15, 52, 54⟩ : Go.Eng.Fns) 56 40 1000 60 7 (.row [2, 2, 2]) (.pt 5)) = true := by kernel_rfl
theorem r19 : Go.Eng.AllL (fun c => Go.Eng.isTrue (Go.Eng.lptRun Try.prog Go.Proofs.Yteapghgoiodoiaa.tabSigns.sums (⟨13, 15, 15, 52, 54⟩ : Go.Eng.Fns) 56 40 1000 60 7 (.row [2, 2, 2]) c) = true) Go.Eng.pclasses := ⟨r19_0, r19_1, r19_2, r19_3, r19_4, r19_5, r19_6, r19_7, r19_8, r19_9, trivial⟩
set_option maxRecDepth 100000 in
theorem r25_0 : Go.Eng.isTrue (Go.Eng.lptRun Try.prog Go.Proofs.Yteapghgoiodoiaa.tabSigns.sums (⟨13, 15, 15, 52, 54⟩ : Go.Eng.Fns) 56 40 1000 60 7 (.row [3, 2, 1]) .nil) = true := by kernel_rfl
set_option maxRecDepth 100000 in
theorem r25_1 : Go.Eng.isTrue (Go.Eng.lptRun Try.prog Go.Proofs.Yteapghgoiodoiaa.tabSigns.sums (⟨13, 15, 15, 52, 54⟩ : Go.Eng.Fns) 56 40 1000 60 7 (.row [3, 2, 1]) .zero) = true := by kernel_rfl
set_option maxRecDepth 100000 in
theorem r25_2 : Go.Eng.isTrue (Go.Eng.lptRun Try.prog Go.Proofs.Yteapghgoiodoiaa.tabSigns.sums (⟨13, 15, 15, 52, 54⟩ : Go.Eng.Fns) 56 40 1000 60 7 (.row [3, 2, 1]) .no) = true := by kernel_rfl
set_option maxRecDepth 100000 in
theorem r25_3 : Go.Eng.isTrue (Go.Eng.lptRun Try.prog Go.Proofs.Yteapghgoiodoiaa.tabSigns.sums (⟨13, 15, 15, 52, 54⟩ : Go.Eng.Fns) 56 40 1000 60 7 (.row [3, 2, 1]) .long) = true := by kernel_rfl
set_option maxRecDepth 100000 in
theorem r25_4 : Go.Eng.isTrue (Go.Eng.lptRun Try.prog Go.Proofs.Yteapghgoiodoiaa.tabSigns.sums (⟨13, 15, 15, 52, 54⟩ : Go.Eng.Fns) 56 40 1000 60 7 (.row [3, 2, 1]) (.pt 0)) = true := by kernel_rfl
set_option maxRecDepth 100000 in
theorem r25_5 : Go.Eng.isTrue (Go.Eng.lptRun Try.prog Go.Proofs.Yteapghgoiodoiaa.tabSigns.sums (⟨13, 15, 15, 52, 54⟩ : Go.Eng.Fns) 56 40 1000 60 7 (.row [3, 2, 1]) (.pt 1)) = true := by kernel_rfl
set_option maxRecDepth 100000 in
theorem r25_6 : Go.Eng.isTrue (Go.Eng.lptRun Try.prog Go.Proofs.Yteapghgoiodoiaa.tabSigns.sums (⟨13, 15, 15, 52, 54⟩ : Go.Eng.Fns) 56 40 1000 60 7 (.row [3, 2, 1]) (.pt 2)) = true := by kernel_rfl
set_option maxRecDepth 100000 in
theorem r25_7 : Go.Eng.isTrue (Go.Eng.lptRun Try.prog Go.Proofs.Yteapghgoiodoiaa.tabSigns.sums (⟨13, 15, 15, 52, 54⟩ : Go.Eng.Fns) 56 40 1000 60 7 (.row [3, 2, 1]) (.pt 3)) = true := by kernel_rfl
set_option maxRecDepth 100000 in
theorem r25_8 : Go.Eng.isTrue (Go.Eng.lptRun Try.prog Go.Proofs.Yteapghgoiodoiaa.tabSigns.sums (⟨13, 15, 15, 52, 54⟩ : Go.Eng.Fns) 56 40 1000 60 7 (.row [3, 2, 1]) (.pt 4)) = true := by kernel_rfl
set_option maxRecDepth 100000 in
theorem r25_9 : Go.Eng.isTrue (Go.Eng.lptRun Try.prog Go.Proofs.Yteapghgoiodoiaa.tabSigns.sums (⟨13, 15, 15, 52, 54⟩ : Go.Eng.Fns) 56 40 1000 60 7 (.row [3, 2, 1]) (.pt 5)) = true := by kernel_rfl
theorem r25 : Go.Eng.AllL (fun c => Go.Eng.isTrue (Go.Eng.lptRun Try.prog Go.Proofs.Yteapghgoiodoiaa.tabSigns.sums (⟨13, 15, 15, 52, 54⟩ : Go.Eng.Fns) 56 40 1000 60 7 (.row [3, 2, 1]) c) = true) Go.Eng.pclasses := ⟨r25_0, r25_1, r25_2, r25_3, r25_4, r25_5, r25_6, r25_7, r25_8, r25_9, trivial⟩
set_option maxRecDepth 100000 in
theorem r31_0 : Go.Eng.isTrue (Go.Eng.lptRun Try.prog Go.Proofs.Yteapghgoiodoiaa.tabSigns.sums (⟨13, 15, 15, 52, 54⟩ : Go.Eng.Fns) 56 40 1000 60 7 (.row [5]) .nil) = true := by kernel_rfl
set_option maxRecDepth 100000 in
theorem r31_1 : Go.Eng.isTrue (Go.Eng.lptRun Try.prog Go.Proofs.Yteapghgoiodoiaa.tabSigns.sums (⟨13, 15, 15, 52, 54⟩ : Go.Eng.Fns) 56 40 1000 60 7 (.row [5]) .zero) = true := by kernel_rfl
set_option maxRecDepth 100000 in
theorem r31_2 : Go.Eng.isTrue (Go.Eng.lptRun Try.prog Go.Proofs.Yteapghgoiodoiaa.tabSigns.sums (⟨13, 15, 15, 52, 54⟩ : Go.Eng.Fns) 56 40 1000 60 7 (.row [5]) .no) = true := by kernel_rfl
set_option maxRecDepth 100000 in
theorem r31_3 : Go.Eng.isTrue (Go.Eng.lptRun Try.prog Go.Proofs.Yteapghgoiodoiaa.tabSigns.sums (⟨13, 15, 15, 52, 54⟩ : Go.Eng.Fns) 56 40 1000 60 7 (.row [5]) .long) = true := by kernel_rfl
set_option maxRecDepth 100000 in
theorem r31_4 : Go.Eng.isTrue (Go.Eng.lptRun Try.prog Go.Proofs.Yteapghgoiodoiaa.tabSigns.sums (⟨13, 15, 15, 52, 54⟩ : Go.Eng.Fns) 56 40 1000 60 7 (.row [5]) (.pt 0)) = true := by kernel_rfl
set_option maxRecDepth 100000 in
theorem r31_5 : Go.Eng.isTrue (Go.Eng.lptRun Try.prog Go.Proofs.Yteapghgoiodoiaa.tabSigns.sums (⟨13, 15, 15, 52, 54⟩ : Go.Eng.Fns) 56 40 1000 60 7 (.row [5]) (.pt 1)) = true := by kernel_rfl
set_option maxRecDepth 100000 in
theorem r31_6 : Go.Eng.isTrue (Go.Eng.lptRun Try.prog Go.Proofs.Yteapghgoiodoiaa.tabSigns.sums (⟨13, 15, 15, 52, 54⟩ : Go.Eng.Fns) 56 40 1000 60 7 (.row [5]) (.pt 2)) = true := by kernel_rfl
set_option maxRecDepth 100000 in
theorem r31_7 : Go.Eng.isTrue (Go.Eng.lptRun Try.prog Go.Proofs.Yteapghgoiodoiaa.tabSigns.sums (⟨13, 15, 15, 52, 54⟩ : Go.Eng.Fns) 56 40 1000 60 7 (.row [5]) (.pt 3)) = true := by kernel_rfl
set_option maxRecDepth 100000 in
theorem r31_8 : Go.Eng.isTrue (Go.Eng.lptRun Try.prog Go.Proofs.Yteapghgoiodoiaa.tabSigns.sums (⟨13, 15, 15, 52, 54⟩ : Go.Eng.Fns) 56 40 1000 60 7 (.row [5]) (.pt 4)) = true := by kernel_rfl
set_option maxRecDepth 100000 in
theorem r31_9 : Go.Eng.isTrue (Go.Eng.lptRun Try.prog Go.Proofs.Yteapghgoiodoiaa.tabSigns.sums (⟨13, 15, 15, 52, 54⟩ : Go.Eng.Fns) 56 40 1000 60 7 (.row [5]) (.pt 5)) = true := by kernel_rfl
theorem r31 : Go.Eng.AllL (fun c => Go.Eng.isTrue (Go.Eng.lptRun Try.prog Go.Proofs.Yteapghgoiodoiaa.tabSigns.sums (⟨13, 15, 15, 52, 54⟩ : Go.Eng.Fns) 56 40 1000 60 7 (.row [5]) c) = true) Go.Eng.pclasses := ⟨r31_0, r31_1, r31_2, r31_3, r31_4, r31_5, r31_6, r31_7, r31_8, r31_9, trivial⟩
end Go.Proofs.Yteapghgoiodoiaa.fnExactDiagPowersRuns
