/- The runs of FnExactDiagPowers, part 2. -/
import Derived.Test.YteapghgoiodoiaaEngZd
import Derived.Test.YteapghgoiodoiaaSignsZ
import Derived.Test.YteapghgoiodoiaaProg
namespace Go.Proofs.Yteapghgoiodoiaa.fnExactDiagPowersRuns
set_option linter.unusedVariables false
set_option linter.unusedSectionVars false
set_option linter.unusedSimpArgs false
set_option maxRecDepth 100000 in
theorem r2_0 : Go.Eng.isTrue (Go.Eng.lptRun Try.prog Go.Proofs.Yteapghgoiodoiaa.tabSigns.sums (⟨13, 15, 15, 52, 54⟩ : Go.Eng.Fns) 56 40 1000 60 7 .no .nil) = true := by kernel_rfl
set_option maxRecDepth 100000 in
theorem r2_1 : Go.Eng.isTrue (Go.Eng.lptRun Try.prog Go.Proofs.Yteapghgoiodoiaa.tabSigns.sums (⟨13, 15, 15, 52, 54⟩ : Go.Eng.Fns) 56 40 1000 60 7 .no .zero) = true := by kernel_rfl
set_option maxRecDepth 100000 in
theorem r2_2 : Go.Eng.isTrue (Go.Eng.lptRun Try.prog Go.Proofs.Yteapghgoiodoiaa.tabSigns.sums (⟨13, 15, 15, 52, 54⟩ : Go.Eng.Fns) 56 40 1000 60 7 .no .no) = true := by kernel_rfl
set_option maxRecDepth 100000 in
theorem r2_3 : Go.Eng.isTrue (Go.Eng.lptRun Try.prog Go.Proofs.Yteapghgoiodoiaa.tabSigns.sums (⟨13, 15, 15, 52, 54⟩ : Go.Eng.Fns) 56 40 1000 60 7 .no .long) = true := by kernel_rfl
set_option maxRecDepth 100000 in
theorem r2_4 : Go.Eng.isTrue (Go.Eng.lptRun Try.prog Go.Proofs.Yteapghgoiodoiaa.tabSigns.sums (⟨13, 15, 15, 52, 54⟩ : Go.Eng.Fns) 56 40 1000 60 7 .no (.pt 0)) = true := by kernel_rfl
set_option maxRecDepth 100000 in
theorem r2_5 : Go.Eng.isTrue (Go.Eng.lptRun Try.prog Go.Proofs.Yteapghgoiodoiaa.tabSigns.sums (⟨13, 15, 15, 52, 54⟩ : Go.Eng.Fns) 56 40 1000 60 7 .no (.pt 1)) = true := by kernel_rfl
set_option maxRecDepth 100000 in
theorem r2_6 : Go.Eng.isTrue (Go.Eng.lptRun Try.prog Go.Proofs.Yteapghgoiodoiaa.tabSigns.sums (⟨13, 15, 15, 52, 54⟩ : Go.Eng.Fns) 56 40 1000 60 7 .no (.pt 2)) = true := by kernel_rfl
set_option maxRecDepth 100000 in
theorem r2_7 : Go.Eng.isTrue (Go.Eng.lptRun Try.prog Go.Proofs.Yteapghgoiodoiaa.tabSigns.sums (⟨13, 15, 15, 52, 54⟩ : Go.Eng.Fns) 56 40 1000 60 7 .no (.pt 3)) = true := by kernel_rfl
set_option maxRecDepth 100000 in
theorem r2_8 : Go.Eng.isTrue (Go.Eng.lptRun Try.prog Go.Proofs.Yteapghgoiodoiaa.tabSigns.sums (⟨13, 15, 15, 52, 54⟩ : Go.Eng.Fns) 56 40 1000 60 7 .no (.pt 4)) = true := by kernel_rfl
set_option maxRecDepth 100000 in
theorem r2_9 : Go.Eng.isTrue (Go.Eng.lptRun Try.prog Go.Proofs.Yteapghgoiodoiaa.tabSigns.sums (⟨13, 15, 15, 52, 54⟩ : Go.Eng.Fns) 56 40 1000 60 7 .no (.pt 5)) = true := by kernel_rfl
theorem r2 : Go.Eng.AllL (fun c => Go.Eng.isTrue (Go.Eng.lptRun Try.prog Go.Proofs.Yteapghgoiodoiaa.tabSigns.sums (⟨13, 15, 15, 52, 54⟩ : Go.Eng.Fns) 56 40 1000 60 7 .no c) = true) Go.Eng.pclasses := ⟨r2_0, r2_1, r2_2, r2_3, r2_4, r2_5, r2_6, r2_7, r2_8, r2_9, trivial⟩
set_option maxRecDepth 100000 in
theorem r8_0 : Go.Eng.isTrue (Go.Eng.lptRun Try.prog Go.Proofs.Yteapghgoiodoiaa.tabSigns.sums (⟨13, 15, 15, 52, 54⟩ : Go.Eng.Fns) 56 40 1000 60 7 (.row [1, 1, 1, 1]) .nil) = true := by kernel_rfl
set_option maxRecDepth 100000 in
theorem r8_1 : Go.Eng.isTrue (Go.Eng.lptRun Try.prog Go.Proofs.Yteapghgoiodoiaa.tabSigns.sums (⟨13, 15, 15, 52, 54⟩ : Go.Eng.Fns) 56 40 1000 60 7 (.row [1, 1, 1, 1]) .zero) = true := by kernel_rfl
set_option maxRecDepth 100000 in
theorem r8_2 : Go.Eng.isTrue (Go.Eng.lptRun Try.prog Go.Proofs.Yteapghgoiodoiaa.tabSigns.sums (⟨13, 15, 15, 52, 54⟩ : Go.Eng.Fns) 56 40 1000 60 7 (.row [1, 1, 1, 1]) .no) = true := by kernel_rfl
set_option maxRecDepth 100000 in
theorem r8_3 : Go.Eng.isTrue (Go.Eng.lptRun Try.prog Go.Proofs.Yteapghgoiodoiaa.tabSigns.sums (⟨13, 15, 15, 52, 54⟩ : Go.Eng.Fns) 56 40 1000 60 7 (.row [1, 1, 1, 1]) .long) = true := by kernel_rfl
set_option maxRecDepth 100000 in
theorem r8_4 : Go.Eng.isTrue (Go.Eng.lptRun Try.prog Go.Proofs.Yteapghgoiodoiaa.tabSigns.sums (⟨13, 15, 15, 52, 54⟩ : Go.Eng.Fns) 56 40 1000 60 7 (.row [1, 1, 1, 1]) (.pt 0)) = true := by kernel_rfl
set_option maxRecDepth 100000 in
theorem r8_5 : Go.Eng.isTrue (Go.Eng.lptRun Try.prog Go.Proofs.Yteapghgoiodoiaa.tabSigns.sums (⟨13, 15, 15, 52, 54⟩ : Go.Eng.Fns) 56 40 1000 60 7 (.row [1, 1, 1, 1]) (.pt 1)) = true := by kernel_rfl
set_option maxRecDepth 100000 in
theorem r8_6 : Go.Eng.isTrue (Go.Eng.lptRun Try.prog Go.Proofs.Yteapghgoiodoiaa.tabSigns.sums (⟨13, 15, 15, 52, 54⟩ : Go.Eng.Fns) 56 40 1000 60 7 (.row [1, 1, 1, 1]) (.pt 2)) = true := by kernel_rfl
set_option maxRecDepth 100000 in
theorem r8_7 : Go.Eng.isTrue (Go.Eng.lptRun Try.prog Go.Proofs.Yteapghgoiodoiaa.tabSigns.sums (⟨13, 15, 15, 52, 54⟩ : Go.Eng.Fns) 56 40 1000 60 7 (.row [1, 1, 1, 1]) (.pt 3)) = true := by kernel_rfl
set_option maxRecDepth 100000 in
theorem r8_8 : Go.Eng.isTrue (Go.Eng.lptRun Try.prog Go.Proofs.Yteapghgoiodoiaa.tabSigns.sums (⟨13, 15, 15, 52, 54⟩ : Go.Eng.Fns) 56 40 1000 60 7 (.row [1, 1, 1, 1]) (.pt 4)) = true := by kernel_rfl
set_option maxRecDepth 100000 in
theorem r8_9 : Go.Eng.isTrue (Go.Eng.lptRun Try.prog Go.Proofs.Yteapghgoiodoiaa.tabSigns.sums (⟨13, 15, 15, 52, 54⟩ : Go.Eng.Fns) 56 40 1000 60 7 (.row [1, 1, 1, 1]) (.pt 5)) = true := by kernel_rfl
theorem r8 : Go.Eng.AllL (fun c => Go.Eng.isTrue (Go.Eng.lptRun Try.prog Go.Proofs.Yteapghgoiodoiaa.tabSigns.sums (⟨13, 15, 15, 52, 54⟩ : Go.Eng.Fns) 56 40 1000 60 7 (.row [1, 1, 1, 1]) c) = true) Go.Eng.pclasses := ⟨r8_0, r8_1, r8_2, r8_3, r8_4, r8_5, r8_6, r8_7, r8_8, r8_9, trivial⟩
set_option maxRecDepth 100000 in
theorem r14_0 : Go.Eng.isTrue (Go.Eng.lptRun Try.prog Go.Proofs.Yteapghgoiodoiaa.tabSigns.sums (⟨13, 15, 15, 52, 54⟩ : Go.Eng.Fns) 56 40 1000 60 7 (.row [2, 1, 1, 1]) .nil) = true := by kernel_rfl
set_option maxRecDepth 100000 in
theorem r14_1 : Go.Eng.isTrue (Go.Eng.lptRun Try.prog Go.Proofs.Yteapghgoiodoiaa.tabSigns.sums (⟨13, 15, 15, 52, 54⟩ : Go.Eng.Fns) 56 40 1000 60 7 (.row [2, 1, 1, 1]) .zero) = true := by kernel_rfl
set_option maxRecDepth 100000 in
theorem r14_2 : Go.Eng.isTrue (Go.Eng.lptRun Try.prog Go.Proofs.Yteapghgoiodoiaa.tabSigns.sums (⟨13, 15, 15, 52, 54⟩ : Go.Eng.Fns) 56 40 1000 60 7 (.row [2, 1, 1, 1]) .no) = true := by kernel_rfl
set_option maxRecDepth 100000 in
theorem r14_3 : Go.Eng.isTrue (Go.Eng.lptRun Try.prog Go.Proofs.Yteapghgoiodoiaa.tabSigns.sums (⟨13, 15, 15, 52, 54⟩ : Go.Eng.Fns) 56 40 1000 60 7 (.row [2, 1, 1, 1]) .long) = true := by kernel_rfl
set_option maxRecDepth 100000 in
theorem r14_4 : Go.Eng.isTrue (Go.Eng.lptRun Try.prog Go.Proofs.Yteapghgoiodoiaa.tabSigns.sums (⟨13, 15, 15, 52, 54⟩ : Go.Eng.Fns) 56 40 1000 60 7 (.row [2, 1, 1, 1]) (.pt 0)) = true := by kernel_rfl
set_option maxRecDepth 100000 in
theorem r14_5 : Go.Eng.isTrue (Go.Eng.lptRun Try.prog Go.Proofs.Yteapghgoiodoiaa.tabSigns.sums (⟨13, 15, 15, 52, 54⟩ : Go.Eng.Fns) 56 40 1000 60 7 (.row [2, 1, 1, 1]) (.pt 1)) = true := by kernel_rfl
set_option maxRecDepth 100000 in
theorem r14_6 : Go.Eng.isTrue (Go.Eng.lptRun Try.prog Go.Proofs.Yteapghgoiodoiaa.tabSigns.sums (⟨13, 15, 15, 52, 54⟩ : Go.Eng.Fns) 56 40 1000 60 7 (.row [2, 1, 1, 1]) (.pt 2)) = true := by kernel_rfl
set_option maxRecDepth 100000 in
theorem r14_7 : Go.Eng.isTrue (Go.Eng.lptRun Try.prog Go.Proofs.Yteapghgoiodoiaa.tabSigns.sums (⟨13, 15, 15, 52, 54⟩ : Go.Eng.Fns) 56 40 1000 60 7 (.row [2, 1, 1, 1]) (.pt 3)) = true := by kernel_rfl
set_option maxRecDepth 100000 in
theorem r14_8 : Go.Eng.isTrue (Go.Eng.lptRun Try.prog Go.Proofs.Yteapghgoiodoiaa.tabSigns.sums (⟨13, 15, 15, 52, 54⟩ : Go.Eng.Fns) 56 40 1000 60 7 (.row [2, 1, 1, 1]) (.pt 4)) = true := by kernel_rfl
set_option maxRecDepth 100000 in
theorem r14_9 : Go.Eng.isTrue (Go.Eng.lptRun Try.prog Go.Proofs.Yteapghgoiodoiaa.tabSigns.sums (⟨13, 15, 15, 52, 54⟩ : Go.Eng.Fns) 56 40 1000 60 7 (.row [2, 1, 1, 1]) (.pt 5)) = true := by kernel_rfl
theorem r14 : Go.Eng.AllL (fun c => Go.Eng.isTrue (Go.Eng.lptRun Try.prog Go.Proofs.Yteapghgoiodoiaa.tabSigns.sums (⟨13, 15, 15, 52, 54⟩ : Go.Eng.Fns) 56 40 1000 60 7 (.row [2, 1, 1, 1]) c) = true) Go.Eng.pclasses := ⟨r14_0, r14_1, r14_2, r14_3, r14_4, r14_5, r14_6, r14_7, r14_8, r14_9, trivial⟩
set_option maxRecDepth 100000 in
theorem r20_0 : Go.Eng.isTrue (Go.Eng.lptRun Try.prog Go.Proofs.Yteapghgoiodoiaa.tabSigns.sums (⟨13, 15, 15, 52, 54⟩ : Go.Eng.Fns) 56 40 1000 60 7 (.row [3]) .nil) = true := by kernel_rfl
set_option maxRecDepth 100000 in
theorem r20_1 : Go.Eng.isTrue (Go.Eng.lptRun Try.prog Go.Proofs.Yteapghgoiodoiaa.tabSigns.sums (⟨13, 15, 15, 52, 54⟩ : Go.Eng.Fns) 56 40 1000 60 7 (.row [3]) .zero) = true := by kernel_rfl
set_option maxRecDepth 100000 in
theorem r20_2 : Go.Eng.isTrue (Go.Eng.lptRun Try.prog Go.Proofs.Yteapghgoiodoiaa.tabSigns.sums (⟨13, 15, 15, 52, 54⟩ : Go.Eng.Fns) 56 40 1000 60 7 (.row [3]) .no) = true := by kernel_rfl
set_option maxRecDepth 100000 in
theorem r20_3 : Go.Eng.isTrue (Go.Eng.lptRun Try.prog Go.Proofs.Yteapghgoiodoiaa.tabSigns.sums (⟨13, 15, 15, 52, 54⟩ : Go.Eng.Fns) 56 40 1000 60 7 (.row [3]) .long) = true := by kernel_rfl
set_option maxRecDepth 100000 in
theorem r20_4 : Go.Eng.isTrue (Go.Eng.lptRun Try.prog Go.Proofs.Yteapghgoiodoiaa.tabSigns.sums (⟨13, 15, 15, 52, 54⟩ : Go.Eng.Fns) 56 40 1000 60 7 (.row [3]) (.pt 0)) = true := by kernel_rfl
set_option maxRecDepth 100000 in
theorem r20_5 : Go.Eng.isTrue (Go.Eng.lptRun Try.prog Go.Proofs.Yteapghgoiodoiaa.tabSigns.sums (⟨13, 15, 15, 52, 54⟩ : Go.Eng.Fns) 56 40 1000 60 7 (.row [3]) (.pt 1)) = true := by kernel_rfl
set_option maxRecDepth 100000 in
theorem r20_6 : Go.Eng.isTrue (Go.Eng.lptRun Try.prog Go.Proofs.Yteapghgoiodoiaa.tabSigns.sums (⟨13, 15, 15, 52, 54⟩ : Go.Eng.Fns) 56 40 1000 60 7 (.row [3]) (.pt 2)) = true := by kernel_rfl
set_option maxRecDepth 100000 in
theorem r20_7 : Go.Eng.isTrue (Go.Eng.lptRun Try.prog Go.Proofs.Yteapghgoiodoiaa.tabSigns.sums (⟨13, 15, 15, 52, 54⟩ : Go.Eng.Fns) 56 40 1000 60 7 (.row [3]) (.pt 3)) = true := by kernel_rfl
set_option maxRecDepth 100000 in
theorem r20_8 : Go.Eng.isTrue (Go.Eng.lptRun Try.prog Go.Proofs.Yteapghgoiodoiaa.tabSigns.sums (⟨13, 15, 15, 52, 54⟩ : Go.Eng.Fns) 56 40 1000 60 7 (.row [3]) (.pt 4)) = true := by kernel_rfl
set_option maxRecDepth 100000 in
theorem r20_9 : Go.Eng.isTrue (Go.Eng.lptRun Try.prog Go.Proofs.Yteapghgoiodoiaa.tabSigns.sums (⟨13, 15, 15, 52, 54⟩ : Go.Eng.Fns) 56 40 1000 60 7 (.row [3]) (.pt 5)) = true := by kernel_rfl
theorem r20 : Go.Eng.AllL (fun c => Go.Eng.isTrue (Go.Eng.lptRun Try.prog Go.Proofs.Yteapghgoiodoiaa.tabSigns.sums (⟨13, 15, 15, 52, 54⟩ : Go.Eng.Fns) 56 40 1000 60 7 (.row [3]) c) = true) Go.Eng.pclasses := ⟨r20_0, r20_1, r20_2, r20_3, r20_4, r20_5, r20_6, r20_7, r20_8, r20_9, trivial⟩
set_option maxRecDepth 100000 in
theorem r26_0 : Go.Eng.isTrue (Go.Eng.lptRun Try.prog Go.Proofs.Yteapghgoiodoiaa.tabSigns.sums (⟨13, 15, 15, 52, 54⟩ : Go.Eng.Fns) 56 40 1000 60 7 (.row [3, 3]) .nil) = true := by kernel_rfl
set_option maxRecDepth 100000 in
theorem r26_1 : Go.Eng.isTrue (Go.Eng.lptRun Try.prog Go.Proofs.Yteapghgoiodoiaa.tabSigns.sums (⟨13, 15, 15, 52, 54⟩ : Go.Eng.Fns) 56 40 1000 60 7 (.row [3, 3]) .zero) = true := by kernel_rfl
set_option maxRecDepth 100000 in
theorem r26_2 : Go.Eng.isTrue (Go.Eng.lptRun Try.prog Go.Proofs.Yteapghgoiodoiaa.tabSigns.sums (⟨13, 15, 15, 52, 54⟩ : Go.Eng.Fns) 56 40 1000 60 7 (.row [3, 3]) .no) = true := by kernel_rfl
set_option maxRecDepth 100000 in
theorem r26_3 : Go.Eng.isTrue (Go.Eng.lptRun Try.prog Go.Proofs.Yteapghgoiodoiaa.tabSigns.sums (⟨13, 15, 15, 52, 54⟩ : Go.Eng.Fns) 56 40 1000 60 7 (.row [3, 3]) .long) = true := by kernel_rfl
set_option maxRecDepth 100000 in
theorem r26_4 : Go.Eng.isTrue (Go.Eng.lptRun Try.prog Go.Proofs.Yteapghgoiodoiaa.tabSigns.sums (⟨13, 15, 15, 52, 54⟩ : Go.Eng.Fns) 56 40 1000 60 7 (.row [3, 3]) (.pt 0)) = true := by kernel_rfl
set_option maxRecDepth 100000 in
theorem r26_5 : Go.Eng.isTrue (Go.Eng.lptRun Try.prog Go.Proofs.Yteapghgoiodoiaa.tabSigns.sums (⟨13, 15, 15, 52, 54⟩ : Go.Eng.Fns) 56 40 1000 60 7 (.row [3, 3]) (.pt 1)) = true := by kernel_rfl
set_option maxRecDepth 100000 in
theorem r26_6 : Go.Eng.isTrue (Go.Eng.lptRun Try.prog Go.Proofs.Yteapghgoiodoiaa.tabSigns.sums (⟨13, 15, 15, 52, 54⟩ : Go.Eng.Fns) 56 40 1000 60 7 (.row [3, 3]) (.pt 2)) = true := by kernel_rfl
set_option maxRecDepth 100000 in
theorem r26_7 : Go.Eng.isTrue (Go.Eng.lptRun Try.prog Go.Proofs.Yteapghgoiodoiaa.tabSigns.sums (⟨13, 15, 15, 52, 54⟩ : Go.Eng.Fns) 56 40 1000 60 7 (.row [3, 3]) (.pt 3)) = true := by kernel_rfl
set_option maxRecDepth 100000 in
theorem r26_8 : Go.Eng.isTrue (Go.Eng.lptRun Try.prog Go.Proofs.Yteapghgoiodoiaa.tabSigns.sums (⟨13, 15, 15, 52, 54⟩ : Go.Eng.Fns) 56 40 1000 60 7 (.row [3, 3]) (.pt 4)) = true := by kernel_rfl
set_option maxRecDepth 100000 in
theorem r26_9 : Go.Eng.isTrue (Go.Eng.lptRun Try.prog Go.Proofs.Yteapghgoiodoiaa.tabSigns.sums (⟨13, 15, 15, 52, 54⟩ : Go.Eng.Fns) 56 40 1000 60 7 (.row [3, 3]) (.pt 5)) = true := by kernel_rfl
theorem r26 : Go.Eng.AllL (fun c => Go.Eng.isTrue (Go.Eng.lptRun Try.prog Go.Proofs.Yteapghgoiodoiaa.tabSigns.sums (⟨13, 15, 15, 52, 54⟩ : Go.Eng.Fns) 56 40 1000 60 7 (.row [3, 3]) c) = true) Go.Eng.pclasses := ⟨r26_0, r26_1, r26_2, r26_3, r26_4, r26_5, r26_6, r26_7, r26_8, r26_9, trivial⟩
set_option maxRecDepth 100000 in
theorem r32_0 : Go.Eng.isTrue (Go.Eng.lptRun Try.prog Go.Proofs.Yteapghgoiodoiaa.tabSigns.sums (⟨13, 15, 15, 52, 54⟩ : Go.Eng.Fns) 56 40 1000 60 7 (.row [5, 1]) .nil) = true := by kernel_rfl
set_option maxRecDepth 100000 in
theorem r32_1 : Go.Eng.isTrue (Go.Eng.lptRun Try.prog Go.Proofs.Yteapghgoiodoiaa.tabSigns.sums (⟨13, 15, 15, 52, 54⟩ : Go.Eng.Fns) 56 40 1000 60 7 (.row [5, 1]) .zero) = true := by kernel_rfl
set_option maxRecDepth 100000 in
theorem r32_2 : Go.Eng.isTrue (Go.Eng.lptRun Try.prog Go.Proofs.Yteapghgoiodoiaa.tabSigns.sums (⟨13, 15, 15, 52, 54⟩ : Go.Eng.Fns) 56 40 1000 60 7 (.row [5, 1]) .no) = true := by kernel_rfl
set_option maxRecDepth 100000 in
theorem r32_3 : Go.Eng.isTrue (Go.Eng.lptRun Try.prog Go.Proofs.Yteapghgoiodoiaa.tabSigns.sums (⟨13, 15, 15, 52, 54⟩ : Go.Eng.Fns) 56 40 1000 60 7 (.row [5, 1]) .long) = true := by kernel_rfl
set_option maxRecDepth 100000 in
theorem r32_4 : Go.Eng.isTrue (Go.Eng.lptRun Try.prog Go.Proofs.Yteapghgoiodoiaa.tabSigns.sums (⟨13, 15, 15, 52, 54⟩ : Go.Eng.Fns) 56 40 1000 60 7 (.row [5, 1]) (.pt 0)) = true := by kernel_rfl
set_option maxRecDepth 100000 in
theorem r32_5 : Go.Eng.isTrue (Go.Eng.lptRun Try.prog Go.Proofs.Yteapghgoiodoiaa.tabSigns.sums (⟨13, 15, 15, 52, 54⟩ : Go.Eng.Fns) 56 40 1000 60 7 (.row [5, 1]) (.pt 1)) = true := by kernel_rfl
set_option maxRecDepth 100000 in
theorem r32_6 : Go.Eng.isTrue (Go.Eng.lptRun Try.prog Go.Proofs.Yteapghgoiodoiaa.tabSigns.sums (⟨13, 15, 15, 52, 54⟩ : Go.Eng.Fns) 56 40 1000 60 7 (.row [5, 1]) (.pt 2)) = true := by kernel_rfl
set_option maxRecDepth 100000 in
theorem r32_7 : Go.Eng.isTrue (Go.Eng.lptRun Try.prog Go.Proofs.Yteapghgoiodoiaa.tabSigns.sums (⟨13, 15, 15, 52, 54⟩ : Go.Eng.Fns) 56 40 1000 60 7 (.row [5, 1]) (.pt 3)) = true := by kernel_rfl
set_option maxRecDepth 100000 in
theorem r32_8 : Go.Eng.isTrue (Go.Eng.lptRun Try.prog Go.Proofs.Yteapghgoiodoiaa.tabSigns.sums (⟨13, 15, 15, 52, 54⟩ : Go.Eng.Fns) 56 40 1000 60 7 (.row [5, 1]) (.pt 4)) = true := by kernel_rfl
set_option maxRecDepth 100000 in
theorem r32_9 : Go.Eng.isTrue (Go.Eng.lptRun Try.prog Go.Proofs.Yteapghgoiodoiaa.tabSigns.sums (⟨13, 15, 15, 52, 54⟩ : Go.Eng.Fns) 56 40 1000 60 7 (.row [5, 1]) (.pt 5)) = true := by kernel_rfl
theorem r32 : Go.Eng.AllL (fun c => Go.Eng.isTrue (Go.Eng.lptRun Try.prog Go.Proofs.Yteapghgoiodoiaa.tabSigns.sums (⟨13, 15, 15, 52, 54⟩ : Go.Eng.Fns) 56 40 1000 60 7 (.row [5, 1]) c) = true) Go.Eng.pclasses := ⟨r32_0, r32_1, r32_2, r32_3, r32_4, r32_5, r32_6, r32_7, r32_8, r32_9, trivial⟩
end Go.Proofs.Yteapghgoiodoiaa.fnExactDiagPowersRuns
