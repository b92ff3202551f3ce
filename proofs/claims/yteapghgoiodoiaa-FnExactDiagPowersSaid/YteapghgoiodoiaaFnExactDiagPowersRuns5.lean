/- The runs of FnExactDiagPowers, part 5. -/
import Derived.Test.YteapghgoiodoiaaEngZd
import Derived.Test.YteapghgoiodoiaaSignsZ
import Derived.Test.YteapghgoiodoiaaProg
namespace Go.Proofs.Yteapghgoiodoiaa.fnExactDiagPowersRuns
set_option linter.unusedVariables false
set_option linter.unusedSectionVars false
set_option linter.unusedSimpArgs false
set_option maxRecDepth 100000 in
theorem r5_0 : Go.Eng.isTrue (Go.Eng.lptRun Try.prog Go.Proofs.Yteapghgoiodoiaa.tabSigns.sums (⟨13, 15, 15, 52, 54⟩ : Go.Eng.Fns) 56 40 1000 60 7 (.row [1]) .nil) = true := by kernel_rfl
set_option maxRecDepth 100000 in
theorem r5_1 : Go.Eng.isTrue (Go.Eng.lptRun Try.prog Go.Proofs.Yteapghgoiodoiaa.tabSigns.sums (⟨13, 15, 15, 52, 54⟩ : Go.Eng.Fns) 56 40 1000 60 7 (.row [1]) .zero) = true := by kernel_rfl
set_option maxRecDepth 100000 in
theorem r5_2 : Go.Eng.isTrue (Go.Eng.lptRun Try.prog Go.Proofs.Yteapghgoiodoiaa.tabSigns.sums (⟨13, 15, 15, 52, 54⟩ : Go.Eng.Fns) 56 40 1000 60 7 (.row [1]) .no) = true := by kernel_rfl
set_option maxRecDepth 100000 in
theorem r5_3 : Go.Eng.isTrue (Go.Eng.lptRun Try.prog Go.Proofs.Yteapghgoiodoiaa.tabSigns.sums (⟨13, 15, 15, 52, 54⟩ : Go.Eng.Fns) 56 40 1000 60 7 (.row [1]) .long) = true := by kernel_rfl
set_option maxRecDepth 100000 in
theorem r5_4 : Go.Eng.isTrue (Go.Eng.lptRun Try.prog Go.Proofs.Yteapghgoiodoiaa.tabSigns.sums (⟨13, 15, 15, 52, 54⟩ : Go.Eng.Fns) 56 40 1000 60 7 (.row [1]) (.pt 0)) = true := by kernel_rfl
set_option maxRecDepth 100000 in
theorem r5_5 : Go.Eng.isTrue (Go.Eng.lptRun Try.prog Go.Proofs.Yteapghgoiodoiaa.tabSigns.sums (⟨13, 15, 15, 52, 54⟩ : Go.Eng.Fns) 56 40 1000 60 7 (.row [1]) (.pt 1)) = true := by kernel_rfl
set_option maxRecDepth 100000 in
theorem r5_6 : Go.Eng.isTrue (Go.Eng.lptRun Try.prog Go.Proofs.Yteapghgoiodoiaa.tabSigns.sums (⟨13, 15, 15, 52, 54⟩ : Go.Eng.Fns) 56 40 1000 60 7 (.row [1]) (.pt 2)) = true := by kernel_rfl
set_option maxRecDepth 100000 in
theorem r5_7 : Go.Eng.isTrue (Go.Eng.lptRun Try.prog Go.Proofs.Yteapghgoiodoiaa.tabSigns.sums (⟨13, 15, 15, 52, 54⟩ : Go.Eng.Fns) 56 40 1000 60 7 (.row [1]) (.pt 3)) = true := by kernel_rfl
set_option maxRecDepth 100000 in
theorem r5_8 : Go.Eng.isTrue (Go.Eng.lptRun Try.prog Go.Proofs.Yteapghgoiodoiaa.tabSigns.sums (⟨13, 15, 15, 52, 54⟩ : Go.Eng.Fns) 56 40 1000 60 7 (.row [1]) (.pt 4)) = true := by kernel_rfl
set_option maxRecDepth 100000 in
theorem r5_9 : Go.Eng.isTrue (Go.Eng.lptRun Try.prog Go.Proofs.Yteapghgoiodoiaa.tabSigns.sums (⟨13, 15, 15, 52, 54⟩ : Go.Eng.Fns) 56 40 1000 60 7 (.row [1]) (.pt 5)) = true := by kernel_rfl
theorem r5 : Go.Eng.AllL (fun c => Go.Eng.isTrue (Go.Eng.lptRun Try.prog Go.Proofs.Yteapghgoiodoiaa.tabSigns.sums (⟨13, 15, 15, 52, 54⟩ : Go.Eng.Fns) 56 40 1000 60 7 (.row [1]) c) = true) Go.Eng.pclasses := ⟨r5_0, r5_1, r5_2, r5_3, r5_4, r5_5, r5_6, r5_7, r5_8, r5_9, trivial⟩
set_option maxRecDepth 100000 in
theorem r11_0 : Go.Eng.isTrue (Go.Eng.lptRun Try.prog Go.Proofs.Yteapghgoiodoiaa.tabSigns.sums (⟨13, 15, 15, 52, 54⟩ : Go.Eng.Fns) 56 40 1000 60 7 (.row [2]) .nil) = true := by kernel_rfl
set_option maxRecDepth 100000 in
theorem r11_1 : Go.Eng.isTrue (Go.Eng.lptRun Try.prog Go.Proofs.Yteapghgoiodoiaa.tabSigns.sums (⟨13, 15, 15, 52, 54⟩ : Go.Eng.Fns) 56 40 1000 60 7 (.row [2]) .zero) = true := by kernel_rfl
set_option maxRecDepth 100000 in
theorem r11_2 : Go.Eng.isTrue (Go.Eng.lptRun Try.prog Go.Proofs.Yteapghgoiodoiaa.tabSigns.sums (⟨13, 15, 15, 52, 54⟩ : Go.Eng.Fns) 56 40 1000 60 7 (.row [2]) .no) = true := by kernel_rfl
set_option maxRecDepth 100000 in
theorem r11_3 : Go.Eng.isTrue (Go.Eng.lptRun Try.prog Go.Proofs.Yteapghgoiodoiaa.tabSigns.sums (⟨13, 15, 15, 52, 54⟩ : Go.Eng.Fns) 56 40 1000 60 7 (.row [2]) .long) = true := by kernel_rfl
set_option maxRecDepth 100000 in
theorem r11_4 : Go.Eng.isTrue (Go.Eng.lptRun Try.prog Go.Proofs.Yteapghgoiodoiaa.tabSigns.sums (⟨13, 15, 15, 52, 54⟩ : Go.Eng.Fns) 56 40 1000 60 7 (.row [2]) (.pt 0)) = true := by kernel_rfl
set_option maxRecDepth 100000 in
theorem r11_5 : Go.Eng.isTrue (Go.Eng.lptRun Try.prog Go.Proofs.Yteapghgoiodoiaa.tabSigns.sums (⟨13, 15, 15, 52, 54⟩ : Go.Eng.Fns) 56 40 1000 60 7 (.row [2]) (.pt 1)) = true := by kernel_rfl
set_option maxRecDepth 100000 in
theorem r11_6 : Go.Eng.isTrue (Go.Eng.lptRun Try.prog Go.Proofs.Yteapghgoiodoiaa.tabSigns.sums (⟨13, 15, 15, 52, 54⟩ : Go.Eng.Fns) 56 40 1000 60 7 (.row [2]) (.pt 2)) = true := by kernel_rfl
set_option maxRecDepth 100000 in
theorem r11_7 : Go.Eng.isTrue (Go.Eng.lptRun Try.prog Go.Proofs.Yteapghgoiodoiaa.tabSigns.sums (⟨13, 15, 15, 52, 54⟩ : Go.Eng.Fns) 56 40 1000 60 7 (.row [2]) (.pt 3)) = true := by kernel_rfl
set_option maxRecDepth 100000 in
theorem r11_8 : Go.Eng.isTrue (Go.Eng.lptRun Try.prog Go.Proofs.Yteapghgoiodoiaa.tabSigns.sums (⟨13, 15, 15, 52, 54⟩ : Go.Eng.Fns) 56 40 1000 60 7 (.row [2]) (.pt 4)) = true := by kernel_rfl
set_option maxRecDepth 100000 in
theorem r11_9 : Go.Eng.isTrue (Go.Eng.lptRun Try.prog Go.Proofs.Yteapghgoiodoiaa.tabSigns.sums (⟨13, 15, 15, 52, 54⟩ : Go.Eng.Fns) 56 40 1000 60 7 (.row [2]) (.pt 5)) = true := by kernel_rfl
theorem r11 : Go.Eng.AllL (fun c => Go.Eng.isTrue (Go.Eng.lptRun Try.prog Go.Proofs.Yteapghgoiodoiaa.tabSigns.sums (⟨13, 15, 15, 52, 54⟩ : Go.Eng.Fns) 56 40 1000 60 7 (.row [2]) c) = true) Go.Eng.pclasses := ⟨r11_0, r11_1, r11_2, r11_3, r11_4, r11_5, r11_6, r11_7, r11_8, r11_9, trivial⟩
set_option maxRecDepth 100000 in
theorem r17_0 : Go.Eng.isTrue (Go.Eng.lptRun Try.prog Go.Proofs.Yteapghgoiodoiaa.tabSigns.sums (⟨13, 15, 15, 52, 54⟩ : Go.Eng.Fns) 56 40 1000 60 7 (.row [2, 2, 1]) .nil) = true := by kernel_rfl
set_option maxRecDepth 100000 in
theorem r17_1 : Go.Eng.isTrue (Go.Eng.lptRun Try.prog Go.Proofs.Yteapghgoiodoiaa.tabSigns.sums (⟨13, 15, 15, 52, 54⟩ : Go.Eng.Fns) 56 40 1000 60 7 (.row [2, 2, 1]) .zero) = true := by kernel_rfl
set_option maxRecDepth 100000 in
theorem r17_2 : Go.Eng.isTrue (Go.Eng.lptRun Try.prog Go.Proofs.Yteapghgoiodoiaa.tabSigns.sums (⟨13, 15, 15, 52, 54⟩ : Go.Eng.Fns) 56 40 1000 60 7 (.row [2, 2, 1]) .no) = true := by kernel_rfl
set_option maxRecDepth 100000 in
theorem r17_3 : Go.Eng.isTrue (Go.Eng.lptRun Try.prog Go.Proofs.Yteapghgoiodoiaa.tabSigns.sums (⟨13, 15, 15, 52, 54⟩ : Go.Eng.Fns) 56 40 1000 60 7 (.row [2, 2, 1]) .long) = true := by kernel_rfl
set_option maxRecDepth 100000 in
theorem r17_4 : Go.Eng.isTrue (Go.Eng.lptRun Try.prog Go.Proofs.Yteapghgoiodoiaa.tabSigns.sums (⟨13, 15, 15, 52, 54⟩ : Go.Eng.Fns) 56 40 1000 60 7 (.row [2, 2, 1]) (.pt 0)) = true := by kernel_rfl
set_option maxRecDepth 100000 in
theorem r17_5 : Go.Eng.isTrue (Go.Eng.lptRun Try.prog Go.Proofs.Yteapghgoiodoiaa.tabSigns.sums (⟨13, 15, 15, 52, 54⟩ : Go.Eng.Fns) 56 40 1000 60 7 (.row [2, 2, 1]) (.pt 1)) = true := by kernel_rfl
set_option maxRecDepth 100000 in
theorem r17_6 : Go.Eng.isTrue (Go.Eng.lptRun Try.prog Go.Proofs.Yteapghgoiodoiaa.tabSigns.sums (⟨13, 15, 15, 52, 54⟩ : Go.Eng.Fns) 56 40 1000 60 7 (.row [2, 2, 1]) (.pt 2)) = true := by kernel_rfl
set_option maxRecDepth 100000 in
theorem r17_7 : Go.Eng.isTrue (Go.Eng.lptRun Try.prog Go.Proofs.Yteapghgoiodoiaa.tabSigns.sums (⟨13, 15, 15, 52, 54⟩ : Go.Eng.Fns) 56 40 1000 60 7 (.row [2, 2, 1]) (.pt 3)) = true := by kernel_rfl
set_option maxRecDepth 100000 in
theorem r17_8 : Go.Eng.isTrue (Go.Eng.lptRun Try.prog Go.Proofs.Yteapghgoiodoiaa.tabSigns.sums (⟨13, 15, 15, 52, 54⟩ : Go.Eng.Fns) 56 40 1000 60 7 (.row [2, 2, 1]) (.pt 4)) = true := by kernel_rfl
set_option maxRecDepth 100000 in
theorem r17_9 : Go.Eng.isTrue (Go.Eng.lptRun Try.prog Go.Proofs.Yteapghgoiodoiaa.tabSigns.sums (⟨13, 15, 15, 52, 54⟩ : Go.Eng.Fns) 56 40 1000 60 7 (.row [2, 2, 1]) (.pt 5)) = true := by kernel_rfl
theorem r17 : Go.Eng.AllL (fun c => Go.Eng.isTrue (Go.Eng.lptRun Try.prog Go.Proofs.Yteapghgoiodoiaa.tabSigns.sums (⟨13, 15, 15, 52, 54⟩ : Go.Eng.Fns) 56 40 1000 60 7 (.row [2, 2, 1]) c) = true) Go.Eng.pclasses := ⟨r17_0, r17_1, r17_2, r17_3, r17_4, r17_5, r17_6, r17_7, r17_8, r17_9, trivial⟩
set_option maxRecDepth 100000 in
theorem r23_0 : Go.Eng.isTrue (Go.Eng.lptRun Try.prog Go.Proofs.Yteapghgoiodoiaa.tabSigns.sums (⟨13, 15, 15, 52, 54⟩ : Go.Eng.Fns) 56 40 1000 60 7 (.row [3, 1, 1, 1]) .nil) = true := by kernel_rfl
set_option maxRecDepth 100000 in
theorem r23_1 : Go.Eng.isTrue (Go.Eng.lptRun Try.prog Go.Proofs.Yteapghgoiodoiaa.tabSigns.sums (⟨13, 15, 15, 52, 54⟩ : Go.Eng.Fns) 56 40 1000 60 7 (.row [3, 1, 1, 1]) .zero) = true := by kernel_rfl
set_option maxRecDepth 100000 in
theorem r23_2 : Go.Eng.isTrue (Go.Eng.lptRun Try.prog Go.Proofs.Yteapghgoiodoiaa.tabSigns.sums (⟨13, 15, 15, 52, 54⟩ : Go.Eng.Fns) 56 40 1000 60 7 (.row [3, 1, 1, 1]) .no) = true := by kernel_rfl
set_option maxRecDepth 100000 in
theorem r23_3 : Go.Eng.isTrue (Go.Eng.lptRun Try.prog Go.Proofs.Yteapghgoiodoiaa.tabSigns.sums (⟨13, 15, 15, 52, 54⟩ : Go.Eng.Fns) 56 40 1000 60 7 (.row [3, 1, 1, 1]) .long) = true := by kernel_rfl
set_option maxRecDepth 100000 in
theorem r23_4 : Go.Eng.isTrue (Go.Eng.lptRun Try.prog Go.Proofs.Yteapghgoiodoiaa.tabSigns.sums (⟨13, 15, 15, 52, 54⟩ : Go.Eng.Fns) 56 40 1000 60 7 (.row [3, 1, 1, 1]) (.pt 0)) = true := by kernel_rfl
set_option maxRecDepth 100000 in
theorem r23_5 : Go.Eng.isTrue (Go.Eng.lptRun Try.prog Go.Proofs.Yteapghgoiodoiaa.tabSigns.sums (⟨13, 15, 15, 52, 54⟩ : Go.Eng.Fns) 56 40 1000 60 7 (.row [3, 1, 1, 1]) (.pt 1)) = true := by kernel_rfl
set_option maxRecDepth 100000 in
theorem r23_6 : Go.Eng.isTrue (Go.Eng.lptRun Try.prog Go.Proofs.Yteapghgoiodoiaa.tabSigns.sums (⟨13, 15, 15, 52, 54⟩ : Go.Eng.Fns) 56 40 1000 60 7 (.row [3, 1, 1, 1]) (.pt 2)) = true := by kernel_rfl
set_option maxRecDepth 100000 in
theorem r23_7 : Go.Eng.isTrue (Go.Eng.lptRun Try.prog Go.Proofs.Yteapghgoiodoiaa.tabSigns.sums (⟨13, 15, 15, 52, 54⟩ : Go.Eng.Fns) 56 40 1000 60 7 (.row [3, 1, 1, 1]) (.pt 3)) = true := by kernel_rfl
set_option maxRecDepth 100000 in
theorem r23_8 : Go.Eng.isTrue (Go.Eng.lptRun Try.prog Go.Proofs.Yteapghgoiodoiaa.tabSigns.sums (⟨13, 15, 15, 52, 54⟩ : Go.Eng.Fns) 56 40 1000 60 7 (.row [3, 1, 1, 1]) (.pt 4)) = true := by kernel_rfl
set_option maxRecDepth 100000 in
theorem r23_9 : Go.Eng.isTrue (Go.Eng.lptRun Try.prog Go.Proofs.Yteapghgoiodoiaa.tabSigns.sums (⟨13, 15, 15, 52, 54⟩ : Go.Eng.Fns) 56 40 1000 60 7 (.row [3, 1, 1, 1]) (.pt 5)) = true := by kernel_rfl
theorem r23 : Go.Eng.AllL (fun c => Go.Eng.isTrue (Go.Eng.lptRun Try.prog Go.Proofs.Yteapghgoiodoiaa.tabSigns.sums (⟨13, 15, 15, 52, 54⟩ : Go.Eng.Fns) 56 40 1000 60 7 (.row [3, 1, 1, 1]) c) = true) Go.Eng.pclasses := ⟨r23_0, r23_1, r23_2, r23_3, r23_4, r23_5, r23_6, r23_7, r23_8, r23_9, trivial⟩
set_option maxRecDepth 100000 in
theorem r29_0 : Go.Eng.isTrue (Go.Eng.lptRun Try.prog Go.Proofs.Yteapghgoiodoiaa.tabSigns.sums (⟨13, 15, 15, 52, 54⟩ : Go.Eng.Fns) 56 40 1000 60 7 (.row [4, 1, 1]) .nil) = true := by kernel_rfl
set_option maxRecDepth 100000 in
theorem r29_1 : Go.Eng.isTrue (Go.Eng.lptRun Try.prog Go.Proofs.Yteapghgoiodoiaa.tabSigns.sums (⟨13, 15, 15, 52, 54⟩ : Go.Eng.Fns) 56 40 1000 60 7 (.row [4, 1, 1]) .zero) = true := by kernel_rfl
set_option maxRecDepth 100000 in
theorem r29_2 : Go.Eng.isTrue (Go.Eng.lptRun Try.prog Go.Proofs.Yteapghgoiodoiaa.tabSigns.sums (⟨13, 15, 15, 52, 54⟩ : Go.Eng.Fns) 56 40 1000 60 7 (.row [4, 1, 1]) .no) = true := by kernel_rfl
set_option maxRecDepth 100000 in
theorem r29_3 : Go.Eng.isTrue (Go.Eng.lptRun Try.prog Go.Proofs.Yteapghgoiodoiaa.tabSigns.sums (⟨13, 15, 15, 52, 54⟩ : Go.Eng.Fns) 56 40 1000 60 7 (.row [4, 1, 1]) .long) = true := by kernel_rfl
set_option maxRecDepth 100000 in
theorem r29_4 : Go.Eng.isTrue (Go.Eng.lptRun Try.prog Go.Proofs.Yteapghgoiodoiaa.tabSigns.sums (⟨13, 15, 15, 52, 54⟩ : Go.Eng.Fns) 56 40 1000 60 7 (.row [4, 1, 1]) (.pt 0)) = true := by kernel_rfl
set_option maxRecDepth 100000 in
theorem r29_5 : Go.Eng.isTrue (Go.Eng.lptRun Try.prog Go.Proofs.Yteapghgoiodoiaa.tabSigns.sums (⟨13, 15, 15, 52, 54⟩ : Go.Eng.Fns) 56 40 1000 60 7 (.row [4, 1, 1]) (.pt 1)) = true := by kernel_rfl
set_option maxRecDepth 100000 in
theorem r29_6 : Go.Eng.isTrue (Go.Eng.lptRun Try.prog Go.Proofs.Yteapghgoiodoiaa.tabSigns.sums (⟨13, 15, 15, 52, 54⟩ : Go.Eng.Fns) 56 40 1000 60 7 (.row [4, 1, 1]) (.pt 2)) = true := by kernel_rfl
set_option maxRecDepth 100000 in
theorem r29_7 : Go.Eng.isTrue (Go.Eng.lptRun Try.prog Go.Proofs.Yteapghgoiodoiaa.tabSigns.sums (⟨13, 15, 15, 52, 54⟩ : Go.Eng.Fns) 56 40 1000 60 7 (.row [4, 1, 1]) (.pt 3)) = true := by kernel_rfl
set_option maxRecDepth 100000 in
theorem r29_8 : Go.Eng.isTrue (Go.Eng.lptRun Try.prog Go.Proofs.Yteapghgoiodoiaa.tabSigns.sums (⟨13, 15, 15, 52, 54⟩ : Go.Eng.Fns) 56 40 1000 60 7 (.row [4, 1, 1]) (.pt 4)) = true := by kernel_rfl
set_option maxRecDepth 100000 in
theorem r29_9 : Go.Eng.isTrue (Go.Eng.lptRun Try.prog Go.Proofs.Yteapghgoiodoiaa.tabSigns.sums (⟨13, 15, 15, 52, 54⟩ : Go.Eng.Fns) 56 40 1000 60 7 (.row [4, 1, 1]) (.pt 5)) = true := by kernel_rfl
theorem r29 : Go.Eng.AllL (fun c => Go.Eng.isTrue (Go.Eng.lptRun Try.prog Go.Proofs.Yteapghgoiodoiaa.tabSigns.sums (⟨13, 15, 15, 52, 54⟩ : Go.Eng.Fns) 56 40 1000 60 7 (.row [4, 1, 1]) c) = true) Go.Eng.pclasses := ⟨r29_0, r29_1, r29_2, r29_3, r29_4, r29_5, r29_6, r29_7, r29_8, r29_9, trivial⟩
end Go.Proofs.Yteapghgoiodoiaa.fnExactDiagPowersRuns
