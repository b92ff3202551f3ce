/- The runs of FnExactAtDiagram, part 3. -/
import Derived.Test.YthggbkoccgigaaaEngZd
import Derived.Test.YthggbkoccgigaaaDgZ
import Derived.Test.YthggbkoccgigaaaProg
namespace Go.Proofs.Ythggbkoccgigaaa.fnExactAtDiagramRuns
set_option linter.unusedVariables false
set_option linter.unusedSectionVars false
set_option linter.unusedSimpArgs false
set_option maxRecDepth 100000 in
theorem r3_0 : Go.Eng.isTrue (Go.Eng.lptRun Try.prog Go.Proofs.Ythggbkoccgigaaa.dgM.sums (⟨42, 43, 96, 58, 55⟩ : Go.Eng.Fns) 59 56 1000 60 10 .long .nil) = true := by kernel_rfl
set_option maxRecDepth 100000 in
theorem r3_1 : Go.Eng.isTrue (Go.Eng.lptRun Try.prog Go.Proofs.Ythggbkoccgigaaa.dgM.sums (⟨42, 43, 96, 58, 55⟩ : Go.Eng.Fns) 59 56 1000 60 10 .long .zero) = true := by kernel_rfl
set_option maxRecDepth 100000 in
theorem r3_2 : Go.Eng.isTrue (Go.Eng.lptRun Try.prog Go.Proofs.Ythggbkoccgigaaa.dgM.sums (⟨42, 43, 96, 58, 55⟩ : Go.Eng.Fns) 59 56 1000 60 10 .long .no) = true := by kernel_rfl
set_option maxRecDepth 100000 in
theorem r3_3 : Go.Eng.isTrue (Go.Eng.lptRun Try.prog Go.Proofs.Ythggbkoccgigaaa.dgM.sums (⟨42, 43, 96, 58, 55⟩ : Go.Eng.Fns) 59 56 1000 60 10 .long .long) = true := by kernel_rfl
set_option maxRecDepth 100000 in
theorem r3_4 : Go.Eng.isTrue (Go.Eng.lptRun Try.prog Go.Proofs.Ythggbkoccgigaaa.dgM.sums (⟨42, 43, 96, 58, 55⟩ : Go.Eng.Fns) 59 56 1000 60 10 .long (.pt 0)) = true := by kernel_rfl
set_option maxRecDepth 100000 in
theorem r3_5 : Go.Eng.isTrue (Go.Eng.lptRun Try.prog Go.Proofs.Ythggbkoccgigaaa.dgM.sums (⟨42, 43, 96, 58, 55⟩ : Go.Eng.Fns) 59 56 1000 60 10 .long (.pt 1)) = true := by kernel_rfl
set_option maxRecDepth 100000 in
theorem r3_6 : Go.Eng.isTrue (Go.Eng.lptRun Try.prog Go.Proofs.Ythggbkoccgigaaa.dgM.sums (⟨42, 43, 96, 58, 55⟩ : Go.Eng.Fns) 59 56 1000 60 10 .long (.pt 2)) = true := by kernel_rfl
set_option maxRecDepth 100000 in
theorem r3_7 : Go.Eng.isTrue (Go.Eng.lptRun Try.prog Go.Proofs.Ythggbkoccgigaaa.dgM.sums (⟨42, 43, 96, 58, 55⟩ : Go.Eng.Fns) 59 56 1000 60 10 .long (.pt 3)) = true := by kernel_rfl
set_option maxRecDepth 100000 in
theorem r3_8 : Go.Eng.isTrue (Go.Eng.lptRun Try.prog Go.Proofs.Ythggbkoccgigaaa.dgM.sums (⟨42, 43, 96, 58, 55⟩ : Go.Eng.Fns) 59 56 1000 60 10 .long (.pt 4)) = true := by kernel_rfl
set_option maxRecDepth 100000 in
theorem r3_9 : Go.Eng.isTrue (Go.Eng.lptRun Try.prog Go.Proofs.Ythggbkoccgigaaa.dgM.sums (⟨42, 43, 96, 58, 55⟩ : Go.Eng.Fns) 59 56 1000 60 10 .long (.pt 5)) = true := by kernel_rfl
theorem r3 : Go.Eng.AllL (fun c => Go.Eng.isTrue (Go.Eng.lptRun Try.prog Go.Proofs.Ythggbkoccgigaaa.dgM.sums (⟨42, 43, 96, 58, 55⟩ : Go.Eng.Fns) 59 56 1000 60 10 .long c) = true) Go.Eng.pclasses := ⟨r3_0, r3_1, r3_2, r3_3, r3_4, r3_5, r3_6, r3_7, r3_8, r3_9, trivial⟩
set_option maxRecDepth 100000 in
theorem r7_0 : Go.Eng.isTrue (Go.Eng.lptRun Try.prog Go.Proofs.Ythggbkoccgigaaa.dgM.sums (⟨42, 43, 96, 58, 55⟩ : Go.Eng.Fns) 59 56 1000 60 10 (.row [1, 1, 1]) .nil) = true := by kernel_rfl
set_option maxRecDepth 100000 in
theorem r7_1 : Go.Eng.isTrue (Go.Eng.lptRun Try.prog Go.Proofs.Ythggbkoccgigaaa.dgM.sums (⟨42, 43, 96, 58, 55⟩ : Go.Eng.Fns) 59 56 1000 60 10 (.row [1, 1, 1]) .zero) = true := by kernel_rfl
set_option maxRecDepth 100000 in
theorem r7_2 : Go.Eng.isTrue (Go.Eng.lptRun Try.prog Go.Proofs.Ythggbkoccgigaaa.dgM.sums (⟨42, 43, 96, 58, 55⟩ : Go.Eng.Fns) 59 56 1000 60 10 (.row [1, 1, 1]) .no) = true := by kernel_rfl
set_option maxRecDepth 100000 in
theorem r7_3 : Go.Eng.isTrue (Go.Eng.lptRun Try.prog Go.Proofs.Ythggbkoccgigaaa.dgM.sums (⟨42, 43, 96, 58, 55⟩ : Go.Eng.Fns) 59 56 1000 60 10 (.row [1, 1, 1]) .long) = true := by kernel_rfl
set_option maxRecDepth 100000 in
theorem r7_4 : Go.Eng.isTrue (Go.Eng.lptRun Try.prog Go.Proofs.Ythggbkoccgigaaa.dgM.sums (⟨42, 43, 96, 58, 55⟩ : Go.Eng.Fns) 59 56 1000 60 10 (.row [1, 1, 1]) (.pt 0)) = true := by kernel_rfl
set_option maxRecDepth 100000 in
theorem r7_5 : Go.Eng.isTrue (Go.Eng.lptRun Try.prog Go.Proofs.Ythggbkoccgigaaa.dgM.sums (⟨42, 43, 96, 58, 55⟩ : Go.Eng.Fns) 59 56 1000 60 10 (.row [1, 1, 1]) (.pt 1)) = true := by kernel_rfl
set_option maxRecDepth 100000 in
theorem r7_6 : Go.Eng.isTrue (Go.Eng.lptRun Try.prog Go.Proofs.Ythggbkoccgigaaa.dgM.sums (⟨42, 43, 96, 58, 55⟩ : Go.Eng.Fns) 59 56 1000 60 10 (.row [1, 1, 1]) (.pt 2)) = true := by kernel_rfl
set_option maxRecDepth 100000 in
theorem r7_7 : Go.Eng.isTrue (Go.Eng.lptRun Try.prog Go.Proofs.Ythggbkoccgigaaa.dgM.sums (⟨42, 43, 96, 58, 55⟩ : Go.Eng.Fns) 59 56 1000 60 10 (.row [1, 1, 1]) (.pt 3)) = true := by kernel_rfl
set_option maxRecDepth 100000 in
theorem r7_8 : Go.Eng.isTrue (Go.Eng.lptRun Try.prog Go.Proofs.Ythggbkoccgigaaa.dgM.sums (⟨42, 43, 96, 58, 55⟩ : Go.Eng.Fns) 59 56 1000 60 10 (.row [1, 1, 1]) (.pt 4)) = true := by kernel_rfl
set_option maxRecDepth 100000 in
theorem r7_9 : Go.Eng.isTrue (Go.Eng.lptRun Try.prog Go.Proofs.Ythggbkoccgigaaa.dgM.sums (⟨42, 43, 96, 58, 55⟩ : Go.Eng.Fns) 59 56 1000 60 10 (.row [1, 1, 1]) (.pt 5)) = true := by kernel_rfl
theorem r7 : Go.Eng.AllL (fun c => Go.Eng.isTrue (Go.Eng.lptRun Try.prog Go.Proofs.Ythggbkoccgigaaa.dgM.sums (⟨42, 43, 96, 58, 55⟩ : Go.Eng.Fns) 59 56 1000 60 10 (.row [1, 1, 1]) c) = true) Go.Eng.pclasses := ⟨r7_0, r7_1, r7_2, r7_3, r7_4, r7_5, r7_6, r7_7, r7_8, r7_9, trivial⟩
set_option maxRecDepth 100000 in
theorem r11_0 : Go.Eng.isTrue (Go.Eng.lptRun Try.prog Go.Proofs.Ythggbkoccgigaaa.dgM.sums (⟨42, 43, 96, 58, 55⟩ : Go.Eng.Fns) 59 56 1000 60 10 (.row [2]) .nil) = true := by kernel_rfl
set_option maxRecDepth 100000 in
theorem r11_1 : Go.Eng.isTrue (Go.Eng.lptRun Try.prog Go.Proofs.Ythggbkoccgigaaa.dgM.sums (⟨42, 43, 96, 58, 55⟩ : Go.Eng.Fns) 59 56 1000 60 10 (.row [2]) .zero) = true := by kernel_rfl
set_option maxRecDepth 100000 in
theorem r11_2 : Go.Eng.isTrue (Go.Eng.lptRun Try.prog Go.Proofs.Ythggbkoccgigaaa.dgM.sums (⟨42, 43, 96, 58, 55⟩ : Go.Eng.Fns) 59 56 1000 60 10 (.row [2]) .no) = true := by kernel_rfl
set_option maxRecDepth 100000 in
theorem r11_3 : Go.Eng.isTrue (Go.Eng.lptRun Try.prog Go.Proofs.Ythggbkoccgigaaa.dgM.sums (⟨42, 43, 96, 58, 55⟩ : Go.Eng.Fns) 59 56 1000 60 10 (.row [2]) .long) = true := by kernel_rfl
set_option maxRecDepth 100000 in
theorem r11_4 : Go.Eng.isTrue (Go.Eng.lptRun Try.prog Go.Proofs.Ythggbkoccgigaaa.dgM.sums (⟨42, 43, 96, 58, 55⟩ : Go.Eng.Fns) 59 56 1000 60 10 (.row [2]) (.pt 0)) = true := by kernel_rfl
set_option maxRecDepth 100000 in
theorem r11_5 : Go.Eng.isTrue (Go.Eng.lptRun Try.prog Go.Proofs.Ythggbkoccgigaaa.dgM.sums (⟨42, 43, 96, 58, 55⟩ : Go.Eng.Fns) 59 56 1000 60 10 (.row [2]) (.pt 1)) = true := by kernel_rfl
set_option maxRecDepth 100000 in
theorem r11_6 : Go.Eng.isTrue (Go.Eng.lptRun Try.prog Go.Proofs.Ythggbkoccgigaaa.dgM.sums (⟨42, 43, 96, 58, 55⟩ : Go.Eng.Fns) 59 56 1000 60 10 (.row [2]) (.pt 2)) = true := by kernel_rfl
set_option maxRecDepth 100000 in
theorem r11_7 : Go.Eng.isTrue (Go.Eng.lptRun Try.prog Go.Proofs.Ythggbkoccgigaaa.dgM.sums (⟨42, 43, 96, 58, 55⟩ : Go.Eng.Fns) 59 56 1000 60 10 (.row [2]) (.pt 3)) = true := by kernel_rfl
set_option maxRecDepth 100000 in
theorem r11_8 : Go.Eng.isTrue (Go.Eng.lptRun Try.prog Go.Proofs.Ythggbkoccgigaaa.dgM.sums (⟨42, 43, 96, 58, 55⟩ : Go.Eng.Fns) 59 56 1000 60 10 (.row [2]) (.pt 4)) = true := by kernel_rfl
set_option maxRecDepth 100000 in
theorem r11_9 : Go.Eng.isTrue (Go.Eng.lptRun Try.prog Go.Proofs.Ythggbkoccgigaaa.dgM.sums (⟨42, 43, 96, 58, 55⟩ : Go.Eng.Fns) 59 56 1000 60 10 (.row [2]) (.pt 5)) = true := by kernel_rfl
theorem r11 : Go.Eng.AllL (fun c => Go.Eng.isTrue (Go.Eng.lptRun Try.prog Go.Proofs.Ythggbkoccgigaaa.dgM.sums (⟨42, 43, 96, 58, 55⟩ : Go.Eng.Fns) 59 56 1000 60 10 (.row [2]) c) = true) Go.Eng.pclasses := ⟨r11_0, r11_1, r11_2, r11_3, r11_4, r11_5, r11_6, r11_7, r11_8, r11_9, trivial⟩
set_option maxRecDepth 100000 in
theorem r15_0 : Go.Eng.isTrue (Go.Eng.lptRun Try.prog Go.Proofs.Ythggbkoccgigaaa.dgM.sums (⟨42, 43, 96, 58, 55⟩ : Go.Eng.Fns) 59 56 1000 60 10 (.row [2, 1, 1, 1, 1]) .nil) = true := by kernel_rfl
set_option maxRecDepth 100000 in
theorem r15_1 : Go.Eng.isTrue (Go.Eng.lptRun Try.prog Go.Proofs.Ythggbkoccgigaaa.dgM.sums (⟨42, 43, 96, 58, 55⟩ : Go.Eng.Fns) 59 56 1000 60 10 (.row [2, 1, 1, 1, 1]) .zero) = true := by kernel_rfl
set_option maxRecDepth 100000 in
theorem r15_2 : Go.Eng.isTrue (Go.Eng.lptRun Try.prog Go.Proofs.Ythggbkoccgigaaa.dgM.sums (⟨42, 43, 96, 58, 55⟩ : Go.Eng.Fns) 59 56 1000 60 10 (.row [2, 1, 1, 1, 1]) .no) = true := by kernel_rfl
set_option maxRecDepth 100000 in
theorem r15_3 : Go.Eng.isTrue (Go.Eng.lptRun Try.prog Go.Proofs.Ythggbkoccgigaaa.dgM.sums (⟨42, 43, 96, 58, 55⟩ : Go.Eng.Fns) 59 56 1000 60 10 (.row [2, 1, 1, 1, 1]) .long) = true := by kernel_rfl
set_option maxRecDepth 100000 in
theorem r15_4 : Go.Eng.isTrue (Go.Eng.lptRun Try.prog Go.Proofs.Ythggbkoccgigaaa.dgM.sums (⟨42, 43, 96, 58, 55⟩ : Go.Eng.Fns) 59 56 1000 60 10 (.row [2, 1, 1, 1, 1]) (.pt 0)) = true := by kernel_rfl
set_option maxRecDepth 100000 in
theorem r15_5 : Go.Eng.isTrue (Go.Eng.lptRun Try.prog Go.Proofs.Ythggbkoccgigaaa.dgM.sums (⟨42, 43, 96, 58, 55⟩ : Go.Eng.Fns) 59 56 1000 60 10 (.row [2, 1, 1, 1, 1]) (.pt 1)) = true := by kernel_rfl
set_option maxRecDepth 100000 in
theorem r15_6 : Go.Eng.isTrue (Go.Eng.lptRun Try.prog Go.Proofs.Ythggbkoccgigaaa.dgM.sums (⟨42, 43, 96, 58, 55⟩ : Go.Eng.Fns) 59 56 1000 60 10 (.row [2, 1, 1, 1, 1]) (.pt 2)) = true := by kernel_rfl
set_option maxRecDepth 100000 in
theorem r15_7 : Go.Eng.isTrue (Go.Eng.lptRun Try.prog Go.Proofs.Ythggbkoccgigaaa.dgM.sums (⟨42, 43, 96, 58, 55⟩ : Go.Eng.Fns) 59 56 1000 60 10 (.row [2, 1, 1, 1, 1]) (.pt 3)) = true := by kernel_rfl
set_option maxRecDepth 100000 in
theorem r15_8 : Go.Eng.isTrue (Go.Eng.lptRun Try.prog Go.Proofs.Ythggbkoccgigaaa.dgM.sums (⟨42, 43, 96, 58, 55⟩ : Go.Eng.Fns) 59 56 1000 60 10 (.row [2, 1, 1, 1, 1]) (.pt 4)) = true := by kernel_rfl
set_option maxRecDepth 100000 in
theorem r15_9 : Go.Eng.isTrue (Go.Eng.lptRun Try.prog Go.Proofs.Ythggbkoccgigaaa.dgM.sums (⟨42, 43, 96, 58, 55⟩ : Go.Eng.Fns) 59 56 1000 60 10 (.row [2, 1, 1, 1, 1]) (.pt 5)) = true := by kernel_rfl
theorem r15 : Go.Eng.AllL (fun c => Go.Eng.isTrue (Go.Eng.lptRun Try.prog Go.Proofs.Ythggbkoccgigaaa.dgM.sums (⟨42, 43, 96, 58, 55⟩ : Go.Eng.Fns) 59 56 1000 60 10 (.row [2, 1, 1, 1, 1]) c) = true) Go.Eng.pclasses := ⟨r15_0, r15_1, r15_2, r15_3, r15_4, r15_5, r15_6, r15_7, r15_8, r15_9, trivial⟩
set_option maxRecDepth 100000 in
theorem r19_0 : Go.Eng.isTrue (Go.Eng.lptRun Try.prog Go.Proofs.Ythggbkoccgigaaa.dgM.sums (⟨42, 43, 96, 58, 55⟩ : Go.Eng.Fns) 59 56 1000 60 10 (.row [2, 2, 2]) .nil) = true := by kernel_rfl
set_option maxRecDepth 100000 in
theorem r19_1 : Go.Eng.isTrue (Go.Eng.lptRun Try.prog Go.Proofs.Ythggbkoccgigaaa.dgM.sums (⟨42, 43, 96, 58, 55⟩ : Go.Eng.Fns) 59 56 1000 60 10 (.row [2, 2, 2]) .zero) = true := by kernel_rfl
set_option maxRecDepth 100000 in
theorem r19_2 : Go.Eng.isTrue (Go.Eng.lptRun Try.prog Go.Proofs.Ythggbkoccgigaaa.dgM.sums (⟨42, 43, 96, 58, 55⟩ : Go.Eng.Fns) 59 56 1000 60 10 (.row [2, 2, 2]) .no) = true := by kernel_rfl
set_option maxRecDepth 100000 in
theorem r19_3 : Go.Eng.isTrue (Go.Eng.lptRun Try.prog Go.Proofs.Ythggbkoccgigaaa.dgM.sums (⟨42, 43, 96, 58, 55⟩ : Go.Eng.Fns) 59 56 1000 60 10 (.row [2, 2, 2]) .long) = true := by kernel_rfl
set_option maxRecDepth 100000 in
theorem r19_4 : Go.Eng.isTrue (Go.Eng.lptRun Try.prog Go.Proofs.Ythggbkoccgigaaa.dgM.sums (⟨42, 43, 96, 58, 55⟩ : Go.Eng.Fns) 59 56 1000 60 10 (.row [2, 2, 2]) (.pt 0)) = true := by kernel_rfl
set_option maxRecDepth 100000 in
theorem r19_5 : Go.Eng.isTrue (Go.Eng.lptRun Try.prog Go.Proofs.Ythggbkoccgigaaa.dgM.sums (⟨42, 43, 96, 58, 55⟩ : Go.Eng.Fns) 59 56 1000 60 10 (.row [2, 2, 2]) (.pt 1)) = true := by kernel_rfl
set_option maxRecDepth 100000 in
theorem r19_6 : Go.Eng.isTrue (Go.Eng.lptRun Try.prog Go.Proofs.Ythggbkoccgigaaa.dgM.sums (⟨42, 43, 96, 58, 55⟩ : Go.Eng.Fns) 59 56 1000 60 10 (.row [2, 2, 2]) (.pt 2)) = true := by kernel_rfl
set_option maxRecDepth 100000 in
theorem r19_7 : Go.Eng.isTrue (Go.Eng.lptRun Try.prog Go.Proofs.Ythggbkoccgigaaa.dgM.sums (⟨42, 43, 96, 58, 55⟩ : Go.Eng.Fns) 59 56 1000 60 10 (.row [2, 2, 2]) (.pt 3)) = true := by kernel_rfl
set_option maxRecDepth 100000 in
theorem r19_8 : Go.Eng.isTrue (Go.Eng.lptRun Try.prog Go.Proofs.Ythggbkoccgigaaa.dgM.sums (⟨42, 43, 96, 58, 55⟩ : Go.Eng.Fns) 59 56 1000 60 10 (.row [2, 2, 2]) (.pt 4)) = true := by kernel_rfl
set_option maxRecDepth 100000 in
theorem r19_9 : Go.Eng.isTrue (Go.Eng.lptRun Try.prog Go.Proofs.Ythggbkoccgigaaa.dgM.sums (⟨42, 43, 96, 58, 55⟩ : Go.Eng.Fns) 59 56 1000 60 10 (.row [2, 2, 2]) (.pt 5)) = true := by kernel_rfl
theorem r19 : Go.Eng.AllL (fun c => Go.Eng.isTrue (Go.Eng.lptRun Try.prog Go.Proofs.Ythggbkoccgigaaa.dgM.sums (⟨42, 43, 96, 58, 55⟩ : Go.Eng.Fns) 59 56 1000 60 10 (.row [2, 2, 2]) c) = true) Go.Eng.pclasses := ⟨r19_0, r19_1, r19_2, r19_3, r19_4, r19_5, r19_6, r19_7, r19_8, r19_9, trivial⟩
set_option maxRecDepth 100000 in
theorem r23_0 : Go.Eng.isTrue (Go.Eng.lptRun Try.prog Go.Proofs.Ythggbkoccgigaaa.dgM.sums (⟨42, 43, 96, 58, 55⟩ : Go.Eng.Fns) 59 56 1000 60 10 (.row [3, 1, 1, 1]) .nil) = true := by kernel_rfl
set_option maxRecDepth 100000 in
theorem r23_1 : Go.Eng.isTrue (Go.Eng.lptRun Try.prog Go.Proofs.Ythggbkoccgigaaa.dgM.sums (⟨42, 43, 96, 58, 55⟩ : Go.Eng.Fns) 59 56 1000 60 10 (.row [3, 1, 1, 1]) .zero) = true := by kernel_rfl
set_option maxRecDepth 100000 in
theorem r23_2 : Go.Eng.isTrue (Go.Eng.lptRun Try.prog Go.Proofs.Ythggbkoccgigaaa.dgM.sums (⟨42, 43, 96, 58, 55⟩ : Go.Eng.Fns) 59 56 1000 60 10 (.row [3, 1, 1, 1]) .no) = true := by kernel_rfl
set_option maxRecDepth 100000 in
theorem r23_3 : Go.Eng.isTrue (Go.Eng.lptRun Try.prog Go.Proofs.Ythggbkoccgigaaa.dgM.sums (⟨42, 43, 96, 58, 55⟩ : Go.Eng.Fns) 59 56 1000 60 10 (.row [3, 1, 1, 1]) .long) = true := by kernel_rfl
set_option maxRecDepth 100000 in
theorem r23_4 : Go.Eng.isTrue (Go.Eng.lptRun Try.prog Go.Proofs.Ythggbkoccgigaaa.dgM.sums (⟨42, 43, 96, 58, 55⟩ : Go.Eng.Fns) 59 56 1000 60 10 (.row [3, 1, 1, 1]) (.pt 0)) = true := by kernel_rfl
set_option maxRecDepth 100000 in
theorem r23_5 : Go.Eng.isTrue (Go.Eng.lptRun Try.prog Go.Proofs.Ythggbkoccgigaaa.dgM.sums (⟨42, 43, 96, 58, 55⟩ : Go.Eng.Fns) 59 56 1000 60 10 (.row [3, 1, 1, 1]) (.pt 1)) = true := by kernel_rfl
set_option maxRecDepth 100000 in
theorem r23_6 : Go.Eng.isTrue (Go.Eng.lptRun Try.prog Go.Proofs.Ythggbkoccgigaaa.dgM.sums (⟨42, 43, 96, 58, 55⟩ : Go.Eng.Fns) 59 56 1000 60 10 (.row [3, 1, 1, 1]) (.pt 2)) = true := by kernel_rfl
set_option maxRecDepth 100000 in
theorem r23_7 : Go.Eng.isTrue (Go.Eng.lptRun Try.prog Go.Proofs.Ythggbkoccgigaaa.dgM.sums (⟨42, 43, 96, 58, 55⟩ : Go.Eng.Fns) 59 56 1000 60 10 (.row [3, 1, 1, 1]) (.pt 3)) = true := by kernel_rfl
set_option maxRecDepth 100000 in
theorem r23_8 : Go.Eng.isTrue (Go.Eng.lptRun Try.prog Go.Proofs.Ythggbkoccgigaaa.dgM.sums (⟨42, 43, 96, 58, 55⟩ : Go.Eng.Fns) 59 56 1000 60 10 (.row [3, 1, 1, 1]) (.pt 4)) = true := by kernel_rfl
set_option maxRecDepth 100000 in
theorem r23_9 : Go.Eng.isTrue (Go.Eng.lptRun Try.prog Go.Proofs.Ythggbkoccgigaaa.dgM.sums (⟨42, 43, 96, 58, 55⟩ : Go.Eng.Fns) 59 56 1000 60 10 (.row [3, 1, 1, 1]) (.pt 5)) = true := by kernel_rfl
theorem r23 : Go.Eng.AllL (fun c => Go.Eng.isTrue (Go.Eng.lptRun Try.prog Go.Proofs.Ythggbkoccgigaaa.dgM.sums (⟨42, 43, 96, 58, 55⟩ : Go.Eng.Fns) 59 56 1000 60 10 (.row [3, 1, 1, 1]) c) = true) Go.Eng.pclasses := ⟨r23_0, r23_1, r23_2, r23_3, r23_4, r23_5, r23_6, r23_7, r23_8, r23_9, trivial⟩
set_option maxRecDepth 100000 in
theorem r27_0 : Go.Eng.isTrue (Go.Eng.lptRun Try.prog Go.Proofs.Ythggbkoccgigaaa.dgM.sums (⟨42, 43, 96, 58, 55⟩ : Go.Eng.Fns) 59 56 1000 60 10 (.row [4]) .nil) = true := by kernel_rfl
set_option maxRecDepth 100000 in
theorem r27_1 : Go.Eng.isTrue (Go.Eng.lptRun Try.prog Go.Proofs.Ythggbkoccgigaaa.dgM.sums (⟨42, 43, 96, 58, 55⟩ : Go.Eng.Fns) 59 56 1000 60 10 (.row [4]) .zero) = true := by kernel_rfl
set_option maxRecDepth 100000 in
theorem r27_2 : Go.Eng.isTrue (Go.Eng.lptRun Try.prog Go.Proofs.Ythggbkoccgigaaa.dgM.sums (⟨42, 43, 96, 58, 55⟩ : Go.Eng.Fns) 59 56 1000 60 10 (.row [4]) .no) = true := by kernel_rfl
set_option maxRecDepth 100000 in
theorem r27_3 : Go.Eng.isTrue (Go.Eng.lptRun Try.prog Go.Proofs.Ythggbkoccgigaaa.dgM.sums (⟨42, 43, 96, 58, 55⟩ : Go.Eng.Fns) 59 56 1000 60 10 (.row [4]) .long) = true := by kernel_rfl
set_option maxRecDepth 100000 in
theorem r27_4 : Go.Eng.isTrue (Go.Eng.lptRun Try.prog Go.Proofs.Ythggbkoccgigaaa.dgM.sums (⟨42, 43, 96, 58, 55⟩ : Go.Eng.Fns) 59 56 1000 60 10 (.row [4]) (.pt 0)) = true := by kernel_rfl
set_option maxRecDepth 100000 in
theorem r27_5 : Go.Eng.isTrue (Go.Eng.lptRun Try.prog Go.Proofs.Ythggbkoccgigaaa.dgM.sums (⟨42, 43, 96, 58, 55⟩ : Go.Eng.Fns) 59 56 1000 60 10 (.row [4]) (.pt 1)) = true := by kernel_rfl
set_option maxRecDepth 100000 in
theorem r27_6 : Go.Eng.isTrue (Go.Eng.lptRun Try.prog Go.Proofs.Ythggbkoccgigaaa.dgM.sums (⟨42, 43, 96, 58, 55⟩ : Go.Eng.Fns) 59 56 1000 60 10 (.row [4]) (.pt 2)) = true := by kernel_rfl
set_option maxRecDepth 100000 in
theorem r27_7 : Go.Eng.isTrue (Go.Eng.lptRun Try.prog Go.Proofs.Ythggbkoccgigaaa.dgM.sums (⟨42, 43, 96, 58, 55⟩ : Go.Eng.Fns) 59 56 1000 60 10 (.row [4]) (.pt 3)) = true := by kernel_rfl
set_option maxRecDepth 100000 in
theorem r27_8 : Go.Eng.isTrue (Go.Eng.lptRun Try.prog Go.Proofs.Ythggbkoccgigaaa.dgM.sums (⟨42, 43, 96, 58, 55⟩ : Go.Eng.Fns) 59 56 1000 60 10 (.row [4]) (.pt 4)) = true := by kernel_rfl
set_option maxRecDepth 100000 in
theorem r27_9 : Go.Eng.isTrue (Go.Eng.lptRun Try.prog Go.Proofs.Ythggbkoccgigaaa.dgM.sums (⟨42, 43, 96, 58, 55⟩ : Go.Eng.Fns) 59 56 1000 60 10 (.row [4]) (.pt 5)) = true := by kernel_rfl
theorem r27 : Go.Eng.AllL (fun c => Go.Eng.isTrue (Go.Eng.lptRun Try.prog Go.Proofs.Ythggbkoccgigaaa.dgM.sums (⟨42, 43, 96, 58, 55⟩ : Go.Eng.Fns) 59 56 1000 60 10 (.row [4]) c) = true) Go.Eng.pclasses := ⟨r27_0, r27_1, r27_2, r27_3, r27_4, r27_5, r27_6, r27_7, r27_8, r27_9, trivial⟩
set_option maxRecDepth 100000 in
theorem r31_0 : Go.Eng.isTrue (Go.Eng.lptRun Try.prog Go.Proofs.Ythggbkoccgigaaa.dgM.sums (⟨42, 43, 96, 58, 55⟩ : Go.Eng.Fns) 59 56 1000 60 10 (.row [5]) .nil) = true := by kernel_rfl
set_option maxRecDepth 100000 in
theorem r31_1 : Go.Eng.isTrue (Go.Eng.lptRun Try.prog Go.Proofs.Ythggbkoccgigaaa.dgM.sums (⟨42, 43, 96, 58, 55⟩ : Go.Eng.Fns) 59 56 1000 60 10 (.row [5]) .zero) = true := by kernel_rfl
set_option maxRecDepth 100000 in
theorem r31_2 : Go.Eng.isTrue (Go.Eng.lptRun Try.prog Go.Proofs.Ythggbkoccgigaaa.dgM.sums (⟨42, 43, 96, 58, 55⟩ : Go.Eng.Fns) 59 56 1000 60 10 (.row [5]) .no) = true := by kernel_rfl
set_option maxRecDepth 100000 in
theorem r31_3 : Go.Eng.isTrue (Go.Eng.lptRun Try.prog Go.Proofs.Ythggbkoccgigaaa.dgM.sums (⟨42, 43, 96, 58, 55⟩ : Go.Eng.Fns) 59 56 1000 60 10 (.row [5]) .long) = true := by kernel_rfl
set_option maxRecDepth 100000 in
theorem r31_4 : Go.Eng.isTrue (Go.Eng.lptRun Try.prog Go.Proofs.Ythggbkoccgigaaa.dgM.sums (⟨42, 43, 96, 58, 55⟩ : Go.Eng.Fns) 59 56 1000 60 10 (.row [5]) (.pt 0)) = true := by kernel_rfl
set_option maxRecDepth 100000 in
theorem r31_5 : Go.Eng.isTrue (Go.Eng.lptRun Try.prog Go.Proofs.Ythggbkoccgigaaa.dgM.sums (⟨42, 43, 96, 58, 55⟩ : Go.Eng.Fns) 59 56 1000 60 10 (.row [5]) (.pt 1)) = true := by kernel_rfl
set_option maxRecDepth 100000 in
theorem r31_6 : Go.Eng.isTrue (Go.Eng.lptRun Try.prog Go.Proofs.Ythggbkoccgigaaa.dgM.sums (⟨42, 43, 96, 58, 55⟩ : Go.Eng.Fns) 59 56 1000 60 10 (.row [5]) (.pt 2)) = true := by kernel_rfl
set_option maxRecDepth 100000 in
theorem r31_7 : Go.Eng.isTrue (Go.Eng.lptRun Try.prog Go.Proofs.Ythggbkoccgigaaa.dgM.sums (⟨42, 43, 96, 58, 55⟩ : Go.Eng.Fns) 59 56 1000 60 10 (.row [5]) (.pt 3)) = true := by kernel_rfl
set_option maxRecDepth 100000 in
theorem r31_8 : Go.Eng.isTrue (Go.Eng.lptRun Try.prog Go.Proofs.Ythggbkoccgigaaa.dgM.sums (⟨42, 43, 96, 58, 55⟩ : Go.Eng.Fns) 59 56 1000 60 10 (.row [5]) (.pt 4)) = true := by kernel_rfl
set_option maxRecDepth 100000 in
theorem r31_9 : Go.Eng.isTrue (Go.Eng.lptRun Try.prog Go.Proofs.Ythggbkoccgigaaa.dgM.sums (⟨42, 43, 96, 58, 55⟩ : Go.Eng.Fns) 59 56 1000 60 10 (.row [5]) (.pt 5)) = true := by kernel_rfl
theorem r31 : Go.Eng.AllL (fun c => Go.Eng.isTrue (Go.Eng.lptRun Try.prog Go.Proofs.Ythggbkoccgigaaa.dgM.sums (⟨42, 43, 96, 58, 55⟩ : Go.Eng.Fns) 59 56 1000 60 10 (.row [5]) c) = true) Go.Eng.pclasses := ⟨r31_0, r31_1, r31_2, r31_3, r31_4, r31_5, r31_6, r31_7, r31_8, r31_9, trivial⟩
end Go.Proofs.Ythggbkoccgigaaa.fnExactAtDiagramRuns
