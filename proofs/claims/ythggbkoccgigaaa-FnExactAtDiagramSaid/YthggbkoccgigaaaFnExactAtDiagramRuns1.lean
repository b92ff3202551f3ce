/- The runs of FnExactAtDiagram, part 1. -/
import Derived.Test.YthggbkoccgigaaaEngZd
import Derived.Test.YthggbkoccgigaaaDgZ
import Derived.Test.YthggbkoccgigaaaProg
namespace Go.Proofs.Ythggbkoccgigaaa.fnExactAtDiagramRuns
set_option linter.unusedVariables false
set_option linter.unusedSectionVars false
set_option linter.unusedSimpArgs false
set_option maxRecDepth 100000 in
theorem r1_0 : Go.Eng.isTrue (Go.Eng.lptRun Try.prog Go.Proofs.Ythggbkoccgigaaa.dgM.sums (⟨42, 43, 96, 58, 55⟩ : Go.Eng.Fns) 59 56 1000 60 10 .zero .nil) = true := by kernel_rfl
set_option maxRecDepth 100000 in
theorem r1_1 : Go.Eng.isTrue (Go.Eng.lptRun Try.prog Go.Proofs.Ythggbkoccgigaaa.dgM.sums (⟨42, 43, 96, 58, 55⟩ : Go.Eng.Fns) 59 56 1000 60 10 .zero .zero) = true := by kernel_rfl
set_option maxRecDepth 100000 in
theorem r1_2 : Go.Eng.isTrue (Go.Eng.lptRun Try.prog Go.Proofs.Ythggbkoccgigaaa.dgM.sums (⟨42, 43, 96, 58, 55⟩ : Go.Eng.Fns) 59 56 1000 60 10 .zero .no) = true := by kernel_rfl
set_option maxRecDepth 100000 in
theorem r1_3 : Go.Eng.isTrue (Go.Eng.lptRun Try.prog Go.Proofs.Ythggbkoccgigaaa.dgM.sums (⟨42, 43, 96, 58, 55⟩ : Go.Eng.Fns) 59 56 1000 60 10 .zero .long) = true := by kernel_rfl
set_option maxRecDepth 100000 in
theorem r1_4 : Go.Eng.isTrue (Go.Eng.lptRun Try.prog Go.Proofs.Ythggbkoccgigaaa.dgM.sums (⟨42, 43, 96, 58, 55⟩ : Go.Eng.Fns) 59 56 1000 60 10 .zero (.pt 0)) = true := by kernel_rfl
set_option maxRecDepth 100000 in
theorem r1_5 : Go.Eng.isTrue (Go.Eng.lptRun Try.prog Go.Proofs.Ythggbkoccgigaaa.dgM.sums (⟨42, 43, 96, 58, 55⟩ : Go.Eng.Fns) 59 56 1000 60 10 .zero (.pt 1)) = true := by kernel_rfl
set_option maxRecDepth 100000 in
theorem r1_6 : Go.Eng.isTrue (Go.Eng.lptRun Try.prog Go.Proofs.Ythggbkoccgigaaa.dgM.sums (⟨42, 43, 96, 58, 55⟩ : Go.Eng.Fns) 59 56 1000 60 10 .zero (.pt 2)) = true := by kernel_rfl
set_option maxRecDepth 100000 in
theorem r1_7 : Go.Eng.isTrue (Go.Eng.lptRun Try.prog Go.Proofs.Ythggbkoccgigaaa.dgM.sums (⟨42, 43, 96, 58, 55⟩ : Go.Eng.Fns) 59 56 1000 60 10 .zero (.pt 3)) = true := by kernel_rfl
set_option maxRecDepth 100000 in
theorem r1_8 : Go.Eng.isTrue (Go.Eng.lptRun Try.prog Go.Proofs.Ythggbkoccgigaaa.dgM.sums (⟨42, 43, 96, 58, 55⟩ : Go.Eng.Fns) 59 56 1000 60 10 .zero (.pt 4)) = true := by kernel_rfl
set_option maxRecDepth 100000 in
theorem r1_9 : Go.Eng.isTrue (Go.Eng.lptRun Try.prog Go.Proofs.Ythggbkoccgigaaa.dgM.sums (⟨42, 43, 96, 58, 55⟩ : Go.Eng.Fns) 59 56 1000 60 10 .zero (.pt 5)) = true := by kernel_rfl
theorem r1 : Go.Eng.AllL (fun c => Go.Eng.isTrue (Go.Eng.lptRun Try.prog Go.Proofs.Ythggbkoccgigaaa.dgM.sums (⟨42, 43, 96, 58, 55⟩ : Go.Eng.Fns) 59 56 1000 60 10 .zero c) = true) Go.Eng.pclasses := ⟨r1_0, r1_1, r1_2, r1_3, r1_4, r1_5, r1_6, r1_7, r1_8, r1_9, trivial⟩
set_option maxRecDepth 100000 in
theorem r5_0 : Go.Eng.isTrue (Go.Eng.lptRun Try.prog Go.Proofs.Ythggbkoccgigaaa.dgM.sums (⟨42, 43, 96, 58, 55⟩ : Go.Eng.Fns) 59 56 1000 60 10 (.row [1]) .nil) = true := by kernel_rfl
set_option maxRecDepth 100000 in
theorem r5_1 : Go.Eng.isTrue (Go.Eng.lptRun Try.prog Go.Proofs.Ythggbkoccgigaaa.dgM.sums (⟨42, 43, 96, 58, 55⟩ : Go.Eng.Fns) 59 56 1000 60 10 (.row [1]) .zero) = true := by kernel_rfl
set_option maxRecDepth 100000 in
theorem r5_2 : Go.Eng.isTrue (Go.Eng.lptRun Try.prog Go.Proofs.Ythggbkoccgigaaa.dgM.sums (⟨42, 43, 96, 58, 55⟩ : Go.Eng.Fns) 59 56 1000 60 10 (.row [1]) .no) = true := by kernel_rfl
set_option maxRecDepth 100000 in
theorem r5_3 : Go.Eng.isTrue (Go.Eng.lptRun Try.prog Go.Proofs.Ythggbkoccgigaaa.dgM.sums (⟨42, 43, 96, 58, 55⟩ : Go.Eng.Fns) 59 56 1000 60 10 (.row [1]) .long) = true := by kernel_rfl
set_option maxRecDepth 100000 in
theorem r5_4 : Go.Eng.isTrue (Go.Eng.lptRun Try.prog Go.Proofs.Ythggbkoccgigaaa.dgM.sums (⟨42, 43, 96, 58, 55⟩ : Go.Eng.Fns) 59 56 1000 60 10 (.row [1]) (.pt 0)) = true := by kernel_rfl
set_option maxRecDepth 100000 in
theorem r5_5 : Go.Eng.isTrue (Go.Eng.lptRun Try.prog Go.Proofs.Ythggbkoccgigaaa.dgM.sums (⟨42, 43, 96, 58, 55⟩ : Go.Eng.Fns) 59 56 1000 60 10 (.row [1]) (.pt 1)) = true := by kernel_rfl
set_option maxRecDepth 100000 in
theorem r5_6 : Go.Eng.isTrue (Go.Eng.lptRun Try.prog Go.Proofs.Ythggbkoccgigaaa.dgM.sums (⟨42, 43, 96, 58, 55⟩ : Go.Eng.Fns) 59 56 1000 60 10 (.row [1]) (.pt 2)) = true := by kernel_rfl
set_option maxRecDepth 100000 in
theorem r5_7 : Go.Eng.isTrue (Go.Eng.lptRun Try.prog Go.Proofs.Ythggbkoccgigaaa.dgM.sums (⟨42, 43, 96, 58, 55⟩ : Go.Eng.Fns) 59 56 1000 60 10 (.row [1]) (.pt 3)) = true := by kernel_rfl
set_option maxRecDepth 100000 in
theorem r5_8 : Go.Eng.isTrue (Go.Eng.lptRun Try.prog Go.Proofs.Ythggbkoccgigaaa.dgM.sums (⟨42, 43, 96, 58, 55⟩ : Go.Eng.Fns) 59 56 1000 60 10 (.row [1]) (.pt 4)) = true := by kernel_rfl
set_option maxRecDepth 100000 in
theorem r5_9 : Go.Eng.isTrue (Go.Eng.lptRun Try.prog Go.Proofs.Ythggbkoccgigaaa.dgM.sums (⟨42, 43, 96, 58, 55⟩ : Go.Eng.Fns) 59 56 1000 60 10 (.row [1]) (.pt 5)) = true := by kernel_rfl
theorem r5 : Go.Eng.AllL (fun c => Go.Eng.isTrue (Go.Eng.lptRun Try.prog Go.Proofs.Ythggbkoccgigaaa.dgM.sums (⟨42, 43, 96, 58, 55⟩ : Go.Eng.Fns) 59 56 1000 60 10 (.row [1]) c) = true) Go.Eng.pclasses := ⟨r5_0, r5_1, r5_2, r5_3, r5_4, r5_5, r5_6, r5_7, r5_8, r5_9, trivial⟩
set_option maxRecDepth 100000 in
theorem r9_0 : Go.Eng.isTrue (Go.Eng.lptRun Try.prog Go.Proofs.Ythggbkoccgigaaa.dgM.sums (⟨42, 43, 96, 58, 55⟩ : Go.Eng.Fns) 59 56 1000 60 10 (.row [1, 1, 1, 1, 1]) .nil) = true := by kernel_rfl
set_option maxRecDepth 100000 in
theorem r9_1 : Go.Eng.isTrue (Go.Eng.lptRun Try.prog Go.Proofs.Ythggbkoccgigaaa.dgM.sums (⟨42, 43, 96, 58, 55⟩ : Go.Eng.Fns) 59 56 1000 60 10 (.row [1, 1, 1, 1, 1]) .zero) = true := by kernel_rfl
set_option maxRecDepth 100000 in
theorem r9_2 : Go.Eng.isTrue (Go.Eng.lptRun Try.prog Go.Proofs.Ythggbkoccgigaaa.dgM.sums (⟨42, 43, 96, 58, 55⟩ : Go.Eng.Fns) 59 56 1000 60 10 (.row [1, 1, 1, 1, 1]) .no) = true := by kernel_rfl
set_option maxRecDepth 100000 in
theorem r9_3 : Go.Eng.isTrue (Go.Eng.lptRun Try.prog Go.Proofs.Ythggbkoccgigaaa.dgM.sums (⟨42, 43, 96, 58, 55⟩ : Go.Eng.Fns) 59 56 1000 60 10 (.row [1, 1, 1, 1, 1]) .long) = true := by kernel_rfl
set_option maxRecDepth 100000 in
theorem r9_4 : Go.Eng.isTrue (Go.Eng.lptRun Try.prog Go.Proofs.Ythggbkoccgigaaa.dgM.sums (⟨42, 43, 96, 58, 55⟩ : Go.Eng.Fns) 59 56 1000 60 10 (.row [1, 1, 1, 1, 1]) (.pt 0)) = true := by kernel_rfl
set_option maxRecDepth 100000 in
theorem r9_5 : Go.Eng.isTrue (Go.Eng.lptRun Try.prog Go.Proofs.Ythggbkoccgigaaa.dgM.sums (⟨42, 43, 96, 58, 55⟩ : Go.Eng.Fns) 59 56 1000 60 10 (.row [1, 1, 1, 1, 1]) (.pt 1)) = true := by kernel_rfl
set_option maxRecDepth 100000 in
theorem r9_6 : Go.Eng.isTrue (Go.Eng.lptRun Try.prog Go.Proofs.Ythggbkoccgigaaa.dgM.sums (⟨42, 43, 96, 58, 55⟩ : Go.Eng.Fns) 59 56 1000 60 10 (.row [1, 1, 1, 1, 1]) (.pt 2)) = true := by kernel_rfl
set_option maxRecDepth 100000 in
theorem r9_7 : Go.Eng.isTrue (Go.Eng.lptRun Try.prog Go.Proofs.Ythggbkoccgigaaa.dgM.sums (⟨42, 43, 96, 58, 55⟩ : Go.Eng.Fns) 59 56 1000 60 10 (.row [1, 1, 1, 1, 1]) (.pt 3)) = true := by kernel_rfl
set_option maxRecDepth 100000 in
theorem r9_8 : Go.Eng.isTrue (Go.Eng.lptRun Try.prog Go.Proofs.Ythggbkoccgigaaa.dgM.sums (⟨42, 43, 96, 58, 55⟩ : Go.Eng.Fns) 59 56 1000 60 10 (.row [1, 1, 1, 1, 1]) (.pt 4)) = true := by kernel_rfl
set_option maxRecDepth 100000 in
theorem r9_9 : Go.Eng.isTrue (Go.Eng.lptRun Try.prog Go.Proofs.Ythggbkoccgigaaa.dgM.sums (⟨42, 43, 96, 58, 55⟩ : Go.Eng.Fns) 59 56 1000 60 10 (.row [1, 1, 1, 1, 1]) (.pt 5)) = true := by kernel_rfl
theorem r9 : Go.Eng.AllL (fun c => Go.Eng.isTrue (Go.Eng.lptRun Try.prog Go.Proofs.Ythggbkoccgigaaa.dgM.sums (⟨42, 43, 96, 58, 55⟩ : Go.Eng.Fns) 59 56 1000 60 10 (.row [1, 1, 1, 1, 1]) c) = true) Go.Eng.pclasses := ⟨r9_0, r9_1, r9_2, r9_3, r9_4, r9_5, r9_6, r9_7, r9_8, r9_9, trivial⟩
set_option maxRecDepth 100000 in
theorem r13_0 : Go.Eng.isTrue (Go.Eng.lptRun Try.prog Go.Proofs.Ythggbkoccgigaaa.dgM.sums (⟨42, 43, 96, 58, 55⟩ : Go.Eng.Fns) 59 56 1000 60 10 (.row [2, 1, 1]) .nil) = true := by kernel_rfl
set_option maxRecDepth 100000 in
theorem r13_1 : Go.Eng.isTrue (Go.Eng.lptRun Try.prog Go.Proofs.Ythggbkoccgigaaa.dgM.sums (⟨42, 43, 96, 58, 55⟩ : Go.Eng.Fns) 59 56 1000 60 10 (.row [2, 1, 1]) .zero) = true := by kernel_rfl
set_option maxRecDepth 100000 in
theorem r13_2 : Go.Eng.isTrue (Go.Eng.lptRun Try.prog Go.Proofs.Ythggbkoccgigaaa.dgM.sums (⟨42, 43, 96, 58, 55⟩ : Go.Eng.Fns) 59 56 1000 60 10 (.row [2, 1, 1]) .no) = true := by kernel_rfl
set_option maxRecDepth 100000 in
theorem r13_3 : Go.Eng.isTrue (Go.Eng.lptRun Try.prog Go.Proofs.Ythggbkoccgigaaa.dgM.sums (⟨42, 43, 96, 58, 55⟩ : Go.Eng.Fns) 59 56 1000 60 10 (.row [2, 1, 1]) .long) = true := by kernel_rfl
set_option maxRecDepth 100000 in
theorem r13_4 : Go.Eng.isTrue (Go.Eng.lptRun Try.prog Go.Proofs.Ythggbkoccgigaaa.dgM.sums (⟨42, 43, 96, 58, 55⟩ : Go.Eng.Fns) 59 56 1000 60 10 (.row [2, 1, 1]) (.pt 0)) = true := by kernel_rfl
set_option maxRecDepth 100000 in
theorem r13_5 : Go.Eng.isTrue (Go.Eng.lptRun Try.prog Go.Proofs.Ythggbkoccgigaaa.dgM.sums (⟨42, 43, 96, 58, 55⟩ : Go.Eng.Fns) 59 56 1000 60 10 (.row [2, 1, 1]) (.pt 1)) = true := by kernel_rfl
set_option maxRecDepth 100000 in
theorem r13_6 : Go.Eng.isTrue (Go.Eng.lptRun Try.prog Go.Proofs.Ythggbkoccgigaaa.dgM.sums (⟨42, 43, 96, 58, 55⟩ : Go.Eng.Fns) 59 56 1000 60 10 (.row [2, 1, 1]) (.pt 2)) = true := by kernel_rfl
set_option maxRecDepth 100000 in
theorem r13_7 : Go.Eng.isTrue (Go.Eng.lptRun Try.prog Go.Proofs.Ythggbkoccgigaaa.dgM.sums (⟨42, 43, 96, 58, 55⟩ : Go.Eng.Fns) 59 56 1000 60 10 (.row [2, 1, 1]) (.pt 3)) = true := by kernel_rfl
set_option maxRecDepth 100000 in
theorem r13_8 : Go.Eng.isTrue (Go.Eng.lptRun Try.prog Go.Proofs.Ythggbkoccgigaaa.dgM.sums (⟨42, 43, 96, 58, 55⟩ : Go.Eng.Fns) 59 56 1000 60 10 (.row [2, 1, 1]) (.pt 4)) = true := by kernel_rfl
set_option maxRecDepth 100000 in
theorem r13_9 : Go.Eng.isTrue (Go.Eng.lptRun Try.prog Go.Proofs.Ythggbkoccgigaaa.dgM.sums (⟨42, 43, 96, 58, 55⟩ : Go.Eng.Fns) 59 56 1000 60 10 (.row [2, 1, 1]) (.pt 5)) = true := by kernel_rfl
theorem r13 : Go.Eng.AllL (fun c => Go.Eng.isTrue (Go.Eng.lptRun Try.prog Go.Proofs.Ythggbkoccgigaaa.dgM.sums (⟨42, 43, 96, 58, 55⟩ : Go.Eng.Fns) 59 56 1000 60 10 (.row [2, 1, 1]) c) = true) Go.Eng.pclasses := ⟨r13_0, r13_1, r13_2, r13_3, r13_4, r13_5, r13_6, r13_7, r13_8, r13_9, trivial⟩
set_option maxRecDepth 100000 in
theorem r17_0 : Go.Eng.isTrue (Go.Eng.lptRun Try.prog Go.Proofs.Ythggbkoccgigaaa.dgM.sums (⟨42, 43, 96, 58, 55⟩ : Go.Eng.Fns) 59 56 1000 60 10 (.row [2, 2, 1]) .nil) = true := by kernel_rfl
set_option maxRecDepth 100000 in
theorem r17_1 : Go.Eng.isTrue (Go.Eng.lptRun Try.prog Go.Proofs.Ythggbkoccgigaaa.dgM.sums (⟨42, 43, 96, 58, 55⟩ : Go.Eng.Fns) 59 56 1000 60 10 (.row [2, 2, 1]) .zero) = true := by kernel_rfl
set_option maxRecDepth 100000 in
theorem r17_2 : Go.Eng.isTrue (Go.Eng.lptRun Try.prog Go.Proofs.Ythggbkoccgigaaa.dgM.sums (⟨42, 43, 96, 58, 55⟩ : Go.Eng.Fns) 59 56 1000 60 10 (.row [2, 2, 1]) .no) = true := by kernel_rfl
set_option maxRecDepth 100000 in
theorem r17_3 : Go.Eng.isTrue (Go.Eng.lptRun Try.prog Go.Proofs.Ythggbkoccgigaaa.dgM.sums (⟨42, 43, 96, 58, 55⟩ : Go.Eng.Fns) 59 56 1000 60 10 (.row [2, 2, 1]) .long) = true := by kernel_rfl
set_option maxRecDepth 100000 in
theorem r17_4 : Go.Eng.isTrue (Go.Eng.lptRun Try.prog Go.Proofs.Ythggbkoccgigaaa.dgM.sums (⟨42, 43, 96, 58, 55⟩ : Go.Eng.Fns) 59 56 1000 60 10 (.row [2, 2, 1]) (.pt 0)) = true := by kernel_rfl
set_option maxRecDepth 100000 in
theorem r17_5 : Go.Eng.isTrue (Go.Eng.lptRun Try.prog Go.Proofs.Ythggbkoccgigaaa.dgM.sums (⟨42, 43, 96, 58, 55⟩ : Go.Eng.Fns) 59 56 1000 60 10 (.row [2, 2, 1]) (.pt 1)) = true := by kernel_rfl
set_option maxRecDepth 100000 in
theorem r17_6 : Go.Eng.isTrue (Go.Eng.lptRun Try.prog Go.Proofs.Ythggbkoccgigaaa.dgM.sums (⟨42, 43, 96, 58, 55⟩ : Go.Eng.Fns) 59 56 1000 60 10 (.row [2, 2, 1]) (.pt 2)) = true := by kernel_rfl
set_option maxRecDepth 100000 in
theorem r17_7 : Go.Eng.isTrue (Go.Eng.lptRun Try.prog Go.Proofs.Ythggbkoccgigaaa.dgM.sums (⟨42, 43, 96, 58, 55⟩ : Go.Eng.Fns) 59 56 1000 60 10 (.row [2, 2, 1]) (.pt 3)) = true := by kernel_rfl
set_option maxRecDepth 100000 in
theorem r17_8 : Go.Eng.isTrue (Go.Eng.lptRun Try.prog Go.Proofs.Ythggbkoccgigaaa.dgM.sums (⟨42, 43, 96, 58, 55⟩ : Go.Eng.Fns) 59 56 1000 60 10 (.row [2, 2, 1]) (.pt 4)) = true := by kernel_rfl
set_option maxRecDepth 100000 in
theorem r17_9 : Go.Eng.isTrue (Go.Eng.lptRun Try.prog Go.Proofs.Ythggbkoccgigaaa.dgM.sums (⟨42, 43, 96, 58, 55⟩ : Go.Eng.Fns) 59 56 1000 60 10 (.row [2, 2, 1]) (.pt 5)) = true := by kernel_rfl
theorem r17 : Go.Eng.AllL (fun c => Go.Eng.isTrue (Go.Eng.lptRun Try.prog Go.Proofs.Ythggbkoccgigaaa.dgM.sums (⟨42, 43, 96, 58, 55⟩ : Go.Eng.Fns) 59 56 1000 60 10 (.row [2, 2, 1]) c) = true) Go.Eng.pclasses := ⟨r17_0, r17_1, r17_2, r17_3, r17_4, r17_5, r17_6, r17_7, r17_8, r17_9, trivial⟩
set_option maxRecDepth 100000 in
theorem r21_0 : Go.Eng.isTrue (Go.Eng.lptRun Try.prog Go.Proofs.Ythggbkoccgigaaa.dgM.sums (⟨42, 43, 96, 58, 55⟩ : Go.Eng.Fns) 59 56 1000 60 10 (.row [3, 1]) .nil) = true := by kernel_rfl
set_option maxRecDepth 100000 in
theorem r21_1 : Go.Eng.isTrue (Go.Eng.lptRun Try.prog Go.Proofs.Ythggbkoccgigaaa.dgM.sums (⟨42, 43, 96, 58, 55⟩ : Go.Eng.Fns) 59 56 1000 60 10 (.row [3, 1]) .zero) = true := by kernel_rfl
set_option maxRecDepth 100000 in
theorem r21_2 : Go.Eng.isTrue (Go.Eng.lptRun Try.prog Go.Proofs.Ythggbkoccgigaaa.dgM.sums (⟨42, 43, 96, 58, 55⟩ : Go.Eng.Fns) 59 56 1000 60 10 (.row [3, 1]) .no) = true := by kernel_rfl
set_option maxRecDepth 100000 in
theorem r21_3 : Go.Eng.isTrue (Go.Eng.lptRun Try.prog Go.Proofs.Ythggbkoccgigaaa.dgM.sums (⟨42, 43, 96, 58, 55⟩ : Go.Eng.Fns) 59 56 1000 60 10 (.row [3, 1]) .long) = true := by kernel_rfl
set_option maxRecDepth 100000 in
theorem r21_4 : Go.Eng.isTrue (Go.Eng.lptRun Try.prog Go.Proofs.Ythggbkoccgigaaa.dgM.sums (⟨42, 43, 96, 58, 55⟩ : Go.Eng.Fns) 59 56 1000 60 10 (.row [3, 1]) (.pt 0)) = true := by kernel_rfl
set_option maxRecDepth 100000 in
theorem r21_5 : Go.Eng.isTrue (Go.Eng.lptRun Try.prog Go.Proofs.Ythggbkoccgigaaa.dgM.sums (⟨42, 43, 96, 58, 55⟩ : Go.Eng.Fns) 59 56 1000 60 10 (.row [3, 1]) (.pt 1)) = true := by kernel_rfl
set_option maxRecDepth 100000 in
theorem r21_6 : Go.Eng.isTrue (Go.Eng.lptRun Try.prog Go.Proofs.Ythggbkoccgigaaa.dgM.sums (⟨42, 43, 96, 58, 55⟩ : Go.Eng.Fns) 59 56 1000 60 10 (.row [3, 1]) (.pt 2)) = true := by kernel_rfl
set_option maxRecDepth 100000 in
theorem r21_7 : Go.Eng.isTrue (Go.Eng.lptRun Try.prog Go.Proofs.Ythggbkoccgigaaa.dgM.sums (⟨42, 43, 96, 58, 55⟩ : Go.Eng.Fns) 59 56 1000 60 10 (.row [3, 1]) (.pt 3)) = true := by kernel_rfl
set_option maxRecDepth 100000 in
theorem r21_8 : Go.Eng.isTrue (Go.Eng.lptRun Try.prog Go.Proofs.Ythggbkoccgigaaa.dgM.sums (⟨42, 43, 96, 58, 55⟩ : Go.Eng.Fns) 59 56 1000 60 10 (.row [3, 1]) (.pt 4)) = true := by kernel_rfl
set_option maxRecDepth 100000 in
theorem r21_9 : Go.Eng.isTrue (Go.Eng.lptRun Try.prog Go.Proofs.Ythggbkoccgigaaa.dgM.sums (⟨42, 43, 96, 58, 55⟩ : Go.Eng.Fns) 59 56 1000 60 10 (.row [3, 1]) (.pt 5)) = true := by kernel_rfl
theorem r21 : Go.Eng.AllL (fun c => Go.Eng.isTrue (Go.Eng.lptRun Try.prog Go.Proofs.Ythggbkoccgigaaa.dgM.sums (⟨42, 43, 96, 58, 55⟩ : Go.Eng.Fns) 59 56 1000 60 10 (.row [3, 1]) c) = true) Go.Eng.pclasses := ⟨r21_0, r21_1, r21_2, r21_3, r21_4, r21_5, r21_6, r21_7, r21_8, r21_9, trivial⟩
set_option maxRecDepth 100000 in
theorem r25_0 : Go.Eng.isTrue (Go.Eng.lptRun Try.prog Go.Proofs.Ythggbkoccgigaaa.dgM.sums (⟨42, 43, 96, 58, 55⟩ : Go.Eng.Fns) 59 56 1000 60 10 (.row [3, 2, 1]) .nil) = true := by kernel_rfl
set_option maxRecDepth 100000 in
theorem r25_1 : Go.Eng.isTrue (Go.Eng.lptRun Try.prog Go.Proofs.Ythggbkoccgigaaa.dgM.sums (⟨42, 43, 96, 58, 55⟩ : Go.Eng.Fns) 59 56 1000 60 10 (.row [3, 2, 1]) .zero) = true := by kernel_rfl
set_option maxRecDepth 100000 in
theorem r25_2 : Go.Eng.isTrue (Go.Eng.lptRun Try.prog Go.Proofs.Ythggbkoccgigaaa.dgM.sums (⟨42, 43, 96, 58, 55⟩ : Go.Eng.Fns) 59 56 1000 60 10 (.row [3, 2, 1]) .no) = true := by kernel_rfl
set_option maxRecDepth 100000 in
theorem r25_3 : Go.Eng.isTrue (Go.Eng.lptRun Try.prog Go.Proofs.Ythggbkoccgigaaa.dgM.sums (⟨42, 43, 96, 58, 55⟩ : Go.Eng.Fns) 59 56 1000 60 10 (.row [3, 2, 1]) .long) = true := by kernel_rfl
set_option maxRecDepth 100000 in
theorem r25_4 : Go.Eng.isTrue (Go.Eng.lptRun Try.prog Go.Proofs.Ythggbkoccgigaaa.dgM.sums (⟨42, 43, 96, 58, 55⟩ : Go.Eng.Fns) 59 56 1000 60 10 (.row [3, 2, 1]) (.pt 0)) = true := by kernel_rfl
set_option maxRecDepth 100000 in
theorem r25_5 : Go.Eng.isTrue (Go.Eng.lptRun Try.prog Go.Proofs.Ythggbkoccgigaaa.dgM.sums (⟨42, 43, 96, 58, 55⟩ : Go.Eng.Fns) 59 56 1000 60 10 (.row [3, 2, 1]) (.pt 1)) = true := by kernel_rfl
set_option maxRecDepth 100000 in
theorem r25_6 : Go.Eng.isTrue (Go.Eng.lptRun Try.prog Go.Proofs.Ythggbkoccgigaaa.dgM.sums (⟨42, 43, 96, 58, 55⟩ : Go.Eng.Fns) 59 56 1000 60 10 (.row [3, 2, 1]) (.pt 2)) = true := by kernel_rfl
set_option maxRecDepth 100000 in
theorem r25_7 : Go.Eng.isTrue (Go.Eng.lptRun Try.prog Go.Proofs.Ythggbkoccgigaaa.dgM.sums (⟨42, 43, 96, 58, 55⟩ : Go.Eng.Fns) 59 56 1000 60 10 (.row [3, 2, 1]) (.pt 3)) = true := by kernel_rfl
set_option maxRecDepth 100000 in
theorem r25_8 : Go.Eng.isTrue (Go.Eng.lptRun Try.prog Go.Proofs.Ythggbkoccgigaaa.dgM.sums (⟨42, 43, 96, 58, 55⟩ : Go.Eng.Fns) 59 56 1000 60 10 (.row [3, 2, 1]) (.pt 4)) = true := by kernel_rfl
set_option maxRecDepth 100000 in
theorem r25_9 : Go.Eng.isTrue (Go.Eng.lptRun Try.prog Go.Proofs.Ythggbkoccgigaaa.dgM.sums (⟨42, 43, 96, 58, 55⟩ : Go.Eng.Fns) 59 56 1000 60 10 (.row [3, 2, 1]) (.pt 5)) = true := by kernel_rfl
theorem r25 : Go.Eng.AllL (fun c => Go.Eng.isTrue (Go.Eng.lptRun Try.prog Go.Proofs.Ythggbkoccgigaaa.dgM.sums (⟨42, 43, 96, 58, 55⟩ : Go.Eng.Fns) 59 56 1000 60 10 (.row [3, 2, 1]) c) = true) Go.Eng.pclasses := ⟨r25_0, r25_1, r25_2, r25_3, r25_4, r25_5, r25_6, r25_7, r25_8, r25_9, trivial⟩
set_option maxRecDepth 100000 in
theorem r29_0 : Go.Eng.isTrue (Go.Eng.lptRun Try.prog Go.Proofs.Ythggbkoccgigaaa.dgM.sums (⟨42, 43, 96, 58, 55⟩ : Go.Eng.Fns) 59 56 1000 60 10 (.row [4, 1, 1]) .nil) = true := by kernel_rfl
set_option maxRecDepth 100000 in
theorem r29_1 : Go.Eng.isTrue (Go.Eng.lptRun Try.prog Go.Proofs.Ythggbkoccgigaaa.dgM.sums (⟨42, 43, 96, 58, 55⟩ : Go.Eng.Fns) 59 56 1000 60 10 (.row [4, 1, 1]) .zero) = true := by kernel_rfl
set_option maxRecDepth 100000 in
theorem r29_2 : Go.Eng.isTrue (Go.Eng.lptRun Try.prog Go.Proofs.Ythggbkoccgigaaa.dgM.sums (⟨42, 43, 96, 58, 55⟩ : Go.Eng.Fns) 59 56 1000 60 10 (.row [4, 1, 1]) .no) = true := by kernel_rfl
set_option maxRecDepth 100000 in
theorem r29_3 : Go.Eng.isTrue (Go.Eng.lptRun Try.prog Go.Proofs.Ythggbkoccgigaaa.dgM.sums (⟨42, 43, 96, 58, 55⟩ : Go.Eng.Fns) 59 56 1000 60 10 (.row [4, 1, 1]) .long) = true := by kernel_rfl
set_option maxRecDepth 100000 in
theorem r29_4 : Go.Eng.isTrue (Go.Eng.lptRun Try.prog Go.Proofs.Ythggbkoccgigaaa.dgM.sums (⟨42, 43, 96, 58, 55⟩ : Go.Eng.Fns) 59 56 1000 60 10 (.row [4, 1, 1]) (.pt 0)) = true := by kernel_rfl
set_option maxRecDepth 100000 in
theorem r29_5 : Go.Eng.isTrue (Go.Eng.lptRun Try.prog Go.Proofs.Ythggbkoccgigaaa.dgM.sums (⟨42, 43, 96, 58, 55⟩ : Go.Eng.Fns) 59 56 1000 60 10 (.row [4, 1, 1]) (.pt 1)) = true := by kernel_rfl
set_option maxRecDepth 100000 in
theorem r29_6 : Go.Eng.isTrue (Go.Eng.lptRun Try.prog Go.Proofs.Ythggbkoccgigaaa.dgM.sums (⟨42, 43, 96, 58, 55⟩ : Go.Eng.Fns) 59 56 1000 60 10 (.row [4, 1, 1]) (.pt 2)) = true := by kernel_rfl
set_option maxRecDepth 100000 in
theorem r29_7 : Go.Eng.isTrue (Go.Eng.lptRun Try.prog Go.Proofs.Ythggbkoccgigaaa.dgM.sums (⟨42, 43, 96, 58, 55⟩ : Go.Eng.Fns) 59 56 1000 60 10 (.row [4, 1, 1]) (.pt 3)) = true := by kernel_rfl
set_option maxRecDepth 100000 in
theorem r29_8 : Go.Eng.isTrue (Go.Eng.lptRun Try.prog Go.Proofs.Ythggbkoccgigaaa.dgM.sums (⟨42, 43, 96, 58, 55⟩ : Go.Eng.Fns) 59 56 1000 60 10 (.row [4, 1, 1]) (.pt 4)) = true := by kernel_rfl
set_option maxRecDepth 100000 in
theorem r29_9 : Go.Eng.isTrue (Go.Eng.lptRun Try.prog Go.Proofs.Ythggbkoccgigaaa.dgM.sums (⟨42, 43, 96, 58, 55⟩ : Go.Eng.Fns) 59 56 1000 60 10 (.row [4, 1, 1]) (.pt 5)) = true := by kernel_rfl
theorem r29 : Go.Eng.AllL (fun c => Go.Eng.isTrue (Go.Eng.lptRun Try.prog Go.Proofs.Ythggbkoccgigaaa.dgM.sums (⟨42, 43, 96, 58, 55⟩ : Go.Eng.Fns) 59 56 1000 60 10 (.row [4, 1, 1]) c) = true) Go.Eng.pclasses := ⟨r29_0, r29_1, r29_2, r29_3, r29_4, r29_5, r29_6, r29_7, r29_8, r29_9, trivial⟩
set_option maxRecDepth 100000 in
theorem r33_0 : Go.Eng.isTrue (Go.Eng.lptRun Try.prog Go.Proofs.Ythggbkoccgigaaa.dgM.sums (⟨42, 43, 96, 58, 55⟩ : Go.Eng.Fns) 59 56 1000 60 10 (.row [6]) .nil) = true := by kernel_rfl
set_option maxRecDepth 100000 in
theorem r33_1 : Go.Eng.isTrue (Go.Eng.lptRun Try.prog Go.Proofs.Ythggbkoccgigaaa.dgM.sums (⟨42, 43, 96, 58, 55⟩ : Go.Eng.Fns) 59 56 1000 60 10 (.row [6]) .zero) = true := by kernel_rfl
set_option maxRecDepth 100000 in
theorem r33_2 : Go.Eng.isTrue (Go.Eng.lptRun Try.prog Go.Proofs.Ythggbkoccgigaaa.dgM.sums (⟨42, 43, 96, 58, 55⟩ : Go.Eng.Fns) 59 56 1000 60 10 (.row [6]) .no) = true := by kernel_rfl
set_option maxRecDepth 100000 in
theorem r33_3 : Go.Eng.isTrue (Go.Eng.lptRun Try.prog Go.Proofs.Ythggbkoccgigaaa.dgM.sums (⟨42, 43, 96, 58, 55⟩ : Go.Eng.Fns) 59 56 1000 60 10 (.row [6]) .long) = true := by kernel_rfl
set_option maxRecDepth 100000 in
theorem r33_4 : Go.Eng.isTrue (Go.Eng.lptRun Try.prog Go.Proofs.Ythggbkoccgigaaa.dgM.sums (⟨42, 43, 96, 58, 55⟩ : Go.Eng.Fns) 59 56 1000 60 10 (.row [6]) (.pt 0)) = true := by kernel_rfl
set_option maxRecDepth 100000 in
theorem r33_5 : Go.Eng.isTrue (Go.Eng.lptRun Try.prog Go.Proofs.Ythggbkoccgigaaa.dgM.sums (⟨42, 43, 96, 58, 55⟩ : Go.Eng.Fns) 59 56 1000 60 10 (.row [6]) (.pt 1)) = true := by kernel_rfl
set_option maxRecDepth 100000 in
theorem r33_6 : Go.Eng.isTrue (Go.Eng.lptRun Try.prog Go.Proofs.Ythggbkoccgigaaa.dgM.sums (⟨42, 43, 96, 58, 55⟩ : Go.Eng.Fns) 59 56 1000 60 10 (.row [6]) (.pt 2)) = true := by kernel_rfl
set_option maxRecDepth 100000 in
theorem r33_7 : Go.Eng.isTrue (Go.Eng.lptRun Try.prog Go.Proofs.Ythggbkoccgigaaa.dgM.sums (⟨42, 43, 96, 58, 55⟩ : Go.Eng.Fns) 59 56 1000 60 10 (.row [6]) (.pt 3)) = true := by kernel_rfl
set_option maxRecDepth 100000 in
theorem r33_8 : Go.Eng.isTrue (Go.Eng.lptRun Try.prog Go.Proofs.Ythggbkoccgigaaa.dgM.sums (⟨42, 43, 96, 58, 55⟩ : Go.Eng.Fns) 59 56 1000 60 10 (.row [6]) (.pt 4)) = true := by kernel_rfl
set_option maxRecDepth 100000 in
theorem r33_9 : Go.Eng.isTrue (Go.Eng.lptRun Try.prog Go.Proofs.Ythggbkoccgigaaa.dgM.sums (⟨42, 43, 96, 58, 55⟩ : Go.Eng.Fns) 59 56 1000 60 10 (.row [6]) (.pt 5)) = true := by kernel_rfl
theorem r33 : Go.Eng.AllL (fun c => Go.Eng.isTrue (Go.Eng.lptRun Try.prog Go.Proofs.Ythggbkoccgigaaa.dgM.sums (⟨42, 43, 96, 58, 55⟩ : Go.Eng.Fns) 59 56 1000 60 10 (.row [6]) c) = true) Go.Eng.pclasses := ⟨r33_0, r33_1, r33_2, r33_3, r33_4, r33_5, r33_6, r33_7, r33_8, r33_9, trivial⟩
end Go.Proofs.Ythggbkoccgigaaa.fnExactAtDiagramRuns
