/- The runs of FnExactAtDiagram, part 2. -/
import Derived.Test.YthggbkoccgigaaaEngZd
import Derived.Test.YthggbkoccgigaaaDgZ
import Derived.Test.YthggbkoccgigaaaProg
namespace Go.Proofs.Ythggbkoccgigaaa.fnExactAtDiagramRuns
set_option linter.unusedVariables false
set_option linter.unusedSectionVars false
set_option linter.unusedSimpArgs false
set_option maxRecDepth 100000 in
theorem r2_0 : Go.Eng.isTrue (Go.Eng.lptRun Try.prog Go.Proofs.Ythggbkoccgigaaa.dgM.sums (⟨42, 43, 96, 58, 55⟩ : Go.Eng.Fns) 59 56 1000 60 10 .no .nil) = true := by kernel_rfl
set_option maxRecDepth 100000 in
theorem r2_1 : Go.Eng.isTrue (Go.Eng.lptRun Try.prog Go.Proofs.Ythggbkoccgigaaa.dgM.sums (⟨42, 43, 96, 58, 55⟩ : Go.Eng.Fns) 59 56 1000 60 10 .no .zero) = true := by kernel_rfl
set_option maxRecDepth 100000 in
theorem r2_2 : Go.Eng.isTrue (Go.Eng.lptRun Try.prog Go.Proofs.Ythggbkoccgigaaa.dgM.sums (⟨42, 43, 96, 58, 55⟩ : Go.Eng.Fns) 59 56 1000 60 10 .no .no) = true := by kernel_rfl
set_option maxRecDepth 100000 in
theorem r2_3 : Go.Eng.isTrue (Go.Eng.lptRun Try.prog Go.Proofs.Ythggbkoccgigaaa.dgM.sums (⟨42, 43, 96, 58, 55⟩ : Go.Eng.Fns) 59 56 1000 60 10 .no .long) = true := by kernel_rfl
set_option maxRecDepth 100000 in
theorem r2_4 : Go.Eng.isTrue (Go.Eng.lptRun Try.prog Go.Proofs.Ythggbkoccgigaaa.dgM.sums (⟨42, 43, 96, 58, 55⟩ : Go.Eng.Fns) 59 56 1000 60 10 .no (.pt 0)) = true := by kernel_rfl
set_option maxRecDepth 100000 in
theorem r2_5 : Go.Eng.isTrue (Go.Eng.lptRun Try.prog Go.Proofs.Ythggbkoccgigaaa.dgM.sums (⟨42, 43, 96, 58, 55⟩ : Go.Eng.Fns) 59 56 1000 60 10 .no (.pt 1)) = true := by kernel_rfl
set_option maxRecDepth 100000 in
theorem r2_6 : Go.Eng.isTrue (Go.Eng.lptRun Try.prog Go.Proofs.Ythggbkoccgigaaa.dgM.sums (⟨42, 43, 96, 58, 55⟩ : Go.Eng.Fns) 59 56 1000 60 10 .no (.pt 2)) = true := by kernel_rfl
set_option maxRecDepth 100000 in
theorem r2_7 : Go.Eng.isTrue (Go.Eng.lptRun Try.prog Go.Proofs.Ythggbkoccgigaaa.dgM.sums (⟨42, 43, 96, 58, 55⟩ : Go.Eng.Fns) 59 56 1000 60 10 .no (.pt 3)) = true := by kernel_rfl
set_option maxRecDepth 100000 in
theorem r2_8 : Go.Eng.isTrue (Go.Eng.lptRun Try.prog Go.Proofs.Ythggbkoccgigaaa.dgM.sums (⟨42, 43, 96, 58, 55⟩ : Go.Eng.Fns) 59 56 1000 60 10 .no (.pt 4)) = true := by kernel_rfl
set_option maxRecDepth 100000 in
theorem r2_9 : Go.Eng.isTrue (Go.Eng.lptRun Try.prog Go.Proofs.Ythggbkoccgigaaa.dgM.sums (⟨42, 43, 96, 58, 55⟩ : Go.Eng.Fns) 59 56 1000 60 10 .no (.pt 5)) = true := by kernel_rfl
theorem r2 : Go.Eng.AllL (fun c => Go.Eng.isTrue (Go.Eng.lptRun Try.prog Go.Proofs.Ythggbkoccgigaaa.dgM.sums (⟨42, 43, 96, 58, 55⟩ : Go.Eng.Fns) 59 56 1000 60 10 .no c) = true) Go.Eng.pclasses := ⟨r2_0, r2_1, r2_2, r2_3, r2_4, r2_5, r2_6, r2_7, r2_8, r2_9, trivial⟩
set_option maxRecDepth 100000 in
theorem r6_0 : Go.Eng.isTrue (Go.Eng.lptRun Try.prog Go.Proofs.Ythggbkoccgigaaa.dgM.sums (⟨42, 43, 96, 58, 55⟩ : Go.Eng.Fns) 59 56 1000 60 10 (.row [1, 1]) .nil) = true := by kernel_rfl
set_option maxRecDepth 100000 in
theorem r6_1 : Go.Eng.isTrue (Go.Eng.lptRun Try.prog Go.Proofs.Ythggbkoccgigaaa.dgM.sums (⟨42, 43, 96, 58, 55⟩ : Go.Eng.Fns) 59 56 1000 60 10 (.row [1, 1]) .zero) = true := by kernel_rfl
set_option maxRecDepth 100000 in
theorem r6_2 : Go.Eng.isTrue (Go.Eng.lptRun Try.prog Go.Proofs.Ythggbkoccgigaaa.dgM.sums (⟨42, 43, 96, 58, 55⟩ : Go.Eng.Fns) 59 56 1000 60 10 (.row [1, 1]) .no) = true := by kernel_rfl
set_option maxRecDepth 100000 in
theorem r6_3 : Go.Eng.isTrue (Go.Eng.lptRun Try.prog Go.Proofs.Ythggbkoccgigaaa.dgM.sums (⟨42, 43, 96, 58, 55⟩ : Go.Eng.Fns) 59 56 1000 60 10 (.row [1, 1]) .long) = true := by kernel_rfl
set_option maxRecDepth 100000 in
theorem r6_4 : Go.Eng.isTrue (Go.Eng.lptRun Try.prog Go.Proofs.Ythggbkoccgigaaa.dgM.sums (⟨42, 43, 96, 58, 55⟩ : Go.Eng.Fns) 59 56 1000 60 10 (.row [1, 1]) (.pt 0)) = true := by kernel_rfl
set_option maxRecDepth 100000 in
theorem r6_5 : Go.Eng.isTrue (Go.Eng.lptRun Try.prog Go.Proofs.Ythggbkoccgigaaa.dgM.sums (⟨42, 43, 96, 58, 55⟩ : Go.Eng.Fns) 59 56 1000 60 10 (.row [1, 1]) (.pt 1)) = true := by kernel_rfl
set_option maxRecDepth 100000 in
theorem r6_6 : Go.Eng.isTrue (Go.Eng.lptRun Try.prog Go.Proofs.Ythggbkoccgigaaa.dgM.sums (⟨42, 43, 96, 58, 55⟩ : Go.Eng.Fns) 59 56 1000 60 10 (.row [1, 1]) (.pt 2)) = true := by kernel_rfl
set_option maxRecDepth 100000 in
theorem r6_7 : Go.Eng.isTrue (Go.Eng.lptRun Try.prog Go.Proofs.Ythggbkoccgigaaa.dgM.sums (⟨42, 43, 96, 58, 55⟩ : Go.Eng.Fns) 59 56 1000 60 10 (.row [1, 1]) (.pt 3)) = true := by kernel_rfl
set_option maxRecDepth 100000 in
theorem r6_8 : Go.Eng.isTrue (Go.Eng.lptRun Try.prog Go.Proofs.Ythggbkoccgigaaa.dgM.sums (⟨42, 43, 96, 58, 55⟩ : Go.Eng.Fns) 59 56 1000 60 10 (.row [1, 1]) (.pt 4)) = true := by kernel_rfl
set_option maxRecDepth 100000 in
theorem r6_9 : Go.Eng.isTrue (Go.Eng.lptRun Try.prog Go.Proofs.Ythggbkoccgigaaa.dgM.sums (⟨42, 43, 96, 58, 55⟩ : Go.Eng.Fns) 59 56 1000 60 10 (.row [1, 1]) (.pt 5)) = true := by kernel_rfl
theorem r6 : Go.Eng.AllL (fun c => Go.Eng.isTrue (Go.Eng.lptRun Try.prog Go.Proofs.Ythggbkoccgigaaa.dgM.sums (⟨42, 43, 96, 58, 55⟩ : Go.Eng.Fns) 59 56 1000 60 10 (.row [1, 1]) c) = true) Go.Eng.pclasses := ⟨r6_0, r6_1, r6_2, r6_3, r6_4, r6_5, r6_6, r6_7, r6_8, r6_9, trivial⟩
set_option maxRecDepth 100000 in
theorem r10_0 : Go.Eng.isTrue (Go.Eng.lptRun Try.prog Go.Proofs.Ythggbkoccgigaaa.dgM.sums (⟨42, 43, 96, 58, 55⟩ : Go.Eng.Fns) 59 56 1000 60 10 (.row [1, 1, 1, 1, 1, 1]) .nil) = true := by kernel_rfl
set_option maxRecDepth 100000 in
theorem r10_1 : Go.Eng.isTrue (Go.Eng.lptRun Try.prog Go.Proofs.Ythggbkoccgigaaa.dgM.sums (⟨42, 43, 96, 58, 55⟩ : Go.Eng.Fns) 59 56 1000 60 10 (.row [1, 1, 1, 1, 1, 1]) .zero) = true := by kernel_rfl
set_option maxRecDepth 100000 in
theorem r10_2 : Go.Eng.isTrue (Go.Eng.lptRun Try.prog Go.Proofs.Ythggbkoccgigaaa.dgM.sums (⟨42, 43, 96, 58, 55⟩ : Go.Eng.Fns) 59 56 1000 60 10 (.row [1, 1, 1, 1, 1, 1]) .no) = true := by kernel_rfl
set_option maxRecDepth 100000 in
theorem r10_3 : Go.Eng.isTrue (Go.Eng.lptRun Try.prog Go.Proofs.Ythggbkoccgigaaa.dgM.sums (⟨42, 43, 96, 58, 55⟩ : Go.Eng.Fns) 59 56 1000 60 10 (.row [1, 1, 1, 1, 1, 1]) .long) = true := by kernel_rfl
set_option maxRecDepth 100000 in
theorem r10_4 : Go.Eng.isTrue (Go.Eng.lptRun Try.prog Go.Proofs.Ythggbkoccgigaaa.dgM.sums (⟨42, 43, 96, 58, 55⟩ : Go.Eng.Fns) 59 56 1000 60 10 (.row [1, 1, 1, 1, 1, 1]) (.pt 0)) = true := by kernel_rfl
set_option maxRecDepth 100000 in
theorem r10_5 : Go.Eng.isTrue (Go.Eng.lptRun Try.prog Go.Proofs.Ythggbkoccgigaaa.dgM.sums (⟨42, 43, 96, 58, 55⟩ : Go.Eng.Fns) 59 56 1000 60 10 (.row [1, 1, 1, 1, 1, 1]) (.pt 1)) = true := by kernel_rfl
set_option maxRecDepth 100000 in
theorem r10_6 : Go.Eng.isTrue (Go.Eng.lptRun Try.prog Go.Proofs.Ythggbkoccgigaaa.dgM.sums (⟨42, 43, 96, 58, 55⟩ : Go.Eng.Fns) 59 56 1000 60 10 (.row [1, 1, 1, 1, 1, 1]) (.pt 2)) = true := by kernel_rfl
set_option maxRecDepth 100000 in
theorem r10_7 : Go.Eng.isTrue (Go.Eng.lptRun Try.prog Go.Proofs.Ythggbkoccgigaaa.dgM.sums (⟨42, 43, 96, 58, 55⟩ : Go.Eng.Fns) 59 56 1000 60 10 (.row [1, 1, 1, 1, 1, 1]) (.pt 3)) = true := by kernel_rfl
set_option maxRecDepth 100000 in
theorem r10_8 : Go.Eng.isTrue (Go.Eng.lptRun Try.prog Go.Proofs.Ythggbkoccgigaaa.dgM.sums (⟨42, 43, 96, 58, 55⟩ : Go.Eng.Fns) 59 56 1000 60 10 (.row [1, 1, 1, 1, 1, 1]) (.pt 4)) = true := by kernel_rfl
set_option maxRecDepth 100000 in
theorem r10_9 : Go.Eng.isTrue (Go.Eng.lptRun Try.prog Go.Proofs.Ythggbkoccgigaaa.dgM.sums (⟨42, 43, 96, 58, 55⟩ : Go.Eng.Fns) 59 56 1000 60 10 (.row [1, 1, 1, 1, 1, 1]) (.pt 5)) = true := by kernel_rfl
theorem r10 : Go.Eng.AllL (fun c => Go.Eng.isTrue (Go.Eng.lptRun Try.prog Go.Proofs.Ythggbkoccgigaaa.dgM.sums (⟨42, 43, 96, 58, 55⟩ : Go.Eng.Fns) 59 56 1000 60 10 (.row [1, 1, 1, 1, 1, 1]) c) = true) Go.Eng.pclasses := ⟨r10_0, r10_1, r10_2, r10_3, r10_4, r10_5, r10_6, r10_7, r10_8, r10_9, trivial⟩
set_option maxRecDepth 100000 in
theorem r14_0 : Go.Eng.isTrue (Go.Eng.lptRun Try.prog Go.Proofs.Ythggbkoccgigaaa.dgM.sums (⟨42, 43, 96, 58, 55⟩ : Go.Eng.Fns) 59 56 1000 60 10 (.row [2, 1, 1, 1]) .nil) = true := by kernel_rfl
set_option maxRecDepth 100000 in
theorem r14_1 : Go.Eng.isTrue (Go.Eng.lptRun Try.prog Go.Proofs.Ythggbkoccgigaaa.dgM.sums (⟨42, 43, 96, 58, 55⟩ : Go.Eng.Fns) 59 56 1000 60 10 (.row [2, 1, 1, 1]) .zero) = true := by kernel_rfl
set_option maxRecDepth 100000 in
theorem r14_2 : Go.Eng.isTrue (Go.Eng.lptRun Try.prog Go.Proofs.Ythggbkoccgigaaa.dgM.sums (⟨42, 43, 96, 58, 55⟩ : Go.Eng.Fns) 59 56 1000 60 10 (.row [2, 1, 1, 1]) .no) = true := by kernel_rfl
set_option maxRecDepth 100000 in
theorem r14_3 : Go.Eng.isTrue (Go.Eng.lptRun Try.prog Go.Proofs.Ythggbkoccgigaaa.dgM.sums (⟨42, 43, 96, 58, 55⟩ : Go.Eng.Fns) 59 56 1000 60 10 (.row [2, 1, 1, 1]) .long) = true := by kernel_rfl
set_option maxRecDepth 100000 in
theorem r14_4 : Go.Eng.isTrue (Go.Eng.lptRun Try.prog Go.Proofs.Ythggbkoccgigaaa.dgM.sums (⟨42, 43, 96, 58, 55⟩ : Go.Eng.Fns) 59 56 1000 60 10 (.row [2, 1, 1, 1]) (.pt 0)) = true := by kernel_rfl
set_option maxRecDepth 100000 in
theorem r14_5 : Go.Eng.isTrue (Go.Eng.lptRun Try.prog Go.Proofs.Ythggbkoccgigaaa.dgM.sums (⟨42, 43, 96, 58, 55⟩ : Go.Eng.Fns) 59 56 1000 60 10 (.row [2, 1, 1, 1]) (.pt 1)) = true := by kernel_rfl
set_option maxRecDepth 100000 in
theorem r14_6 : Go.Eng.isTrue (Go.Eng.lptRun Try.prog Go.Proofs.Ythggbkoccgigaaa.dgM.sums (⟨42, 43, 96, 58, 55⟩ : Go.Eng.Fns) 59 56 1000 60 10 (.row [2, 1, 1, 1]) (.pt 2)) = true := by kernel_rfl
set_option maxRecDepth 100000 in
theorem r14_7 : Go.Eng.isTrue (Go.Eng.lptRun Try.prog Go.Proofs.Ythggbkoccgigaaa.dgM.sums (⟨42, 43, 96, 58, 55⟩ : Go.Eng.Fns) 59 56 1000 60 10 (.row [2, 1, 1, 1]) (.pt 3)) = true := by kernel_rfl
set_option maxRecDepth 100000 in
theorem r14_8 : Go.Eng.isTrue (Go.Eng.lptRun Try.prog Go.Proofs.Ythggbkoccgigaaa.dgM.sums (⟨42, 43, 96, 58, 55⟩ : Go.Eng.Fns) 59 56 1000 60 10 (.row [2, 1, 1, 1]) (.pt 4)) = true := by kernel_rfl
set_option maxRecDepth 100000 in
theorem r14_9 : Go.Eng.isTrue (Go.Eng.lptRun Try.prog Go.Proofs.Ythggbkoccgigaaa.dgM.sums (⟨42, 43, 96, 58, 55⟩ : Go.Eng.Fns) 59 56 1000 60 10 (.row [2, 1, 1, 1]) (.pt 5)) = true := by kernel_rfl
theorem r14 : Go.Eng.AllL (fun c => Go.Eng.isTrue (Go.Eng.lptRun Try.prog Go.Proofs.Ythggbkoccgigaaa.dgM.sums (⟨42, 43, 96, 58, 55⟩ : Go.Eng.Fns) 59 56 1000 60 10 (.row [2, 1, 1, 1]) c) = true) Go.Eng.pclasses := ⟨r14_0, r14_1, r14_2, r14_3, r14_4, r14_5, r14_6, r14_7, r14_8, r14_9, trivial⟩
set_option maxRecDepth 100000 in
theorem r18_0 : Go.Eng.isTrue (Go.Eng.lptRun Try.prog Go.Proofs.Ythggbkoccgigaaa.dgM.sums (⟨42, 43, 96, 58, 55⟩ : Go.Eng.Fns) 59 56 1000 60 10 (.row [2, 2, 1, 1]) .nil) = true := by kernel_rfl
set_option maxRecDepth 100000 in
theorem r18_1 : Go.Eng.isTrue (Go.Eng.lptRun Try.prog Go.Proofs.Ythggbkoccgigaaa.dgM.sums (⟨42, 43, 96, 58, 55⟩ : Go.Eng.Fns) 59 56 1000 60 10 (.row [2, 2, 1, 1]) .zero) = true := by kernel_rfl
set_option maxRecDepth 100000 in
theorem r18_2 : Go.Eng.isTrue (Go.Eng.lptRun Try.prog Go.Proofs.Ythggbkoccgigaaa.dgM.sums (⟨42, 43, 96, 58, 55⟩ : Go.Eng.Fns) 59 56 1000 60 10 (.row [2, 2, 1, 1]) .no) = true := by kernel_rfl
set_option maxRecDepth 100000 in
theorem r18_3 : Go.Eng.isTrue (Go.Eng.lptRun Try.prog Go.Proofs.Ythggbkoccgigaaa.dgM.sums (⟨42, 43, 96, 58, 55⟩ : Go.Eng.Fns) 59 56 1000 60 10 (.row [2, 2, 1, 1]) .long) = true := by kernel_rfl
set_option maxRecDepth 100000 in
theorem r18_4 : Go.Eng.isTrue (Go.Eng.lptRun Try.prog Go.Proofs.Ythggbkoccgigaaa.dgM.sums (⟨42, 43, 96, 58, 55⟩ : Go.Eng.Fns) 59 56 1000 60 10 (.row [2, 2, 1, 1]) (.pt 0)) = true := by kernel_rfl
set_option maxRecDepth 100000 in
theorem r18_5 : Go.Eng.isTrue (Go.Eng.lptRun Try.prog Go.Proofs.Ythggbkoccgigaaa.dgM.sums (⟨42, 43, 96, 58, 55⟩ : Go.Eng.Fns) 59 56 1000 60 10 (.row [2, 2, 1, 1]) (.pt 1)) = true := by kernel_rfl
set_option maxRecDepth 100000 in
theorem r18_6 : Go.Eng.isTrue (Go.Eng.lptRun Try.prog Go.Proofs.Ythggbkoccgigaaa.dgM.sums (⟨42, 43, 96, 58, 55⟩ : Go.Eng.Fns) 59 56 1000 60 10 (.row [2, 2, 1, 1]) (.pt 2)) = true := by kernel_rfl
set_option maxRecDepth 100000 in
theorem r18_7 : Go.Eng.isTrue (Go.Eng.lptRun Try.prog Go.Proofs.Ythggbkoccgigaaa.dgM.sums (⟨42, 43, 96, 58, 55⟩ : Go.Eng.Fns) 59 56 1000 60 10 (.row [2, 2, 1, 1]) (.pt 3)) = true := by kernel_rfl
set_option maxRecDepth 100000 in
theorem r18_8 : Go.Eng.isTrue (Go.Eng.lptRun Try.prog Go.Proofs.Ythggbkoccgigaaa.dgM.sums (⟨42, 43, 96, 58, 55⟩ : Go.Eng.Fns) 59 56 1000 60 10 (.row [2, 2, 1, 1]) (.pt 4)) = true := by kernel_rfl
set_option maxRecDepth 100000 in
theorem r18_9 : Go.Eng.isTrue (Go.Eng.lptRun Try.prog Go.Proofs.Ythggbkoccgigaaa.dgM.sums (⟨42, 43, 96, 58, 55⟩ : Go.Eng.Fns) 59 56 1000 60 10 (.row [2, 2, 1, 1]) (.pt 5)) = true := by kernel_rfl
theorem r18 : Go.Eng.AllL (fun c => Go.Eng.isTrue (Go.Eng.lptRun Try.prog Go.Proofs.Ythggbkoccgigaaa.dgM.sums (⟨42, 43, 96, 58, 55⟩ : Go.Eng.Fns) 59 56 1000 60 10 (.row [2, 2, 1, 1]) c) = true) Go.Eng.pclasses := ⟨r18_0, r18_1, r18_2, r18_3, r18_4, r18_5, r18_6, r18_7, r18_8, r18_9, trivial⟩
set_option maxRecDepth 100000 in
theorem r22_0 : Go.Eng.isTrue (Go.Eng.lptRun Try.prog Go.Proofs.Ythggbkoccgigaaa.dgM.sums (⟨42, 43, 96, 58, 55⟩ : Go.Eng.Fns) 59 56 1000 60 10 (.row [3, 1, 1]) .nil) = true := by kernel_rfl
set_option maxRecDepth 100000 in
theorem r22_1 : Go.Eng.isTrue (Go.Eng.lptRun Try.prog Go.Proofs.Ythggbkoccgigaaa.dgM.sums (⟨42, 43, 96, 58, 55⟩ : Go.Eng.Fns) 59 56 1000 60 10 (.row [3, 1, 1]) .zero) = true := by kernel_rfl
set_option maxRecDepth 100000 in
theorem r22_2 : Go.Eng.isTrue (Go.Eng.lptRun Try.prog Go.Proofs.Ythggbkoccgigaaa.dgM.sums (⟨42, 43, 96, 58, 55⟩ : Go.Eng.Fns) 59 56 1000 60 10 (.row [3, 1, 1]) .no) = true := by kernel_rfl
set_option maxRecDepth 100000 in
theorem r22_3 : Go.Eng.isTrue (Go.Eng.lptRun Try.prog Go.Proofs.Ythggbkoccgigaaa.dgM.sums (⟨42, 43, 96, 58, 55⟩ : Go.Eng.Fns) 59 56 1000 60 10 (.row [3, 1, 1]) .long) = true := by kernel_rfl
set_option maxRecDepth 100000 in
theorem r22_4 : Go.Eng.isTrue (Go.Eng.lptRun Try.prog Go.Proofs.Ythggbkoccgigaaa.dgM.sums (⟨42, 43, 96, 58, 55⟩ : Go.Eng.Fns) 59 56 1000 60 10 (.row [3, 1, 1]) (.pt 0)) = true := by kernel_rfl
set_option maxRecDepth 100000 in
theorem r22_5 : Go.Eng.isTrue (Go.Eng.lptRun Try.prog Go.Proofs.Ythggbkoccgigaaa.dgM.sums (⟨42, 43, 96, 58, 55⟩ : Go.Eng.Fns) 59 56 1000 60 10 (.row [3, 1, 1]) (.pt 1)) = true := by kernel_rfl
set_option maxRecDepth 100000 in
theorem r22_6 : Go.Eng.isTrue (Go.Eng.lptRun Try.prog Go.Proofs.Ythggbkoccgigaaa.dgM.sums (⟨42, 43, 96, 58, 55⟩ : Go.Eng.Fns) 59 56 1000 60 10 (.row [3, 1, 1]) (.pt 2)) = true := by kernel_rfl
set_option maxRecDepth 100000 in
theorem r22_7 : Go.Eng.isTrue (Go.Eng.lptRun Try.prog Go.Proofs.Ythggbkoccgigaaa.dgM.sums (⟨42, 43, 96, 58, 55⟩ : Go.Eng.Fns) 59 56 1000 60 10 (.row [3, 1, 1]) (.pt 3)) = true := by kernel_rfl
set_option maxRecDepth 100000 in
theorem r22_8 : Go.Eng.isTrue (Go.Eng.lptRun Try.prog Go.Proofs.Ythggbkoccgigaaa.dgM.sums (⟨42, 43, 96, 58, 55⟩ : Go.Eng.Fns) 59 56 1000 60 10 (.row [3, 1, 1]) (.pt 4)) = true := by kernel_rfl
set_option maxRecDepth 100000 in
theorem r22_9 : Go.Eng.isTrue (Go.Eng.lptRun Try.prog Go.Proofs.Ythggbkoccgigaaa.dgM.sums (⟨42, 43, 96, 58, 55⟩ : Go.Eng.Fns) 59 56 1000 60 10 (.row [3, 1, 1]) (.pt 5)) = true := by kernel_rfl
theorem r22 : Go.Eng.AllL (fun c => Go.Eng.isTrue (Go.Eng.lptRun Try.prog Go.Proofs.Ythggbkoccgigaaa.dgM.sums (⟨42, 43, 96, 58, 55⟩ : Go.Eng.Fns) 59 56 1000 60 10 (.row [3, 1, 1]) c) = true) Go.Eng.pclasses := ⟨r22_0, r22_1, r22_2, r22_3, r22_4, r22_5, r22_6, r22_7, r22_8, r22_9, trivial⟩
set_option maxRecDepth 100000 in
theorem r26_0 : Go.Eng.isTrue (Go.Eng.lptRun Try.prog Go.Proofs.Ythggbkoccgigaaa.dgM.sums (⟨42, 43, 96, 58, 55⟩ : Go.Eng.Fns) 59 56 1000 60 10 (.row [3, 3]) .nil) = true := by kernel_rfl
set_option maxRecDepth 100000 in
theorem r26_1 : Go.Eng.isTrue (Go.Eng.lptRun Try.prog Go.Proofs.Ythggbkoccgigaaa.dgM.sums (⟨42, 43, 96, 58, 55⟩ : Go.Eng.Fns) 59 56 1000 60 10 (.row [3, 3]) .zero) = true := by kernel_rfl
set_option maxRecDepth 100000 in
theorem r26_2 : Go.Eng.isTrue (Go.Eng.lptRun Try.prog Go.Proofs.Ythggbkoccgigaaa.dgM.sums (⟨42, 43, 96, 58, 55⟩ : Go.Eng.Fns) 59 56 1000 60 10 (.row [3, 3]) .no) = true := by kernel_rfl
set_option maxRecDepth 100000 in
theorem r26_3 : Go.Eng.isTrue (Go.Eng.lptRun Try.prog Go.Proofs.Ythggbkoccgigaaa.dgM.sums (⟨42, 43, 96, 58, 55⟩ : Go.Eng.Fns) 59 56 1000 60 10 (.row [3, 3]) .long) = true := by kernel_rfl
set_option maxRecDepth 100000 in
theorem r26_4 : Go.Eng.isTrue (Go.Eng.lptRun Try.prog Go.Proofs.Ythggbkoccgigaaa.dgM.sums (⟨42, 43, 96, 58, 55⟩ : Go.Eng.Fns) 59 56 1000 60 10 (.row [3, 3]) (.pt 0)) = true := by kernel_rfl
set_option maxRecDepth 100000 in
theorem r26_5 : Go.Eng.isTrue (Go.Eng.lptRun Try.prog Go.Proofs.Ythggbkoccgigaaa.dgM.sums (⟨42, 43, 96, 58, 55⟩ : Go.Eng.Fns) 59 56 1000 60 10 (.row [3, 3]) (.pt 1)) = true := by kernel_rfl
set_option maxRecDepth 100000 in
theorem r26_6 : Go.Eng.isTrue (Go.Eng.lptRun Try.prog Go.Proofs.Ythggbkoccgigaaa.dgM.sums (⟨42, 43, 96, 58, 55⟩ : Go.Eng.Fns) 59 56 1000 60 10 (.row [3, 3]) (.pt 2)) = true := by kernel_rfl
set_option maxRecDepth 100000 in
theorem r26_7 : Go.Eng.isTrue (Go.Eng.lptRun Try.prog Go.Proofs.Ythggbkoccgigaaa.dgM.sums (⟨42, 43, 96, 58, 55⟩ : Go.Eng.Fns) 59 56 1000 60 10 (.row [3, 3]) (.pt 3)) = true := by kernel_rfl
set_option maxRecDepth 100000 in
theorem r26_8 : Go.Eng.isTrue (Go.Eng.lptRun Try.prog Go.Proofs.Ythggbkoccgigaaa.dgM.sums (⟨42, 43, 96, 58, 55⟩ : Go.Eng.Fns) 59 56 1000 60 10 (.row [3, 3]) (.pt 4)) = true := by kernel_rfl
set_option maxRecDepth 100000 in
theorem r26_9 : Go.Eng.isTrue (Go.Eng.lptRun Try.prog Go.Proofs.Ythggbkoccgigaaa.dgM.sums (⟨42, 43, 96, 58, 55⟩ : Go.Eng.Fns) 59 56 1000 60 10 (.row [3, 3]) (.pt 5)) = true := by kernel_rfl
theorem r26 : Go.Eng.AllL (fun c => Go.Eng.isTrue (Go.Eng.lptRun Try.prog Go.Proofs.Ythggbkoccgigaaa.dgM.sums (⟨42, 43, 96, 58, 55⟩ : Go.Eng.Fns) 59 56 1000 60 10 (.row [3, 3]) c) = true) Go.Eng.pclasses := ⟨r26_0, r26_1, r26_2, r26_3, r26_4, r26_5, r26_6, r26_7, r26_8, r26_9, trivial⟩
set_option maxRecDepth 100000 in
theorem r30_0 : Go.Eng.isTrue (Go.Eng.lptRun Try.prog Go.Proofs.Ythggbkoccgigaaa.dgM.sums (⟨42, 43, 96, 58, 55⟩ : Go.Eng.Fns) 59 56 1000 60 10 (.row [4, 2]) .nil) = true := by kernel_rfl
set_option maxRecDepth 100000 in
theorem r30_1 : Go.Eng.isTrue (Go.Eng.lptRun Try.prog Go.Proofs.Ythggbkoccgigaaa.dgM.sums (⟨42, 43, 96, 58, 55⟩ : Go.Eng.Fns) 59 56 1000 60 10 (.row [4, 2]) .zero) = true := by kernel_rfl
set_option maxRecDepth 100000 in
theorem r30_2 : Go.Eng.isTrue (Go.Eng.lptRun Try.prog Go.Proofs.Ythggbkoccgigaaa.dgM.sums (⟨42, 43, 96, 58, 55⟩ : Go.Eng.Fns) 59 56 1000 60 10 (.row [4, 2]) .no) = true := by kernel_rfl
set_option maxRecDepth 100000 in
theorem r30_3 : Go.Eng.isTrue (Go.Eng.lptRun Try.prog Go.Proofs.Ythggbkoccgigaaa.dgM.sums (⟨42, 43, 96, 58, 55⟩ : Go.Eng.Fns) 59 56 1000 60 10 (.row [4, 2]) .long) = true := by kernel_rfl
set_option maxRecDepth 100000 in
theorem r30_4 : Go.Eng.isTrue (Go.Eng.lptRun Try.prog Go.Proofs.Ythggbkoccgigaaa.dgM.sums (⟨42, 43, 96, 58, 55⟩ : Go.Eng.Fns) 59 56 1000 60 10 (.row [4, 2]) (.pt 0)) = true := by kernel_rfl
set_option maxRecDepth 100000 in
theorem r30_5 : Go.Eng.isTrue (Go.Eng.lptRun Try.prog Go.Proofs.Ythggbkoccgigaaa.dgM.sums (⟨42, 43, 96, 58, 55⟩ : Go.Eng.Fns) 59 56 1000 60 10 (.row [4, 2]) (.pt 1)) = true := by kernel_rfl
set_option maxRecDepth 100000 in
theorem r30_6 : Go.Eng.isTrue (Go.Eng.lptRun Try.prog Go.Proofs.Ythggbkoccgigaaa.dgM.sums (⟨42, 43, 96, 58, 55⟩ : Go.Eng.Fns) 59 56 1000 60 10 (.row [4, 2]) (.pt 2)) = true := by kernel_rfl
set_option maxRecDepth 100000 in
theorem r30_7 : Go.Eng.isTrue (Go.Eng.lptRun Try.prog Go.Proofs.Ythggbkoccgigaaa.dgM.sums (⟨42, 43, 96, 58, 55⟩ : Go.Eng.Fns) 59 56 1000 60 10 (.row [4, 2]) (.pt 3)) = true := by kernel_rfl
set_option maxRecDepth 100000 in
theorem r30_8 : Go.Eng.isTrue (Go.Eng.lptRun Try.prog Go.Proofs.Ythggbkoccgigaaa.dgM.sums (⟨42, 43, 96, 58, 55⟩ : Go.Eng.Fns) 59 56 1000 60 10 (.row [4, 2]) (.pt 4)) = true := by kernel_rfl
set_option maxRecDepth 100000 in
theorem r30_9 : Go.Eng.isTrue (Go.Eng.lptRun Try.prog Go.Proofs.Ythggbkoccgigaaa.dgM.sums (⟨42, 43, 96, 58, 55⟩ : Go.Eng.Fns) 59 56 1000 60 10 (.row [4, 2]) (.pt 5)) = true := by kernel_rfl
theorem r30 : Go.Eng.AllL (fun c => Go.Eng.isTrue (Go.Eng.lptRun Try.prog Go.Proofs.Ythggbkoccgigaaa.dgM.sums (⟨42, 43, 96, 58, 55⟩ : Go.Eng.Fns) 59 56 1000 60 10 (.row [4, 2]) c) = true) Go.Eng.pclasses := ⟨r30_0, r30_1, r30_2, r30_3, r30_4, r30_5, r30_6, r30_7, r30_8, r30_9, trivial⟩
end Go.Proofs.Ythggbkoccgigaaa.fnExactAtDiagramRuns
