/- The runs of FnExactAtPlain, part 0. -/
import Derived.Test.YthcdiaahpodkoaeEngZc
import Derived.Test.YthcdiaahpodkoaeProg
namespace Go.Proofs.Ythcdiaahpodkoae.fnExactAtPlainRuns
set_option linter.unusedVariables false
set_option linter.unusedSectionVars false
set_option linter.unusedSimpArgs false
set_option maxRecDepth 100000 in
theorem r0_0 : Go.Eng.isTrue (Go.Eng.lptRun Try.prog Go.Eng.noSums (⟨16, 18, 19, 46, 69⟩ : Go.Eng.Fns) 56 70 1000 60 6 .nil .nil) = true := by kernel_rfl
set_option maxRecDepth 100000 in
theorem r0_1 : Go.Eng.isTrue (Go.Eng.lptRun Try.prog Go.Eng.noSums (⟨16, 18, 19, 46, 69⟩ : Go.Eng.Fns) 56 70 1000 60 6 .nil .zero) = true := by kernel_rfl
set_option maxRecDepth 100000 in
theorem r0_2 : Go.Eng.isTrue (Go.Eng.lptRun Try.prog Go.Eng.noSums (⟨16, 18, 19, 46, 69⟩ : Go.Eng.Fns) 56 70 1000 60 6 .nil .no) = true := by kernel_rfl
set_option maxRecDepth 100000 in
theorem r0_3 : Go.Eng.isTrue (Go.Eng.lptRun Try.prog Go.Eng.noSums (⟨16, 18, 19, 46, 69⟩ : Go.Eng.Fns) 56 70 1000 60 6 .nil .long) = true := by kernel_rfl
set_option maxRecDepth 100000 in
theorem r0_4 : Go.Eng.isTrue (Go.Eng.lptRun Try.prog Go.Eng.noSums (⟨16, 18, 19, 46, 69⟩ : Go.Eng.Fns) 56 70 1000 60 6 .nil (.pt 0)) = true := by kernel_rfl
set_option maxRecDepth 100000 in
theorem r0_5 : Go.Eng.isTrue (Go.Eng.lptRun Try.prog Go.Eng.noSums (⟨16, 18, 19, 46, 69⟩ : Go.Eng.Fns) 56 70 1000 60 6 .nil (.pt 1)) = true := by kernel_rfl
set_option maxRecDepth 100000 in
theorem r0_6 : Go.Eng.isTrue (Go.Eng.lptRun Try.prog Go.Eng.noSums (⟨16, 18, 19, 46, 69⟩ : Go.Eng.Fns) 56 70 1000 60 6 .nil (.pt 2)) = true := by kernel_rfl
set_option maxRecDepth 100000 in
theorem r0_7 : Go.Eng.isTrue (Go.Eng.lptRun Try.prog Go.Eng.noSums (⟨16, 18, 19, 46, 69⟩ : Go.Eng.Fns) 56 70 1000 60 6 .nil (.pt 3)) = true := by kernel_rfl
set_option maxRecDepth 100000 in
theorem r0_8 : Go.Eng.isTrue (Go.Eng.lptRun Try.prog Go.Eng.noSums (⟨16, 18, 19, 46, 69⟩ : Go.Eng.Fns) 56 70 1000 60 6 .nil (.pt 4)) = true := by kernel_rfl
set_option maxRecDepth 100000 in
theorem r0_9 : Go.Eng.isTrue (Go.Eng.lptRun Try.prog Go.Eng.noSums (⟨16, 18, 19, 46, 69⟩ : Go.Eng.Fns) 56 70 1000 60 6 .nil (.pt 5)) = true := by kernel_rfl
theorem r0 : Go.Eng.AllL (fun c => Go.Eng.isTrue (Go.Eng.lptRun Try.prog Go.Eng.noSums (⟨16, 18, 19, 46, 69⟩ : Go.Eng.Fns) 56 70 1000 60 6 .nil c) = true) Go.Eng.pclasses := ⟨r0_0, r0_1, r0_2, r0_3, r0_4, r0_5, r0_6, r0_7, r0_8, r0_9, trivial⟩
set_option maxRecDepth 100000 in
theorem r3_0 : Go.Eng.isTrue (Go.Eng.lptRun Try.prog Go.Eng.noSums (⟨16, 18, 19, 46, 69⟩ : Go.Eng.Fns) 56 70 1000 60 6 .long .nil) = true := by kernel_rfl
set_option maxRecDepth 100000 in
theorem r3_1 : Go.Eng.isTrue (Go.Eng.lptRun Try.prog Go.Eng.noSums (⟨16, 18, 19, 46, 69⟩ : Go.Eng.Fns) 56 70 1000 60 6 .long .zero) = true := by kernel_rfl
set_option maxRecDepth 100000 in
theorem r3_2 : Go.Eng.isTrue (Go.Eng.lptRun Try.prog Go.Eng.noSums (⟨16, 18, 19, 46, 69⟩ : Go.Eng.Fns) 56 70 1000 60 6 .long .no) = true := by kernel_rfl
set_option maxRecDepth 100000 in
theorem r3_3 : Go.Eng.isTrue (Go.Eng.lptRun Try.prog Go.Eng.noSums (⟨16, 18, 19, 46, 69⟩ : Go.Eng.Fns) 56 70 1000 60 6 .long .long) = true := by kernel_rfl
set_option maxRecDepth 100000 in
theorem r3_4 : Go.Eng.isTrue (Go.Eng.lptRun Try.prog Go.Eng.noSums (⟨16, 18, 19, 46, 69⟩ : Go.Eng.Fns) 56 70 1000 60 6 .long (.pt 0)) = true := by kernel_rfl
set_option maxRecDepth 100000 in
theorem r3_5 : Go.Eng.isTrue (Go.Eng.lptRun Try.prog Go.Eng.noSums (⟨16, 18, 19, 46, 69⟩ : Go.Eng.Fns) 56 70 1000 60 6 .long (.pt 1)) = true := by kernel_rfl
set_option maxRecDepth 100000 in
theorem r3_6 : Go.Eng.isTrue (Go.Eng.lptRun Try.prog Go.Eng.noSums (⟨16, 18, 19, 46, 69⟩ : Go.Eng.Fns) 56 70 1000 60 6 .long (.pt 2)) = true := by kernel_rfl
set_option maxRecDepth 100000 in
theorem r3_7 : Go.Eng.isTrue (Go.Eng.lptRun Try.prog Go.Eng.noSums (⟨16, 18, 19, 46, 69⟩ : Go.Eng.Fns) 56 70 1000 60 6 .long (.pt 3)) = true := by kernel_rfl
set_option maxRecDepth 100000 in
theorem r3_8 : Go.Eng.isTrue (Go.Eng.lptRun Try.prog Go.Eng.noSums (⟨16, 18, 19, 46, 69⟩ : Go.Eng.Fns) 56 70 1000 60 6 .long (.pt 4)) = true := by kernel_rfl
set_option maxRecDepth 100000 in
theorem r3_9 : Go.Eng.isTrue (Go.Eng.lptRun Try.prog Go.Eng.noSums (⟨16, 18, 19, 46, 69⟩ : Go.Eng.Fns) 56 70 1000 60 6 .long (.pt 5)) = true := by kernel_rfl
theorem r3 : Go.Eng.AllL (fun c => Go.Eng.isTrue (Go.Eng.lptRun Try.prog Go.Eng.noSums (⟨16, 18, 19, 46, 69⟩ : Go.Eng.Fns) 56 70 1000 60 6 .long c) = true) Go.Eng.pclasses := ⟨r3_0, r3_1, r3_2, r3_3, r3_4, r3_5, r3_6, r3_7, r3_8, r3_9, trivial⟩
set_option maxRecDepth 100000 in
theorem r6_0 : Go.Eng.isTrue (Go.Eng.lptRun Try.prog Go.Eng.noSums (⟨16, 18, 19, 46, 69⟩ : Go.Eng.Fns) 56 70 1000 60 6 (.row [1, 1]) .nil) = true := by kernel_rfl
set_option maxRecDepth 100000 in
theorem r6_1 : Go.Eng.isTrue (Go.Eng.lptRun Try.prog Go.Eng.noSums (⟨16, 18, 19, 46, 69⟩ : Go.Eng.Fns) 56 70 1000 60 6 (.row [1, 1]) .zero) = true := by kernel_rfl
set_option maxRecDepth 100000 in
theorem r6_2 : Go.Eng.isTrue (Go.Eng.lptRun Try.prog Go.Eng.noSums (⟨16, 18, 19, 46, 69⟩ : Go.Eng.Fns) 56 70 1000 60 6 (.row [1, 1]) .no) = true := by kernel_rfl
set_option maxRecDepth 100000 in
theorem r6_3 : Go.Eng.isTrue (Go.Eng.lptRun Try.prog Go.Eng.noSums (⟨16, 18, 19, 46, 69⟩ : Go.Eng.Fns) 56 70 1000 60 6 (.row [1, 1]) .long) = true := by kernel_rfl
set_option maxRecDepth 100000 in
theorem r6_4 : Go.Eng.isTrue (Go.Eng.lptRun Try.prog Go.Eng.noSums (⟨16, 18, 19, 46, 69⟩ : Go.Eng.Fns) 56 70 1000 60 6 (.row [1, 1]) (.pt 0)) = true := by kernel_rfl
set_option maxRecDepth 100000 in
theorem r6_5 : Go.Eng.isTrue (Go.Eng.lptRun Try.prog Go.Eng.noSums (⟨16, 18, 19, 46, 69⟩ : Go.Eng.Fns) 56 70 1000 60 6 (.row [1, 1]) (.pt 1)) = true := by kernel_rfl
set_option maxRecDepth 100000 in
theorem r6_6 : Go.Eng.isTrue (Go.Eng.lptRun Try.prog Go.Eng.noSums (⟨16, 18, 19, 46, 69⟩ : Go.Eng.Fns) 56 70 1000 60 6 (.row [1, 1]) (.pt 2)) = true := by kernel_rfl
set_option maxRecDepth 100000 in
theorem r6_7 : Go.Eng.isTrue (Go.Eng.lptRun Try.prog Go.Eng.noSums (⟨16, 18, 19, 46, 69⟩ : Go.Eng.Fns) 56 70 1000 60 6 (.row [1, 1]) (.pt 3)) = true := by kernel_rfl
set_option maxRecDepth 100000 in
theorem r6_8 : Go.Eng.isTrue (Go.Eng.lptRun Try.prog Go.Eng.noSums (⟨16, 18, 19, 46, 69⟩ : Go.Eng.Fns) 56 70 1000 60 6 (.row [1, 1]) (.pt 4)) = true := by kernel_rfl
set_option maxRecDepth 100000 in
theorem r6_9 : Go.Eng.isTrue (Go.Eng.lptRun Try.prog Go.Eng.noSums (⟨16, 18, 19, 46, 69⟩ : Go.Eng.Fns) 56 70 1000 60 6 (.row [1, 1]) (.pt 5)) = true := by kernel_rfl
theorem r6 : Go.Eng.AllL (fun c => Go.Eng.isTrue (Go.Eng.lptRun Try.prog Go.Eng.noSums (⟨16, 18, 19, 46, 69⟩ : Go.Eng.Fns) 56 70 1000 60 6 (.row [1, 1]) c) = true) Go.Eng.pclasses := ⟨r6_0, r6_1, r6_2, r6_3, r6_4, r6_5, r6_6, r6_7, r6_8, r6_9, trivial⟩
set_option maxRecDepth 100000 in
theorem r9_0 : Go.Eng.isTrue (Go.Eng.lptRun Try.prog Go.Eng.noSums (⟨16, 18, 19, 46, 69⟩ : Go.Eng.Fns) 56 70 1000 60 6 (.row [1, 1, 1, 1, 1]) .nil) = true := by kernel_rfl
set_option maxRecDepth 100000 in
theorem r9_1 : Go.Eng.isTrue (Go.Eng.lptRun Try.prog Go.Eng.noSums (⟨16, 18, 19, 46, 69⟩ : Go.Eng.Fns) 56 70 1000 60 6 (.row [1, 1, 1, 1, 1]) .zero) = true := by kernel_rfl
set_option maxRecDepth 100000 in
theorem r9_2 : Go.Eng.isTrue (Go.Eng.lptRun Try.prog Go.Eng.noSums (⟨16, 18, 19, 46, 69⟩ : Go.Eng.Fns) 56 70 1000 60 6 (.row [1, 1, 1, 1, 1]) .no) = true := by kernel_rfl
set_option maxRecDepth 100000 in
theorem r9_3 : Go.Eng.isTrue (Go.Eng.lptRun Try.prog Go.Eng.noSums (⟨16, 18, 19, 46, 69⟩ : Go.Eng.Fns) 56 70 1000 60 6 (.row [1, 1, 1, 1, 1]) .long) = true := by kernel_rfl
set_option maxRecDepth 100000 in
theorem r9_4 : Go.Eng.isTrue (Go.Eng.lptRun Try.prog Go.Eng.noSums (⟨16, 18, 19, 46, 69⟩ : Go.Eng.Fns) 56 70 1000 60 6 (.row [1, 1, 1, 1, 1]) (.pt 0)) = true := by kernel_rfl
set_option maxRecDepth 100000 in
theorem r9_5 : Go.Eng.isTrue (Go.Eng.lptRun Try.prog Go.Eng.noSums (⟨16, 18, 19, 46, 69⟩ : Go.Eng.Fns) 56 70 1000 60 6 (.row [1, 1, 1, 1, 1]) (.pt 1)) = true := by kernel_rfl
set_option maxRecDepth 100000 in
theorem r9_6 : Go.Eng.isTrue (Go.Eng.lptRun Try.prog Go.Eng.noSums (⟨16, 18, 19, 46, 69⟩ : Go.Eng.Fns) 56 70 1000 60 6 (.row [1, 1, 1, 1, 1]) (.pt 2)) = true := by kernel_rfl
set_option maxRecDepth 100000 in
theorem r9_7 : Go.Eng.isTrue (Go.Eng.lptRun Try.prog Go.Eng.noSums (⟨16, 18, 19, 46, 69⟩ : Go.Eng.Fns) 56 70 1000 60 6 (.row [1, 1, 1, 1, 1]) (.pt 3)) = true := by kernel_rfl
set_option maxRecDepth 100000 in
theorem r9_8 : Go.Eng.isTrue (Go.Eng.lptRun Try.prog Go.Eng.noSums (⟨16, 18, 19, 46, 69⟩ : Go.Eng.Fns) 56 70 1000 60 6 (.row [1, 1, 1, 1, 1]) (.pt 4)) = true := by kernel_rfl
set_option maxRecDepth 100000 in
theorem r9_9 : Go.Eng.isTrue (Go.Eng.lptRun Try.prog Go.Eng.noSums (⟨16, 18, 19, 46, 69⟩ : Go.Eng.Fns) 56 70 1000 60 6 (.row [1, 1, 1, 1, 1]) (.pt 5)) = true := by kernel_rfl
theorem r9 : Go.Eng.AllL (fun c => Go.Eng.isTrue (Go.Eng.lptRun Try.prog Go.Eng.noSums (⟨16, 18, 19, 46, 69⟩ : Go.Eng.Fns) 56 70 1000 60 6 (.row [1, 1, 1, 1, 1]) c) = true) Go.Eng.pclasses := ⟨r9_0, r9_1, r9_2, r9_3, r9_4, r9_5, r9_6, r9_7, r9_8, r9_9, trivial⟩
set_option maxRecDepth 100000 in
theorem r12_0 : Go.Eng.isTrue (Go.Eng.lptRun Try.prog Go.Eng.noSums (⟨16, 18, 19, 46, 69⟩ : Go.Eng.Fns) 56 70 1000 60 6 (.row [2, 1]) .nil) = true := by kernel_rfl
set_option maxRecDepth 100000 in
theorem r12_1 : Go.Eng.isTrue (Go.Eng.lptRun Try.prog Go.Eng.noSums (⟨16, 18, 19, 46, 69⟩ : Go.Eng.Fns) 56 70 1000 60 6 (.row [2, 1]) .zero) = true := by kernel_rfl
set_option maxRecDepth 100000 in
theorem r12_2 : Go.Eng.isTrue (Go.Eng.lptRun Try.prog Go.Eng.noSums (⟨16, 18, 19, 46, 69⟩ : Go.Eng.Fns) 56 70 1000 60 6 (.row [2, 1]) .no) = true := by kernel_rfl
set_option maxRecDepth 100000 in
theorem r12_3 : Go.Eng.isTrue (Go.Eng.lptRun Try.prog Go.Eng.noSums (⟨16, 18, 19, 46, 69⟩ : Go.Eng.Fns) 56 70 1000 60 6 (.row [2, 1]) .long) = true := by kernel_rfl
set_option maxRecDepth 100000 in
theorem r12_4 : Go.Eng.isTrue (Go.Eng.lptRun Try.prog Go.Eng.noSums (⟨16, 18, 19, 46, 69⟩ : Go.Eng.Fns) 56 70 1000 60 6 (.row [2, 1]) (.pt 0)) = true := by kernel_rfl
set_option maxRecDepth 100000 in
theorem r12_5 : Go.Eng.isTrue (Go.Eng.lptRun Try.prog Go.Eng.noSums (⟨16, 18, 19, 46, 69⟩ : Go.Eng.Fns) 56 70 1000 60 6 (.row [2, 1]) (.pt 1)) = true := by kernel_rfl
set_option maxRecDepth 100000 in
theorem r12_6 : Go.Eng.isTrue (Go.Eng.lptRun Try.prog Go.Eng.noSums (⟨16, 18, 19, 46, 69⟩ : Go.Eng.Fns) 56 70 1000 60 6 (.row [2, 1]) (.pt 2)) = true := by kernel_rfl
set_option maxRecDepth 100000 in
theorem r12_7 : Go.Eng.isTrue (Go.Eng.lptRun Try.prog Go.Eng.noSums (⟨16, 18, 19, 46, 69⟩ : Go.Eng.Fns) 56 70 1000 60 6 (.row [2, 1]) (.pt 3)) = true := by kernel_rfl
set_option maxRecDepth 100000 in
theorem r12_8 : Go.Eng.isTrue (Go.Eng.lptRun Try.prog Go.Eng.noSums (⟨16, 18, 19, 46, 69⟩ : Go.Eng.Fns) 56 70 1000 60 6 (.row [2, 1]) (.pt 4)) = true := by kernel_rfl
set_option maxRecDepth 100000 in
theorem r12_9 : Go.Eng.isTrue (Go.Eng.lptRun Try.prog Go.Eng.noSums (⟨16, 18, 19, 46, 69⟩ : Go.Eng.Fns) 56 70 1000 60 6 (.row [2, 1]) (.pt 5)) = true := by kernel_rfl
theorem r12 : Go.Eng.AllL (fun c => Go.Eng.isTrue (Go.Eng.lptRun Try.prog Go.Eng.noSums (⟨16, 18, 19, 46, 69⟩ : Go.Eng.Fns) 56 70 1000 60 6 (.row [2, 1]) c) = true) Go.Eng.pclasses := ⟨r12_0, r12_1, r12_2, r12_3, r12_4, r12_5, r12_6, r12_7, r12_8, r12_9, trivial⟩
set_option maxRecDepth 100000 in
theorem r15_0 : Go.Eng.isTrue (Go.Eng.lptRun Try.prog Go.Eng.noSums (⟨16, 18, 19, 46, 69⟩ : Go.Eng.Fns) 56 70 1000 60 6 (.row [2, 1, 1, 1, 1]) .nil) = true := by kernel_rfl
set_option maxRecDepth 100000 in
theorem r15_1 : Go.Eng.isTrue (Go.Eng.lptRun Try.prog Go.Eng.noSums (⟨16, 18, 19, 46, 69⟩ : Go.Eng.Fns) 56 70 1000 60 6 (.row [2, 1, 1, 1, 1]) .zero) = true := by kernel_rfl
set_option maxRecDepth 100000 in
theorem r15_2 : Go.Eng.isTrue (Go.Eng.lptRun Try.prog Go.Eng.noSums (⟨16, 18, 19, 46, 69⟩ : Go.Eng.Fns) 56 70 1000 60 6 (.row [2, 1, 1, 1, 1]) .no) = true := by kernel_rfl
set_option maxRecDepth 100000 in
theorem r15_3 : Go.Eng.isTrue (Go.Eng.lptRun Try.prog Go.Eng.noSums (⟨16, 18, 19, 46, 69⟩ : Go.Eng.Fns) 56 70 1000 60 6 (.row [2, 1, 1, 1, 1]) .long) = true := by kernel_rfl
set_option maxRecDepth 100000 in
theorem r15_4 : Go.Eng.isTrue (Go.Eng.lptRun Try.prog Go.Eng.noSums (⟨16, 18, 19, 46, 69⟩ : Go.Eng.Fns) 56 70 1000 60 6 (.row [2, 1, 1, 1, 1]) (.pt 0)) = true := by kernel_rfl
set_option maxRecDepth 100000 in
theorem r15_5 : Go.Eng.isTrue (Go.Eng.lptRun Try.prog Go.Eng.noSums (⟨16, 18, 19, 46, 69⟩ : Go.Eng.Fns) 56 70 1000 60 6 (.row [2, 1, 1, 1, 1]) (.pt 1)) = true := by kernel_rfl
set_option maxRecDepth 100000 in
theorem r15_6 : Go.Eng.isTrue (Go.Eng.lptRun Try.prog Go.Eng.noSums (⟨16, 18, 19, 46, 69⟩ : Go.Eng.Fns) 56 70 1000 60 6 (.row [2, 1, 1, 1, 1]) (.pt 2)) = true := by kernel_rfl
set_option maxRecDepth 100000 in
theorem r15_7 : Go.Eng.isTrue (Go.Eng.lptRun Try.prog Go.Eng.noSums (⟨16, 18, 19, 46, 69⟩ : Go.Eng.Fns) 56 70 1000 60 6 (.row [2, 1, 1, 1, 1]) (.pt 3)) = true := by kernel_rfl
set_option maxRecDepth 100000 in
theorem r15_8 : Go.Eng.isTrue (Go.Eng.lptRun Try.prog Go.Eng.noSums (⟨16, 18, 19, 46, 69⟩ : Go.Eng.Fns) 56 70 1000 60 6 (.row [2, 1, 1, 1, 1]) (.pt 4)) = true := by kernel_rfl
set_option maxRecDepth 100000 in
theorem r15_9 : Go.Eng.isTrue (Go.Eng.lptRun Try.prog Go.Eng.noSums (⟨16, 18, 19, 46, 69⟩ : Go.Eng.Fns) 56 70 1000 60 6 (.row [2, 1, 1, 1, 1]) (.pt 5)) = true := by kernel_rfl
theorem r15 : Go.Eng.AllL (fun c => Go.Eng.isTrue (Go.Eng.lptRun Try.prog Go.Eng.noSums (⟨16, 18, 19, 46, 69⟩ : Go.Eng.Fns) 56 70 1000 60 6 (.row [2, 1, 1, 1, 1]) c) = true) Go.Eng.pclasses := ⟨r15_0, r15_1, r15_2, r15_3, r15_4, r15_5, r15_6, r15_7, r15_8, r15_9, trivial⟩
set_option maxRecDepth 100000 in
theorem r18_0 : Go.Eng.isTrue (Go.Eng.lptRun Try.prog Go.Eng.noSums (⟨16, 18, 19, 46, 69⟩ : Go.Eng.Fns) 56 70 1000 60 6 (.row [2, 2, 1, 1]) .nil) = true := by kernel_rfl
set_option maxRecDepth 100000 in
theorem r18_1 : Go.Eng.isTrue (Go.Eng.lptRun Try.prog Go.Eng.noSums (⟨16, 18, 19, 46, 69⟩ : Go.Eng.Fns) 56 70 1000 60 6 (.row [2, 2, 1, 1]) .zero) = true := by kernel_rfl
set_option maxRecDepth 100000 in
theorem r18_2 : Go.Eng.isTrue (Go.Eng.lptRun Try.prog Go.Eng.noSums (⟨16, 18, 19, 46, 69⟩ : Go.Eng.Fns) 56 70 1000 60 6 (.row [2, 2, 1, 1]) .no) = true := by kernel_rfl
set_option maxRecDepth 100000 in
theorem r18_3 : Go.Eng.isTrue (Go.Eng.lptRun Try.prog Go.Eng.noSums (⟨16, 18, 19, 46, 69⟩ : Go.Eng.Fns) 56 70 1000 60 6 (.row [2, 2, 1, 1]) .long) = true := by kernel_rfl
set_option maxRecDepth 100000 in
theorem r18_4 : Go.Eng.isTrue (Go.Eng.lptRun Try.prog Go.Eng.noSums (⟨16, 18, 19, 46, 69⟩ : Go.Eng.Fns) 56 70 1000 60 6 (.row [2, 2, 1, 1]) (.pt 0)) = true := by kernel_rfl
set_option maxRecDepth 100000 in
theorem r18_5 : Go.Eng.isTrue (Go.Eng.lptRun Try.prog Go.Eng.noSums (⟨16, 18, 19, 46, 69⟩ : Go.Eng.Fns) 56 70 1000 60 6 (.row [2, 2, 1, 1]) (.pt 1)) = true := by kernel_rfl
set_option maxRecDepth 100000 in
theorem r18_6 : Go.Eng.isTrue (Go.Eng.lptRun Try.prog Go.Eng.noSums (⟨16, 18, 19, 46, 69⟩ : Go.Eng.Fns) 56 70 1000 60 6 (.row [2, 2, 1, 1]) (.pt 2)) = true := by kernel_rfl
set_option maxRecDepth 100000 in
theorem r18_7 : Go.Eng.isTrue (Go.Eng.lptRun Try.prog Go.Eng.noSums (⟨16, 18, 19, 46, 69⟩ : Go.Eng.Fns) 56 70 1000 60 6 (.row [2, 2, 1, 1]) (.pt 3)) = true := by kernel_rfl
set_option maxRecDepth 100000 in
theorem r18_8 : Go.Eng.isTrue (Go.Eng.lptRun Try.prog Go.Eng.noSums (⟨16, 18, 19, 46, 69⟩ : Go.Eng.Fns) 56 70 1000 60 6 (.row [2, 2, 1, 1]) (.pt 4)) = true := by kernel_rfl
set_option maxRecDepth 100000 in
theorem r18_9 : Go.Eng.isTrue (Go.Eng.lptRun Try.prog Go.Eng.noSums (⟨16, 18, 19, 46, 69⟩ : Go.Eng.Fns) 56 70 1000 60 6 (.row [2, 2, 1, 1]) (.pt 5)) = true := by kernel_rfl
theorem r18 : Go.Eng.AllL (fun c => Go.Eng.isTrue (Go.Eng.lptRun Try.prog Go.Eng.noSums (⟨16, 18, 19, 46, 69⟩ : Go.Eng.Fns) 56 70 1000 60 6 (.row [2, 2, 1, 1]) c) = true) Go.Eng.pclasses := ⟨r18_0, r18_1, r18_2, r18_3, r18_4, r18_5, r18_6, r18_7, r18_8, r18_9, trivial⟩
set_option maxRecDepth 100000 in
theorem r21_0 : Go.Eng.isTrue (Go.Eng.lptRun Try.prog Go.Eng.noSums (⟨16, 18, 19, 46, 69⟩ : Go.Eng.Fns) 56 70 1000 60 6 (.row [3, 1]) .nil) = true := by kernel_rfl
set_option maxRecDepth 100000 in
theorem r21_1 : Go.Eng.isTrue (Go.Eng.lptRun Try.prog Go.Eng.noSums (⟨16, 18, 19, 46, 69⟩ : Go.Eng.Fns) 56 70 1000 60 6 (.row [3, 1]) .zero) = true := by kernel_rfl
set_option maxRecDepth 100000 in
theorem r21_2 : Go.Eng.isTrue (Go.Eng.lptRun Try.prog Go.Eng.noSums (⟨16, 18, 19, 46, 69⟩ : Go.Eng.Fns) 56 70 1000 60 6 (.row [3, 1]) .no) = true := by kernel_rfl
set_option maxRecDepth 100000 in
theorem r21_3 : Go.Eng.isTrue (Go.Eng.lptRun Try.prog Go.Eng.noSums (⟨16, 18, 19, 46, 69⟩ : Go.Eng.Fns) 56 70 1000 60 6 (.row [3, 1]) .long) = true := by kernel_rfl
set_option maxRecDepth 100000 in
theorem r21_4 : Go.Eng.isTrue (Go.Eng.lptRun Try.prog Go.Eng.noSums (⟨16, 18, 19, 46, 69⟩ : Go.Eng.Fns) 56 70 1000 60 6 (.row [3, 1]) (.pt 0)) = true := by kernel_rfl
set_option maxRecDepth 100000 in
theorem r21_5 : Go.Eng.isTrue (Go.Eng.lptRun Try.prog Go.Eng.noSums (⟨16, 18, 19, 46, 69⟩ : Go.Eng.Fns) 56 70 1000 60 6 (.row [3, 1]) (.pt 1)) = true := by kernel_rfl
set_option maxRecDepth 100000 in
theorem r21_6 : Go.Eng.isTrue (Go.Eng.lptRun Try.prog Go.Eng.noSums (⟨16, 18, 19, 46, 69⟩ : Go.Eng.Fns) 56 70 1000 60 6 (.row [3, 1]) (.pt 2)) = true := by kernel_rfl
set_option maxRecDepth 100000 in
theorem r21_7 : Go.Eng.isTrue (Go.Eng.lptRun Try.prog Go.Eng.noSums (⟨16, 18, 19, 46, 69⟩ : Go.Eng.Fns) 56 70 1000 60 6 (.row [3, 1]) (.pt 3)) = true := by kernel_rfl
set_option maxRecDepth 100000 in
theorem r21_8 : Go.Eng.isTrue (Go.Eng.lptRun Try.prog Go.Eng.noSums (⟨16, 18, 19, 46, 69⟩ : Go.Eng.Fns) 56 70 1000 60 6 (.row [3, 1]) (.pt 4)) = true := by kernel_rfl
set_option maxRecDepth 100000 in
theorem r21_9 : Go.Eng.isTrue (Go.Eng.lptRun Try.prog Go.Eng.noSums (⟨16, 18, 19, 46, 69⟩ : Go.Eng.Fns) 56 70 1000 60 6 (.row [3, 1]) (.pt 5)) = true := by kernel_rfl
theorem r21 : Go.Eng.AllL (fun c => Go.Eng.isTrue (Go.Eng.lptRun Try.prog Go.Eng.noSums (⟨16, 18, 19, 46, 69⟩ : Go.Eng.Fns) 56 70 1000 60 6 (.row [3, 1]) c) = true) Go.Eng.pclasses := ⟨r21_0, r21_1, r21_2, r21_3, r21_4, r21_5, r21_6, r21_7, r21_8, r21_9, trivial⟩
set_option maxRecDepth 100000 in
theorem r24_0 : Go.Eng.isTrue (Go.Eng.lptRun Try.prog Go.Eng.noSums (⟨16, 18, 19, 46, 69⟩ : Go.Eng.Fns) 56 70 1000 60 6 (.row [3, 2]) .nil) = true := by kernel_rfl
set_option maxRecDepth 100000 in
theorem r24_1 : Go.Eng.isTrue (Go.Eng.lptRun Try.prog Go.Eng.noSums (⟨16, 18, 19, 46, 69⟩ : Go.Eng.Fns) 56 70 1000 60 6 (.row [3, 2]) .zero) = true := by kernel_rfl
set_option maxRecDepth 100000 in
theorem r24_2 : Go.Eng.isTrue (Go.Eng.lptRun Try.prog Go.Eng.noSums (⟨16, 18, 19, 46, 69⟩ : Go.Eng.Fns) 56 70 1000 60 6 (.row [3, 2]) .no) = true := by kernel_rfl
set_option maxRecDepth 100000 in
theorem r24_3 : Go.Eng.isTrue (Go.Eng.lptRun Try.prog Go.Eng.noSums (⟨16, 18, 19, 46, 69⟩ : Go.Eng.Fns) 56 70 1000 60 6 (.row [3, 2]) .long) = true := by kernel_rfl
set_option maxRecDepth 100000 in
theorem r24_4 : Go.Eng.isTrue (Go.Eng.lptRun Try.prog Go.Eng.noSums (⟨16, 18, 19, 46, 69⟩ : Go.Eng.Fns) 56 70 1000 60 6 (.row [3, 2]) (.pt 0)) = true := by kernel_rfl
set_option maxRecDepth 100000 in
theorem r24_5 : Go.Eng.isTrue (Go.Eng.lptRun Try.prog Go.Eng.noSums (⟨16, 18, 19, 46, 69⟩ : Go.Eng.Fns) 56 70 1000 60 6 (.row [3, 2]) (.pt 1)) = true := by kernel_rfl
set_option maxRecDepth 100000 in
theorem r24_6 : Go.Eng.isTrue (Go.Eng.lptRun Try.prog Go.Eng.noSums (⟨16, 18, 19, 46, 69⟩ : Go.Eng.Fns) 56 70 1000 60 6 (.row [3, 2]) (.pt 2)) = true := by kernel_rfl
set_option maxRecDepth 100000 in
theorem r24_7 : Go.Eng.isTrue (Go.Eng.lptRun Try.prog Go.Eng.noSums (⟨16, 18, 19, 46, 69⟩ : Go.Eng.Fns) 56 70 1000 60 6 (.row [3, 2]) (.pt 3)) = true := by kernel_rfl
set_option maxRecDepth 100000 in
theorem r24_8 : Go.Eng.isTrue (Go.Eng.lptRun Try.prog Go.Eng.noSums (⟨16, 18, 19, 46, 69⟩ : Go.Eng.Fns) 56 70 1000 60 6 (.row [3, 2]) (.pt 4)) = true := by kernel_rfl
set_option maxRecDepth 100000 in
theorem r24_9 : Go.Eng.isTrue (Go.Eng.lptRun Try.prog Go.Eng.noSums (⟨16, 18, 19, 46, 69⟩ : Go.Eng.Fns) 56 70 1000 60 6 (.row [3, 2]) (.pt 5)) = true := by kernel_rfl
theorem r24 : Go.Eng.AllL (fun c => Go.Eng.isTrue (Go.Eng.lptRun Try.prog Go.Eng.noSums (⟨16, 18, 19, 46, 69⟩ : Go.Eng.Fns) 56 70 1000 60 6 (.row [3, 2]) c) = true) Go.Eng.pclasses := ⟨r24_0, r24_1, r24_2, r24_3, r24_4, r24_5, r24_6, r24_7, r24_8, r24_9, trivial⟩
set_option maxRecDepth 100000 in
theorem r27_0 : Go.Eng.isTrue (Go.Eng.lptRun Try.prog Go.Eng.noSums (⟨16, 18, 19, 46, 69⟩ : Go.Eng.Fns) 56 70 1000 60 6 (.row [4]) .nil) = true := by kernel_rfl
set_option maxRecDepth 100000 in
theorem r27_1 : Go.Eng.isTrue (Go.Eng.lptRun Try.prog Go.Eng.noSums (⟨16, 18, 19, 46, 69⟩ : Go.Eng.Fns) 56 70 1000 60 6 (.row [4]) .zero) = true := by kernel_rfl
set_option maxRecDepth 100000 in
theorem r27_2 : Go.Eng.isTrue (Go.Eng.lptRun Try.prog Go.Eng.noSums (⟨16, 18, 19, 46, 69⟩ : Go.Eng.Fns) 56 70 1000 60 6 (.row [4]) .no) = true := by kernel_rfl
set_option maxRecDepth 100000 in
theorem r27_3 : Go.Eng.isTrue (Go.Eng.lptRun Try.prog Go.Eng.noSums (⟨16, 18, 19, 46, 69⟩ : Go.Eng.Fns) 56 70 1000 60 6 (.row [4]) .long) = true := by kernel_rfl
set_option maxRecDepth 100000 in
theorem r27_4 : Go.Eng.isTrue (Go.Eng.lptRun Try.prog Go.Eng.noSums (⟨16, 18, 19, 46, 69⟩ : Go.Eng.Fns) 56 70 1000 60 6 (.row [4]) (.pt 0)) = true := by kernel_rfl
set_option maxRecDepth 100000 in
theorem r27_5 : Go.Eng.isTrue (Go.Eng.lptRun Try.prog Go.Eng.noSums (⟨16, 18, 19, 46, 69⟩ : Go.Eng.Fns) 56 70 1000 60 6 (.row [4]) (.pt 1)) = true := by kernel_rfl
set_option maxRecDepth 100000 in
theorem r27_6 : Go.Eng.isTrue (Go.Eng.lptRun Try.prog Go.Eng.noSums (⟨16, 18, 19, 46, 69⟩ : Go.Eng.Fns) 56 70 1000 60 6 (.row [4]) (.pt 2)) = true := by kernel_rfl
set_option maxRecDepth 100000 in
theorem r27_7 : Go.Eng.isTrue (Go.Eng.lptRun Try.prog Go.Eng.noSums (⟨16, 18, 19, 46, 69⟩ : Go.Eng.Fns) 56 70 1000 60 6 (.row [4]) (.pt 3)) = true := by kernel_rfl
set_option maxRecDepth 100000 in
theorem r27_8 : Go.Eng.isTrue (Go.Eng.lptRun Try.prog Go.Eng.noSums (⟨16, 18, 19, 46, 69⟩ : Go.Eng.Fns) 56 70 1000 60 6 (.row [4]) (.pt 4)) = true := by kernel_rfl
set_option maxRecDepth 100000 in
theorem r27_9 : Go.Eng.isTrue (Go.Eng.lptRun Try.prog Go.Eng.noSums (⟨16, 18, 19, 46, 69⟩ : Go.Eng.Fns) 56 70 1000 60 6 (.row [4]) (.pt 5)) = true := by kernel_rfl
theorem r27 : Go.Eng.AllL (fun c => Go.Eng.isTrue (Go.Eng.lptRun Try.prog Go.Eng.noSums (⟨16, 18, 19, 46, 69⟩ : Go.Eng.Fns) 56 70 1000 60 6 (.row [4]) c) = true) Go.Eng.pclasses := ⟨r27_0, r27_1, r27_2, r27_3, r27_4, r27_5, r27_6, r27_7, r27_8, r27_9, trivial⟩
set_option maxRecDepth 100000 in
theorem r30_0 : Go.Eng.isTrue (Go.Eng.lptRun Try.prog Go.Eng.noSums (⟨16, 18, 19, 46, 69⟩ : Go.Eng.Fns) 56 70 1000 60 6 (.row [4, 2]) .nil) = true := by kernel_rfl
set_option maxRecDepth 100000 in
theorem r30_1 : Go.Eng.isTrue (Go.Eng.lptRun Try.prog Go.Eng.noSums (⟨16, 18, 19, 46, 69⟩ : Go.Eng.Fns) 56 70 1000 60 6 (.row [4, 2]) .zero) = true := by kernel_rfl
set_option maxRecDepth 100000 in
theorem r30_2 : Go.Eng.isTrue (Go.Eng.lptRun Try.prog Go.Eng.noSums (⟨16, 18, 19, 46, 69⟩ : Go.Eng.Fns) 56 70 1000 60 6 (.row [4, 2]) .no) = true := by kernel_rfl
set_option maxRecDepth 100000 in
theorem r30_3 : Go.Eng.isTrue (Go.Eng.lptRun Try.prog Go.Eng.noSums (⟨16, 18, 19, 46, 69⟩ : Go.Eng.Fns) 56 70 1000 60 6 (.row [4, 2]) .long) = true := by kernel_rfl
set_option maxRecDepth 100000 in
theorem r30_4 : Go.Eng.isTrue (Go.Eng.lptRun Try.prog Go.Eng.noSums (⟨16, 18, 19, 46, 69⟩ : Go.Eng.Fns) 56 70 1000 60 6 (.row [4, 2]) (.pt 0)) = true := by kernel_rfl
set_option maxRecDepth 100000 in
theorem r30_5 : Go.Eng.isTrue (Go.Eng.lptRun Try.prog Go.Eng.noSums (⟨16, 18, 19, 46, 69⟩ : Go.Eng.Fns) 56 70 1000 60 6 (.row [4, 2]) (.pt 1)) = true := by kernel_rfl
set_option maxRecDepth 100000 in
theorem r30_6 : Go.Eng.isTrue (Go.Eng.lptRun Try.prog Go.Eng.noSums (⟨16, 18, 19, 46, 69⟩ : Go.Eng.Fns) 56 70 1000 60 6 (.row [4, 2]) (.pt 2)) = true := by kernel_rfl
set_option maxRecDepth 100000 in
theorem r30_7 : Go.Eng.isTrue (Go.Eng.lptRun Try.prog Go.Eng.noSums (⟨16, 18, 19, 46, 69⟩ : Go.Eng.Fns) 56 70 1000 60 6 (.row [4, 2]) (.pt 3)) = true := by kernel_rfl
set_option maxRecDepth 100000 in
theorem r30_8 : Go.Eng.isTrue (Go.Eng.lptRun Try.prog Go.Eng.noSums (⟨16, 18, 19, 46, 69⟩ : Go.Eng.Fns) 56 70 1000 60 6 (.row [4, 2]) (.pt 4)) = true := by kernel_rfl
set_option maxRecDepth 100000 in
theorem r30_9 : Go.Eng.isTrue (Go.Eng.lptRun Try.prog Go.Eng.noSums (⟨16, 18, 19, 46, 69⟩ : Go.Eng.Fns) 56 70 1000 60 6 (.row [4, 2]) (.pt 5)) = true := by kernel_rfl
theorem r30 : Go.Eng.AllL (fun c => Go.Eng.isTrue (Go.Eng.lptRun Try.prog Go.Eng.noSums (⟨16, 18, 19, 46, 69⟩ : Go.Eng.Fns) 56 70 1000 60 6 (.row [4, 2]) c) = true) Go.Eng.pclasses := ⟨r30_0, r30_1, r30_2, r30_3, r30_4, r30_5, r30_6, r30_7, r30_8, r30_9, trivial⟩
set_option maxRecDepth 100000 in
theorem r33_0 : Go.Eng.isTrue (Go.Eng.lptRun Try.prog Go.Eng.noSums (⟨16, 18, 19, 46, 69⟩ : Go.Eng.Fns) 56 70 1000 60 6 (.row [6]) .nil) = true := by kernel_rfl
set_option maxRecDepth 100000 in
theorem r33_1 : Go.Eng.isTrue (Go.Eng.lptRun Try.prog Go.Eng.noSums (⟨16, 18, 19, 46, 69⟩ : Go.Eng.Fns) 56 70 1000 60 6 (.row [6]) .zero) = true := by kernel_rfl
set_option maxRecDepth 100000 in
theorem r33_2 : Go.Eng.isTrue (Go.Eng.lptRun Try.prog Go.Eng.noSums (⟨16, 18, 19, 46, 69⟩ : Go.Eng.Fns) 56 70 1000 60 6 (.row [6]) .no) = true := by kernel_rfl
set_option maxRecDepth 100000 in
theorem r33_3 : Go.Eng.isTrue (Go.Eng.lptRun Try.prog Go.Eng.noSums (⟨16, 18, 19, 46, 69⟩ : Go.Eng.Fns) 56 70 1000 60 6 (.row [6]) .long) = true := by kernel_rfl
set_option maxRecDepth 100000 in
theorem r33_4 : Go.Eng.isTrue (Go.Eng.lptRun Try.prog Go.Eng.noSums (⟨16, 18, 19, 46, 69⟩ : Go.Eng.Fns) 56 70 1000 60 6 (.row [6]) (.pt 0)) = true := by kernel_rfl
set_option maxRecDepth 100000 in
theorem r33_5 : Go.Eng.isTrue (Go.Eng.lptRun Try.prog Go.Eng.noSums (⟨16, 18, 19, 46, 69⟩ : Go.Eng.Fns) 56 70 1000 60 6 (.row [6]) (.pt 1)) = true := by kernel_rfl
set_option maxRecDepth 100000 in
theorem r33_6 : Go.Eng.isTrue (Go.Eng.lptRun Try.prog Go.Eng.noSums (⟨16, 18, 19, 46, 69⟩ : Go.Eng.Fns) 56 70 1000 60 6 (.row [6]) (.pt 2)) = true := by kernel_rfl
set_option maxRecDepth 100000 in
theorem r33_7 : Go.Eng.isTrue (Go.Eng.lptRun Try.prog Go.Eng.noSums (⟨16, 18, 19, 46, 69⟩ : Go.Eng.Fns) 56 70 1000 60 6 (.row [6]) (.pt 3)) = true := by kernel_rfl
set_option maxRecDepth 100000 in
theorem r33_8 : Go.Eng.isTrue (Go.Eng.lptRun Try.prog Go.Eng.noSums (⟨16, 18, 19, 46, 69⟩ : Go.Eng.Fns) 56 70 1000 60 6 (.row [6]) (.pt 4)) = true := by kernel_rfl
set_option maxRecDepth 100000 in
theorem r33_9 : Go.Eng.isTrue (Go.Eng.lptRun Try.prog Go.Eng.noSums (⟨16, 18, 19, 46, 69⟩ : Go.Eng.Fns) 56 70 1000 60 6 (.row [6]) (.pt 5)) = true := by kernel_rfl
theorem r33 : Go.Eng.AllL (fun c => Go.Eng.isTrue (Go.Eng.lptRun Try.prog Go.Eng.noSums (⟨16, 18, 19, 46, 69⟩ : Go.Eng.Fns) 56 70 1000 60 6 (.row [6]) c) = true) Go.Eng.pclasses := ⟨r33_0, r33_1, r33_2, r33_3, r33_4, r33_5, r33_6, r33_7, r33_8, r33_9, trivial⟩
end Go.Proofs.Ythcdiaahpodkoae.fnExactAtPlainRuns
