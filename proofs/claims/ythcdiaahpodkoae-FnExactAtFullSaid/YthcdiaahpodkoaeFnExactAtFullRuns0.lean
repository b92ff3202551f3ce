/- The runs of FnExactAtFull, part 0. -/
import Derived.Test.YthcdiaahpodkoaeEngZc
import Derived.Test.YthcdiaahpodkoaeProg
namespace Go.Proofs.Ythcdiaahpodkoae.fnExactAtFullRuns
set_option linter.unusedVariables false
set_option linter.unusedSectionVars false
set_option linter.unusedSimpArgs false
set_option maxRecDepth 100000 in
theorem r0_0 : Go.Eng.isTrue (Go.Eng.iptRun Try.prog Go.Eng.noSums (⟨16, 18, 19, 46, 69⟩ : Go.Eng.Fns) 56 70 1000 60 8 .neg .nil) = true := by kernel_rfl
set_option maxRecDepth 100000 in
theorem r0_1 : Go.Eng.isTrue (Go.Eng.iptRun Try.prog Go.Eng.noSums (⟨16, 18, 19, 46, 69⟩ : Go.Eng.Fns) 56 70 1000 60 8 .neg .zero) = true := by kernel_rfl
set_option maxRecDepth 100000 in
theorem r0_2 : Go.Eng.isTrue (Go.Eng.iptRun Try.prog Go.Eng.noSums (⟨16, 18, 19, 46, 69⟩ : Go.Eng.Fns) 56 70 1000 60 8 .neg .no) = true := by kernel_rfl
set_option maxRecDepth 100000 in
theorem r0_3 : Go.Eng.isTrue (Go.Eng.iptRun Try.prog Go.Eng.noSums (⟨16, 18, 19, 46, 69⟩ : Go.Eng.Fns) 56 70 1000 60 8 .neg .long) = true := by kernel_rfl
set_option maxRecDepth 100000 in
theorem r0_4 : Go.Eng.isTrue (Go.Eng.iptRun Try.prog Go.Eng.noSums (⟨16, 18, 19, 46, 69⟩ : Go.Eng.Fns) 56 70 1000 60 8 .neg (.pt 0)) = true := by kernel_rfl
set_option maxRecDepth 100000 in
theorem r0_5 : Go.Eng.isTrue (Go.Eng.iptRun Try.prog Go.Eng.noSums (⟨16, 18, 19, 46, 69⟩ : Go.Eng.Fns) 56 70 1000 60 8 .neg (.pt 1)) = true := by kernel_rfl
set_option maxRecDepth 100000 in
theorem r0_6 : Go.Eng.isTrue (Go.Eng.iptRun Try.prog Go.Eng.noSums (⟨16, 18, 19, 46, 69⟩ : Go.Eng.Fns) 56 70 1000 60 8 .neg (.pt 2)) = true := by kernel_rfl
set_option maxRecDepth 100000 in
theorem r0_7 : Go.Eng.isTrue (Go.Eng.iptRun Try.prog Go.Eng.noSums (⟨16, 18, 19, 46, 69⟩ : Go.Eng.Fns) 56 70 1000 60 8 .neg (.pt 3)) = true := by kernel_rfl
set_option maxRecDepth 100000 in
theorem r0_8 : Go.Eng.isTrue (Go.Eng.iptRun Try.prog Go.Eng.noSums (⟨16, 18, 19, 46, 69⟩ : Go.Eng.Fns) 56 70 1000 60 8 .neg (.pt 4)) = true := by kernel_rfl
set_option maxRecDepth 100000 in
theorem r0_9 : Go.Eng.isTrue (Go.Eng.iptRun Try.prog Go.Eng.noSums (⟨16, 18, 19, 46, 69⟩ : Go.Eng.Fns) 56 70 1000 60 8 .neg (.pt 5)) = true := by kernel_rfl
theorem r0 : Go.Eng.AllL (fun c => Go.Eng.isTrue (Go.Eng.iptRun Try.prog Go.Eng.noSums (⟨16, 18, 19, 46, 69⟩ : Go.Eng.Fns) 56 70 1000 60 8 .neg c) = true) Go.Eng.pclasses := ⟨r0_0, r0_1, r0_2, r0_3, r0_4, r0_5, r0_6, r0_7, r0_8, r0_9, trivial⟩
set_option maxRecDepth 100000 in
theorem r3_0 : Go.Eng.isTrue (Go.Eng.iptRun Try.prog Go.Eng.noSums (⟨16, 18, 19, 46, 69⟩ : Go.Eng.Fns) 56 70 1000 60 8 (.is 1) .nil) = true := by kernel_rfl
set_option maxRecDepth 100000 in
theorem r3_1 : Go.Eng.isTrue (Go.Eng.iptRun Try.prog Go.Eng.noSums (⟨16, 18, 19, 46, 69⟩ : Go.Eng.Fns) 56 70 1000 60 8 (.is 1) .zero) = true := by kernel_rfl
set_option maxRecDepth 100000 in
theorem r3_2 : Go.Eng.isTrue (Go.Eng.iptRun Try.prog Go.Eng.noSums (⟨16, 18, 19, 46, 69⟩ : Go.Eng.Fns) 56 70 1000 60 8 (.is 1) .no) = true := by kernel_rfl
set_option maxRecDepth 100000 in
theorem r3_3 : Go.Eng.isTrue (Go.Eng.iptRun Try.prog Go.Eng.noSums (⟨16, 18, 19, 46, 69⟩ : Go.Eng.Fns) 56 70 1000 60 8 (.is 1) .long) = true := by kernel_rfl
set_option maxRecDepth 100000 in
theorem r3_4 : Go.Eng.isTrue (Go.Eng.iptRun Try.prog Go.Eng.noSums (⟨16, 18, 19, 46, 69⟩ : Go.Eng.Fns) 56 70 1000 60 8 (.is 1) (.pt 0)) = true := by kernel_rfl
set_option maxRecDepth 100000 in
theorem r3_5 : Go.Eng.isTrue (Go.Eng.iptRun Try.prog Go.Eng.noSums (⟨16, 18, 19, 46, 69⟩ : Go.Eng.Fns) 56 70 1000 60 8 (.is 1) (.pt 1)) = true := by kernel_rfl
set_option maxRecDepth 100000 in
theorem r3_6 : Go.Eng.isTrue (Go.Eng.iptRun Try.prog Go.Eng.noSums (⟨16, 18, 19, 46, 69⟩ : Go.Eng.Fns) 56 70 1000 60 8 (.is 1) (.pt 2)) = true := by kernel_rfl
set_option maxRecDepth 100000 in
theorem r3_7 : Go.Eng.isTrue (Go.Eng.iptRun Try.prog Go.Eng.noSums (⟨16, 18, 19, 46, 69⟩ : Go.Eng.Fns) 56 70 1000 60 8 (.is 1) (.pt 3)) = true := by kernel_rfl
set_option maxRecDepth 100000 in
theorem r3_8 : Go.Eng.isTrue (Go.Eng.iptRun Try.prog Go.Eng.noSums (⟨16, 18, 19, 46, 69⟩ : Go.Eng.Fns) 56 70 1000 60 8 (.is 1) (.pt 4)) = true := by kernel_rfl
set_option maxRecDepth 100000 in
theorem r3_9 : Go.Eng.isTrue (Go.Eng.iptRun Try.prog Go.Eng.noSums (⟨16, 18, 19, 46, 69⟩ : Go.Eng.Fns) 56 70 1000 60 8 (.is 1) (.pt 5)) = true := by kernel_rfl
theorem r3 : Go.Eng.AllL (fun c => Go.Eng.isTrue (Go.Eng.iptRun Try.prog Go.Eng.noSums (⟨16, 18, 19, 46, 69⟩ : Go.Eng.Fns) 56 70 1000 60 8 (.is 1) c) = true) Go.Eng.pclasses := ⟨r3_0, r3_1, r3_2, r3_3, r3_4, r3_5, r3_6, r3_7, r3_8, r3_9, trivial⟩
set_option maxRecDepth 100000 in
theorem r6_0 : Go.Eng.isTrue (Go.Eng.iptRun Try.prog Go.Eng.noSums (⟨16, 18, 19, 46, 69⟩ : Go.Eng.Fns) 56 70 1000 60 8 (.is 4) .nil) = true := by kernel_rfl
set_option maxRecDepth 100000 in
theorem r6_1 : Go.Eng.isTrue (Go.Eng.iptRun Try.prog Go.Eng.noSums (⟨16, 18, 19, 46, 69⟩ : Go.Eng.Fns) 56 70 1000 60 8 (.is 4) .zero) = true := by kernel_rfl
set_option maxRecDepth 100000 in
theorem r6_2 : Go.Eng.isTrue (Go.Eng.iptRun Try.prog Go.Eng.noSums (⟨16, 18, 19, 46, 69⟩ : Go.Eng.Fns) 56 70 1000 60 8 (.is 4) .no) = true := by kernel_rfl
set_option maxRecDepth 100000 in
theorem r6_3 : Go.Eng.isTrue (Go.Eng.iptRun Try.prog Go.Eng.noSums (⟨16, 18, 19, 46, 69⟩ : Go.Eng.Fns) 56 70 1000 60 8 (.is 4) .long) = true := by kernel_rfl
set_option maxRecDepth 100000 in
theorem r6_4 : Go.Eng.isTrue (Go.Eng.iptRun Try.prog Go.Eng.noSums (⟨16, 18, 19, 46, 69⟩ : Go.Eng.Fns) 56 70 1000 60 8 (.is 4) (.pt 0)) = true := by kernel_rfl
set_option maxRecDepth 100000 in
theorem r6_5 : Go.Eng.isTrue (Go.Eng.iptRun Try.prog Go.Eng.noSums (⟨16, 18, 19, 46, 69⟩ : Go.Eng.Fns) 56 70 1000 60 8 (.is 4) (.pt 1)) = true := by kernel_rfl
set_option maxRecDepth 100000 in
theorem r6_6 : Go.Eng.isTrue (Go.Eng.iptRun Try.prog Go.Eng.noSums (⟨16, 18, 19, 46, 69⟩ : Go.Eng.Fns) 56 70 1000 60 8 (.is 4) (.pt 2)) = true := by kernel_rfl
set_option maxRecDepth 100000 in
theorem r6_7 : Go.Eng.isTrue (Go.Eng.iptRun Try.prog Go.Eng.noSums (⟨16, 18, 19, 46, 69⟩ : Go.Eng.Fns) 56 70 1000 60 8 (.is 4) (.pt 3)) = true := by kernel_rfl
set_option maxRecDepth 100000 in
theorem r6_8 : Go.Eng.isTrue (Go.Eng.iptRun Try.prog Go.Eng.noSums (⟨16, 18, 19, 46, 69⟩ : Go.Eng.Fns) 56 70 1000 60 8 (.is 4) (.pt 4)) = true := by kernel_rfl
set_option maxRecDepth 100000 in
theorem r6_9 : Go.Eng.isTrue (Go.Eng.iptRun Try.prog Go.Eng.noSums (⟨16, 18, 19, 46, 69⟩ : Go.Eng.Fns) 56 70 1000 60 8 (.is 4) (.pt 5)) = true := by kernel_rfl
theorem r6 : Go.Eng.AllL (fun c => Go.Eng.isTrue (Go.Eng.iptRun Try.prog Go.Eng.noSums (⟨16, 18, 19, 46, 69⟩ : Go.Eng.Fns) 56 70 1000 60 8 (.is 4) c) = true) Go.Eng.pclasses := ⟨r6_0, r6_1, r6_2, r6_3, r6_4, r6_5, r6_6, r6_7, r6_8, r6_9, trivial⟩
end Go.Proofs.Ythcdiaahpodkoae.fnExactAtFullRuns
