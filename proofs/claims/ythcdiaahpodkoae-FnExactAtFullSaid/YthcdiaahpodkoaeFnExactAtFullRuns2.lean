/- The runs of FnExactAtFull, part 2. -/
import Derived.Test.YthcdiaahpodkoaeEngZc
import Derived.Test.YthcdiaahpodkoaeProg
namespace Go.Proofs.Ythcdiaahpodkoae.fnExactAtFullRuns
set_option linter.unusedVariables false
set_option linter.unusedSectionVars false
set_option linter.unusedSimpArgs false
set_option maxRecDepth 100000 in
theorem r2_0 : Go.Eng.isTrue (Go.Eng.iptRun Try.prog Go.Eng.noSums (⟨16, 18, 19, 46, 69⟩ : Go.Eng.Fns) 56 70 1000 60 8 (.is 0) .nil) = true := by kernel_rfl
set_option maxRecDepth 100000 in
theorem r2_1 : Go.Eng.isTrue (Go.Eng.iptRun Try.prog Go.Eng.noSums (⟨16, 18, 19, 46, 69⟩ : Go.Eng.Fns) 56 70 1000 60 8 (.is 0) .zero) = true := by kernel_rfl
set_option maxRecDepth 100000 in
theorem r2_2 : Go.Eng.isTrue (Go.Eng.iptRun Try.prog Go.Eng.noSums (⟨16, 18, 19, 46, 69⟩ : Go.Eng.Fns) 56 70 1000 60 8 (.is 0) .no) = true := by kernel_rfl
set_option maxRecDepth 100000 in
theorem r2_3 : Go.Eng.isTrue (Go.Eng.iptRun Try.prog Go.Eng.noSums (⟨16, 18, 19, 46, 69⟩ : Go.Eng.Fns) 56 70 1000 60 8 (.is 0) .long) = true := by kernel_rfl
set_option maxRecDepth 100000 in
theorem r2_4 : Go.Eng.isTrue (Go.Eng.iptRun Try.prog Go.Eng.noSums (⟨16, 18, 19, 46, 69⟩ : Go.Eng.Fns) 56 70 1000 60 8 (.is 0) (.pt 0)) = true := by kernel_rfl
set_option maxRecDepth 100000 in
theorem r2_5 : Go.Eng.isTrue (Go.Eng.iptRun Try.prog Go.Eng.noSums (⟨16, 18, 19, 46, 69⟩ : Go.Eng.Fns) 56 70 1000 60 8 (.is 0) (.pt 1)) = true := by kernel_rfl
set_option maxRecDepth 100000 in
theorem r2_6 : Go.Eng.isTrue (Go.Eng.iptRun Try.prog Go.Eng.noSums (⟨16, 18, 19, 46, 69⟩ : Go.Eng.Fns) 56 70 1000 60 8 (.is 0) (.pt 2)) = true := by kernel_rfl
set_option maxRecDepth 100000 in
theorem r2_7 : Go.Eng.isTrue (Go.Eng.iptRun Try.prog Go.Eng.noSums (⟨16, 18, 19, 46, 69⟩ : Go.Eng.Fns) 56 70 1000 60 8 (.is 0) (.pt 3)) = true := by kernel_rfl
set_option maxRecDepth 100000 in
theorem r2_8 : Go.Eng.isTrue (Go.Eng.iptRun Try.prog Go.Eng.noSums (⟨16, 18, 19, 46, 69⟩ : Go.Eng.Fns) 56 70 1000 60 8 (.is 0) (.pt 4)) = true := by kernel_rfl
set_option maxRecDepth 100000 in
theorem r2_9 : Go.Eng.isTrue (Go.Eng.iptRun Try.prog Go.Eng.noSums (⟨16, 18, 19, 46, 69⟩ : Go.Eng.Fns) 56 70 1000 60 8 (.is 0) (.pt 5)) = true := by kernel_rfl
theorem r2 : Go.Eng.AllL (fun c => Go.Eng.isTrue (Go.Eng.iptRun Try.prog Go.Eng.noSums (⟨16, 18, 19, 46, 69⟩ : Go.Eng.Fns) 56 70 1000 60 8 (.is 0) c) = true) Go.Eng.pclasses := ⟨r2_0, r2_1, r2_2, r2_3, r2_4, r2_5, r2_6, r2_7, r2_8, r2_9, trivial⟩
set_option maxRecDepth 100000 in
theorem r5_0 : Go.Eng.isTrue (Go.Eng.iptRun Try.prog Go.Eng.noSums (⟨16, 18, 19, 46, 69⟩ : Go.Eng.Fns) 56 70 1000 60 8 (.is 3) .nil) = true := by kernel_rfl
set_option maxRecDepth 100000 in
theorem r5_1 : Go.Eng.isTrue (Go.Eng.iptRun Try.prog Go.Eng.noSums (⟨16, 18, 19, 46, 69⟩ : Go.Eng.Fns) 56 70 1000 60 8 (.is 3) .zero) = true := by kernel_rfl
set_option maxRecDepth 100000 in
theorem r5_2 : Go.Eng.isTrue (Go.Eng.iptRun Try.prog Go.Eng.noSums (⟨16, 18, 19, 46, 69⟩ : Go.Eng.Fns) 56 70 1000 60 8 (.is 3) .no) = true := by kernel_rfl
set_option maxRecDepth 100000 in
theorem r5_3 : Go.Eng.isTrue (Go.Eng.iptRun Try.prog Go.Eng.noSums (⟨16, 18, 19, 46, 69⟩ : Go.Eng.Fns) 56 70 1000 60 8 (.is 3) .long) = true := by kernel_rfl
set_option maxRecDepth 100000 in
theorem r5_4 : Go.Eng.isTrue (Go.Eng.iptRun Try.prog Go.Eng.noSums (⟨16, 18, 19, 46, 69⟩ : Go.Eng.Fns) 56 70 1000 60 8 (.is 3) (.pt 0)) = true := by kernel_rfl
set_option maxRecDepth 100000 in
theorem r5_5 : Go.Eng.isTrue (Go.Eng.iptRun Try.prog Go.Eng.noSums (⟨16, 18, 19, 46, 69⟩ : Go.Eng.Fns) 56 70 1000 60 8 (.is 3) (.pt 1)) = true := by kernel_rfl
set_option maxRecDepth 100000 in
theorem r5_6 : Go.Eng.isTrue (Go.Eng.iptRun Try.prog Go.Eng.noSums (⟨16, 18, 19, 46, 69⟩ : Go.Eng.Fns) 56 70 1000 60 8 (.is 3) (.pt 2)) = true := by kernel_rfl
set_option maxRecDepth 100000 in
theorem r5_7 : Go.Eng.isTrue (Go.Eng.iptRun Try.prog Go.Eng.noSums (⟨16, 18, 19, 46, 69⟩ : Go.Eng.Fns) 56 70 1000 60 8 (.is 3) (.pt 3)) = true := by kernel_rfl
set_option maxRecDepth 100000 in
theorem r5_8 : Go.Eng.isTrue (Go.Eng.iptRun Try.prog Go.Eng.noSums (⟨16, 18, 19, 46, 69⟩ : Go.Eng.Fns) 56 70 1000 60 8 (.is 3) (.pt 4)) = true := by kernel_rfl
set_option maxRecDepth 100000 in
theorem r5_9 : Go.Eng.isTrue (Go.Eng.iptRun Try.prog Go.Eng.noSums (⟨16, 18, 19, 46, 69⟩ : Go.Eng.Fns) 56 70 1000 60 8 (.is 3) (.pt 5)) = true := by kernel_rfl
theorem r5 : Go.Eng.AllL (fun c => Go.Eng.isTrue (Go.Eng.iptRun Try.prog Go.Eng.noSums (⟨16, 18, 19, 46, 69⟩ : Go.Eng.Fns) 56 70 1000 60 8 (.is 3) c) = true) Go.Eng.pclasses := ⟨r5_0, r5_1, r5_2, r5_3, r5_4, r5_5, r5_6, r5_7, r5_8, r5_9, trivial⟩
set_option maxRecDepth 100000 in
theorem r8_0 : Go.Eng.isTrue (Go.Eng.iptRun Try.prog Go.Eng.noSums (⟨16, 18, 19, 46, 69⟩ : Go.Eng.Fns) 56 70 1000 60 8 (.is 6) .nil) = true := by kernel_rfl
set_option maxRecDepth 100000 in
theorem r8_1 : Go.Eng.isTrue (Go.Eng.iptRun Try.prog Go.Eng.noSums (⟨16, 18, 19, 46, 69⟩ : Go.Eng.Fns) 56 70 1000 60 8 (.is 6) .zero) = true := by kernel_rfl
set_option maxRecDepth 100000 in
theorem r8_2 : Go.Eng.isTrue (Go.Eng.iptRun Try.prog Go.Eng.noSums (⟨16, 18, 19, 46, 69⟩ : Go.Eng.Fns) 56 70 1000 60 8 (.is 6) .no) = true := by kernel_rfl
set_option maxRecDepth 100000 in
theorem r8_3 : Go.Eng.isTrue (Go.Eng.iptRun Try.prog Go.Eng.noSums (⟨16, 18, 19, 46, 69⟩ : Go.Eng.Fns) 56 70 1000 60 8 (.is 6) .long) = true := by kernel_rfl
set_option maxRecDepth 100000 in
theorem r8_4 : Go.Eng.isTrue (Go.Eng.iptRun Try.prog Go.Eng.noSums (⟨16, 18, 19, 46, 69⟩ : Go.Eng.Fns) 56 70 1000 60 8 (.is 6) (.pt 0)) = true := by kernel_rfl
set_option maxRecDepth 100000 in
theorem r8_5 : Go.Eng.isTrue (Go.Eng.iptRun Try.prog Go.Eng.noSums (⟨16, 18, 19, 46, 69⟩ : Go.Eng.Fns) 56 70 1000 60 8 (.is 6) (.pt 1)) = true := by kernel_rfl
set_option maxRecDepth 100000 in
theorem r8_6 : Go.Eng.isTrue (Go.Eng.iptRun Try.prog Go.Eng.noSums (⟨16, 18, 19, 46, 69⟩ : Go.Eng.Fns) 56 70 1000 60 8 (.is 6) (.pt 2)) = true := by kernel_rfl
set_option maxRecDepth 100000 in
theorem r8_7 : Go.Eng.isTrue (Go.Eng.iptRun Try.prog Go.Eng.noSums (⟨16, 18, 19, 46, 69⟩ : Go.Eng.Fns) 56 70 1000 60 8 (.is 6) (.pt 3)) = true := by kernel_rfl
set_option maxRecDepth 100000 in
theorem r8_8 : Go.Eng.isTrue (Go.Eng.iptRun Try.prog Go.Eng.noSums (⟨16, 18, 19, 46, 69⟩ : Go.Eng.Fns) 56 70 1000 60 8 (.is 6) (.pt 4)) = true := by kernel_rfl
set_option maxRecDepth 100000 in
theorem r8_9 : Go.Eng.isTrue (Go.Eng.iptRun Try.prog Go.Eng.noSums (⟨16, 18, 19, 46, 69⟩ : Go.Eng.Fns) 56 70 1000 60 8 (.is 6) (.pt 5)) = true := by kernel_rfl
theorem r8 : Go.Eng.AllL (fun c => Go.Eng.isTrue (Go.Eng.iptRun Try.prog Go.Eng.noSums (⟨16, 18, 19, 46, 69⟩ : Go.Eng.Fns) 56 70 1000 60 8 (.is 6) c) = true) Go.Eng.pclasses := ⟨r8_0, r8_1, r8_2, r8_3, r8_4, r8_5, r8_6, r8_7, r8_8, r8_9, trivial⟩
end Go.Proofs.Ythcdiaahpodkoae.fnExactAtFullRuns
