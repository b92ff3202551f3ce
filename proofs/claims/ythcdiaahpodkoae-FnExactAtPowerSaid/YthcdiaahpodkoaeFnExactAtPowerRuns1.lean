/- The runs of FnExactAtPower, part 1. -/
import Derived.Test.YthcdiaahpodkoaeEngZc
import Derived.Test.YthcdiaahpodkoaeProg
namespace Go.Proofs.Ythcdiaahpodkoae.fnExactAtPowerRuns
set_option linter.unusedVariables false
set_option linter.unusedSectionVars false
set_option linter.unusedSimpArgs false
set_option maxRecDepth 100000 in
theorem r1_0 : Go.Eng.isTrue (Go.Eng.iptRun Try.prog Go.Eng.noSums (⟨16, 18, 19, 46, 69⟩ : Go.Eng.Fns) 56 70 1000 60 9 (.big 6) .nil) = true := by kernel_rfl
set_option maxRecDepth 100000 in
theorem r1_1 : Go.Eng.isTrue (Go.Eng.iptRun Try.prog Go.Eng.noSums (⟨16, 18, 19, 46, 69⟩ : Go.Eng.Fns) 56 70 1000 60 9 (.big 6) .zero) = true := by kernel_rfl
set_option maxRecDepth 100000 in
theorem r1_2 : Go.Eng.isTrue (Go.Eng.iptRun Try.prog Go.Eng.noSums (⟨16, 18, 19, 46, 69⟩ : Go.Eng.Fns) 56 70 1000 60 9 (.big 6) .no) = true := by kernel_rfl
set_option maxRecDepth 100000 in
theorem r1_3 : Go.Eng.isTrue (Go.Eng.iptRun Try.prog Go.Eng.noSums (⟨16, 18, 19, 46, 69⟩ : Go.Eng.Fns) 56 70 1000 60 9 (.big 6) .long) = true := by kernel_rfl
set_option maxRecDepth 100000 in
theorem r1_4 : Go.Eng.isTrue (Go.Eng.iptRun Try.prog Go.Eng.noSums (⟨16, 18, 19, 46, 69⟩ : Go.Eng.Fns) 56 70 1000 60 9 (.big 6) (.pt 0)) = true := by kernel_rfl
set_option maxRecDepth 100000 in
theorem r1_5 : Go.Eng.isTrue (Go.Eng.iptRun Try.prog Go.Eng.noSums (⟨16, 18, 19, 46, 69⟩ : Go.Eng.Fns) 56 70 1000 60 9 (.big 6) (.pt 1)) = true := by kernel_rfl
set_option maxRecDepth 100000 in
theorem r1_6 : Go.Eng.isTrue (Go.Eng.iptRun Try.prog Go.Eng.noSums (⟨16, 18, 19, 46, 69⟩ : Go.Eng.Fns) 56 70 1000 60 9 (.big 6) (.pt 2)) = true := by kernel_rfl
set_option maxRecDepth 100000 in
theorem r1_7 : Go.Eng.isTrue (Go.Eng.iptRun Try.prog Go.Eng.noSums (⟨16, 18, 19, 46, 69⟩ : Go.Eng.Fns) 56 70 1000 60 9 (.big 6) (.pt 3)) = true := by kernel_rfl
set_option maxRecDepth 100000 in
theorem r1_8 : Go.Eng.isTrue (Go.Eng.iptRun Try.prog Go.Eng.noSums (⟨16, 18, 19, 46, 69⟩ : Go.Eng.Fns) 56 70 1000 60 9 (.big 6) (.pt 4)) = true := by kernel_rfl
set_option maxRecDepth 100000 in
theorem r1_9 : Go.Eng.isTrue (Go.Eng.iptRun Try.prog Go.Eng.noSums (⟨16, 18, 19, 46, 69⟩ : Go.Eng.Fns) 56 70 1000 60 9 (.big 6) (.pt 5)) = true := by kernel_rfl
theorem r1 : Go.Eng.AllL (fun c => Go.Eng.isTrue (Go.Eng.iptRun Try.prog Go.Eng.noSums (⟨16, 18, 19, 46, 69⟩ : Go.Eng.Fns) 56 70 1000 60 9 (.big 6) c) = true) Go.Eng.pclasses := ⟨r1_0, r1_1, r1_2, r1_3, r1_4, r1_5, r1_6, r1_7, r1_8, r1_9, trivial⟩
set_option maxRecDepth 100000 in
theorem r4_0 : Go.Eng.isTrue (Go.Eng.iptRun Try.prog Go.Eng.noSums (⟨16, 18, 19, 46, 69⟩ : Go.Eng.Fns) 56 70 1000 60 9 (.is 2) .nil) = true := by kernel_rfl
set_option maxRecDepth 100000 in
theorem r4_1 : Go.Eng.isTrue (Go.Eng.iptRun Try.prog Go.Eng.noSums (⟨16, 18, 19, 46, 69⟩ : Go.Eng.Fns) 56 70 1000 60 9 (.is 2) .zero) = true := by kernel_rfl
set_option maxRecDepth 100000 in
theorem r4_2 : Go.Eng.isTrue (Go.Eng.iptRun Try.prog Go.Eng.noSums (⟨16, 18, 19, 46, 69⟩ : Go.Eng.Fns) 56 70 1000 60 9 (.is 2) .no) = true := by kernel_rfl
set_option maxRecDepth 100000 in
theorem r4_3 : Go.Eng.isTrue (Go.Eng.iptRun Try.prog Go.Eng.noSums (⟨16, 18, 19, 46, 69⟩ : Go.Eng.Fns) 56 70 1000 60 9 (.is 2) .long) = true := by kernel_rfl
set_option maxRecDepth 100000 in
theorem r4_4 : Go.Eng.isTrue (Go.Eng.iptRun Try.prog Go.Eng.noSums (⟨16, 18, 19, 46, 69⟩ : Go.Eng.Fns) 56 70 1000 60 9 (.is 2) (.pt 0)) = true := by kernel_rfl
set_option maxRecDepth 100000 in
theorem r4_5 : Go.Eng.isTrue (Go.Eng.iptRun Try.prog Go.Eng.noSums (⟨16, 18, 19, 46, 69⟩ : Go.Eng.Fns) 56 70 1000 60 9 (.is 2) (.pt 1)) = true := by kernel_rfl
set_option maxRecDepth 100000 in
theorem r4_6 : Go.Eng.isTrue (Go.Eng.iptRun Try.prog Go.Eng.noSums (⟨16, 18, 19, 46, 69⟩ : Go.Eng.Fns) 56 70 1000 60 9 (.is 2) (.pt 2)) = true := by kernel_rfl
set_option maxRecDepth 100000 in
theorem r4_7 : Go.Eng.isTrue (Go.Eng.iptRun Try.prog Go.Eng.noSums (⟨16, 18, 19, 46, 69⟩ : Go.Eng.Fns) 56 70 1000 60 9 (.is 2) (.pt 3)) = true := by kernel_rfl
set_option maxRecDepth 100000 in
theorem r4_8 : Go.Eng.isTrue (Go.Eng.iptRun Try.prog Go.Eng.noSums (⟨16, 18, 19, 46, 69⟩ : Go.Eng.Fns) 56 70 1000 60 9 (.is 2) (.pt 4)) = true := by kernel_rfl
set_option maxRecDepth 100000 in
theorem r4_9 : Go.Eng.isTrue (Go.Eng.iptRun Try.prog Go.Eng.noSums (⟨16, 18, 19, 46, 69⟩ : Go.Eng.Fns) 56 70 1000 60 9 (.is 2) (.pt 5)) = true := by kernel_rfl
theorem r4 : Go.Eng.AllL (fun c => Go.Eng.isTrue (Go.Eng.iptRun Try.prog Go.Eng.noSums (⟨16, 18, 19, 46, 69⟩ : Go.Eng.Fns) 56 70 1000 60 9 (.is 2) c) = true) Go.Eng.pclasses := ⟨r4_0, r4_1, r4_2, r4_3, r4_4, r4_5, r4_6, r4_7, r4_8, r4_9, trivial⟩
set_option maxRecDepth 100000 in
theorem r7_0 : Go.Eng.isTrue (Go.Eng.iptRun Try.prog Go.Eng.noSums (⟨16, 18, 19, 46, 69⟩ : Go.Eng.Fns) 56 70 1000 60 9 (.is 5) .nil) = true := by kernel_rfl
set_option maxRecDepth 100000 in
theorem r7_1 : Go.Eng.isTrue (Go.Eng.iptRun Try.prog Go.Eng.noSums (⟨16, 18, 19, 46, 69⟩ : Go.Eng.Fns) 56 70 1000 60 9 (.is 5) .zero) = true := by kernel_rfl
set_option maxRecDepth 100000 in
theorem r7_2 : Go.Eng.isTrue (Go.Eng.iptRun Try.prog Go.Eng.noSums (⟨16, 18, 19, 46, 69⟩ : Go.Eng.Fns) 56 70 1000 60 9 (.is 5) .no) = true := by kernel_rfl
set_option maxRecDepth 100000 in
theorem r7_3 : Go.Eng.isTrue (Go.Eng.iptRun Try.prog Go.Eng.noSums (⟨16, 18, 19, 46, 69⟩ : Go.Eng.Fns) 56 70 1000 60 9 (.is 5) .long) = true := by kernel_rfl
set_option maxRecDepth 100000 in
theorem r7_4 : Go.Eng.isTrue (Go.Eng.iptRun Try.prog Go.Eng.noSums (⟨16, 18, 19, 46, 69⟩ : Go.Eng.Fns) 56 70 1000 60 9 (.is 5) (.pt 0)) = true := by kernel_rfl
set_option maxRecDepth 100000 in
theorem r7_5 : Go.Eng.isTrue (Go.Eng.iptRun Try.prog Go.Eng.noSums (⟨16, 18, 19, 46, 69⟩ : Go.Eng.Fns) 56 70 1000 60 9 (.is 5) (.pt 1)) = true := by kernel_rfl
set_option maxRecDepth 100000 in
theorem r7_6 : Go.Eng.isTrue (Go.Eng.iptRun Try.prog Go.Eng.noSums (⟨16, 18, 19, 46, 69⟩ : Go.Eng.Fns) 56 70 1000 60 9 (.is 5) (.pt 2)) = true := by kernel_rfl
set_option maxRecDepth 100000 in
theorem r7_7 : Go.Eng.isTrue (Go.Eng.iptRun Try.prog Go.Eng.noSums (⟨16, 18, 19, 46, 69⟩ : Go.Eng.Fns) 56 70 1000 60 9 (.is 5) (.pt 3)) = true := by kernel_rfl
set_option maxRecDepth 100000 in
theorem r7_8 : Go.Eng.isTrue (Go.Eng.iptRun Try.prog Go.Eng.noSums (⟨16, 18, 19, 46, 69⟩ : Go.Eng.Fns) 56 70 1000 60 9 (.is 5) (.pt 4)) = true := by kernel_rfl
set_option maxRecDepth 100000 in
theorem r7_9 : Go.Eng.isTrue (Go.Eng.iptRun Try.prog Go.Eng.noSums (⟨16, 18, 19, 46, 69⟩ : Go.Eng.Fns) 56 70 1000 60 9 (.is 5) (.pt 5)) = true := by kernel_rfl
theorem r7 : Go.Eng.AllL (fun c => Go.Eng.isTrue (Go.Eng.iptRun Try.prog Go.Eng.noSums (⟨16, 18, 19, 46, 69⟩ : Go.Eng.Fns) 56 70 1000 60 9 (.is 5) c) = true) Go.Eng.pclasses := ⟨r7_0, r7_1, r7_2, r7_3, r7_4, r7_5, r7_6, r7_7, r7_8, r7_9, trivial⟩
end Go.Proofs.Ythcdiaahpodkoae.fnExactAtPowerRuns
