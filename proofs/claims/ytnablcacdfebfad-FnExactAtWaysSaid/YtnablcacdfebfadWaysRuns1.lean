/- What is known of calls of the program at a seat. -/
import Derived.Test.YtnablcacdfebfadMemoZ
namespace Go.Proofs.Ytnablcacdfebfad.memo
open Go Go.Eng
set_option linter.unusedVariables false
set_option linter.unusedSectionVars false
set_option linter.unusedSimpArgs false
set_option maxRecDepth 100000 in
theorem r1_0 : Go.Eng.isTrue (Go.Eng.lintRun Try.prog Go.Proofs.Ytnablcacdfebfad.memo.sums (⟨16, 18, 23, 46, 73⟩ : Go.Eng.Fns) 1000 60 14 .zero .neg) = true := by kernel_rfl
set_option maxRecDepth 100000 in
theorem r1_1 : Go.Eng.isTrue (Go.Eng.lintRun Try.prog Go.Proofs.Ytnablcacdfebfad.memo.sums (⟨16, 18, 23, 46, 73⟩ : Go.Eng.Fns) 1000 60 14 .zero (.big 5)) = true := by kernel_rfl
set_option maxRecDepth 100000 in
theorem r1_2 : Go.Eng.isTrue (Go.Eng.lintRun Try.prog Go.Proofs.Ytnablcacdfebfad.memo.sums (⟨16, 18, 23, 46, 73⟩ : Go.Eng.Fns) 1000 60 14 .zero (.is 0)) = true := by kernel_rfl
set_option maxRecDepth 100000 in
theorem r1_3 : Go.Eng.isTrue (Go.Eng.lintRun Try.prog Go.Proofs.Ytnablcacdfebfad.memo.sums (⟨16, 18, 23, 46, 73⟩ : Go.Eng.Fns) 1000 60 14 .zero (.is 1)) = true := by kernel_rfl
set_option maxRecDepth 100000 in
theorem r1_4 : Go.Eng.isTrue (Go.Eng.lintRun Try.prog Go.Proofs.Ytnablcacdfebfad.memo.sums (⟨16, 18, 23, 46, 73⟩ : Go.Eng.Fns) 1000 60 14 .zero (.is 2)) = true := by kernel_rfl
set_option maxRecDepth 100000 in
theorem r1_5 : Go.Eng.isTrue (Go.Eng.lintRun Try.prog Go.Proofs.Ytnablcacdfebfad.memo.sums (⟨16, 18, 23, 46, 73⟩ : Go.Eng.Fns) 1000 60 14 .zero (.is 3)) = true := by kernel_rfl
set_option maxRecDepth 100000 in
theorem r1_6 : Go.Eng.isTrue (Go.Eng.lintRun Try.prog Go.Proofs.Ytnablcacdfebfad.memo.sums (⟨16, 18, 23, 46, 73⟩ : Go.Eng.Fns) 1000 60 14 .zero (.is 4)) = true := by kernel_rfl
set_option maxRecDepth 100000 in
theorem r1_7 : Go.Eng.isTrue (Go.Eng.lintRun Try.prog Go.Proofs.Ytnablcacdfebfad.memo.sums (⟨16, 18, 23, 46, 73⟩ : Go.Eng.Fns) 1000 60 14 .zero (.is 5)) = true := by kernel_rfl
theorem r1 : Go.Eng.AllL (fun c => Go.Eng.isTrue (Go.Eng.lintRun Try.prog Go.Proofs.Ytnablcacdfebfad.memo.sums (⟨16, 18, 23, 46, 73⟩ : Go.Eng.Fns) 1000 60 14 .zero c) = true) (Go.Eng.iclasses 5) := ⟨r1_0, r1_1, r1_2, r1_3, r1_4, r1_5, r1_6, r1_7, trivial⟩
set_option maxRecDepth 100000 in
theorem r4_0 : Go.Eng.isTrue (Go.Eng.lintRun Try.prog Go.Proofs.Ytnablcacdfebfad.memo.sums (⟨16, 18, 23, 46, 73⟩ : Go.Eng.Fns) 1000 60 14 (.row []) .neg) = true := by kernel_rfl
set_option maxRecDepth 100000 in
theorem r4_1 : Go.Eng.isTrue (Go.Eng.lintRun Try.prog Go.Proofs.Ytnablcacdfebfad.memo.sums (⟨16, 18, 23, 46, 73⟩ : Go.Eng.Fns) 1000 60 14 (.row []) (.big 5)) = true := by kernel_rfl
set_option maxRecDepth 100000 in
theorem r4_2 : Go.Eng.isTrue (Go.Eng.lintRun Try.prog Go.Proofs.Ytnablcacdfebfad.memo.sums (⟨16, 18, 23, 46, 73⟩ : Go.Eng.Fns) 1000 60 14 (.row []) (.is 0)) = true := by kernel_rfl
set_option maxRecDepth 100000 in
theorem r4_3 : Go.Eng.isTrue (Go.Eng.lintRun Try.prog Go.Proofs.Ytnablcacdfebfad.memo.sums (⟨16, 18, 23, 46, 73⟩ : Go.Eng.Fns) 1000 60 14 (.row []) (.is 1)) = true := by kernel_rfl
set_option maxRecDepth 100000 in
theorem r4_4 : Go.Eng.isTrue (Go.Eng.lintRun Try.prog Go.Proofs.Ytnablcacdfebfad.memo.sums (⟨16, 18, 23, 46, 73⟩ : Go.Eng.Fns) 1000 60 14 (.row []) (.is 2)) = true := by kernel_rfl
set_option maxRecDepth 100000 in
theorem r4_5 : Go.Eng.isTrue (Go.Eng.lintRun Try.prog Go.Proofs.Ytnablcacdfebfad.memo.sums (⟨16, 18, 23, 46, 73⟩ : Go.Eng.Fns) 1000 60 14 (.row []) (.is 3)) = true := by kernel_rfl
set_option maxRecDepth 100000 in
theorem r4_6 : Go.Eng.isTrue (Go.Eng.lintRun Try.prog Go.Proofs.Ytnablcacdfebfad.memo.sums (⟨16, 18, 23, 46, 73⟩ : Go.Eng.Fns) 1000 60 14 (.row []) (.is 4)) = true := by kernel_rfl
set_option maxRecDepth 100000 in
theorem r4_7 : Go.Eng.isTrue (Go.Eng.lintRun Try.prog Go.Proofs.Ytnablcacdfebfad.memo.sums (⟨16, 18, 23, 46, 73⟩ : Go.Eng.Fns) 1000 60 14 (.row []) (.is 5)) = true := by kernel_rfl
theorem r4 : Go.Eng.AllL (fun c => Go.Eng.isTrue (Go.Eng.lintRun Try.prog Go.Proofs.Ytnablcacdfebfad.memo.sums (⟨16, 18, 23, 46, 73⟩ : Go.Eng.Fns) 1000 60 14 (.row []) c) = true) (Go.Eng.iclasses 5) := ⟨r4_0, r4_1, r4_2, r4_3, r4_4, r4_5, r4_6, r4_7, trivial⟩
set_option maxRecDepth 100000 in
theorem r7_0 : Go.Eng.isTrue (Go.Eng.lintRun Try.prog Go.Proofs.Ytnablcacdfebfad.memo.sums (⟨16, 18, 23, 46, 73⟩ : Go.Eng.Fns) 1000 60 14 (.row [1, 1, 1]) .neg) = true := by kernel_rfl
set_option maxRecDepth 100000 in
theorem r7_1 : Go.Eng.isTrue (Go.Eng.lintRun Try.prog Go.Proofs.Ytnablcacdfebfad.memo.sums (⟨16, 18, 23, 46, 73⟩ : Go.Eng.Fns) 1000 60 14 (.row [1, 1, 1]) (.big 5)) = true := by kernel_rfl
set_option maxRecDepth 100000 in
theorem r7_2 : Go.Eng.isTrue (Go.Eng.lintRun Try.prog Go.Proofs.Ytnablcacdfebfad.memo.sums (⟨16, 18, 23, 46, 73⟩ : Go.Eng.Fns) 1000 60 14 (.row [1, 1, 1]) (.is 0)) = true := by kernel_rfl
set_option maxRecDepth 100000 in
theorem r7_3 : Go.Eng.isTrue (Go.Eng.lintRun Try.prog Go.Proofs.Ytnablcacdfebfad.memo.sums (⟨16, 18, 23, 46, 73⟩ : Go.Eng.Fns) 1000 60 14 (.row [1, 1, 1]) (.is 1)) = true := by kernel_rfl
set_option maxRecDepth 100000 in
theorem r7_4 : Go.Eng.isTrue (Go.Eng.lintRun Try.prog Go.Proofs.Ytnablcacdfebfad.memo.sums (⟨16, 18, 23, 46, 73⟩ : Go.Eng.Fns) 1000 60 14 (.row [1, 1, 1]) (.is 2)) = true := by kernel_rfl
set_option maxRecDepth 100000 in
theorem r7_5 : Go.Eng.isTrue (Go.Eng.lintRun Try.prog Go.Proofs.Ytnablcacdfebfad.memo.sums (⟨16, 18, 23, 46, 73⟩ : Go.Eng.Fns) 1000 60 14 (.row [1, 1, 1]) (.is 3)) = true := by kernel_rfl
set_option maxRecDepth 100000 in
theorem r7_6 : Go.Eng.isTrue (Go.Eng.lintRun Try.prog Go.Proofs.Ytnablcacdfebfad.memo.sums (⟨16, 18, 23, 46, 73⟩ : Go.Eng.Fns) 1000 60 14 (.row [1, 1, 1]) (.is 4)) = true := by kernel_rfl
set_option maxRecDepth 100000 in
theorem r7_7 : Go.Eng.isTrue (Go.Eng.lintRun Try.prog Go.Proofs.Ytnablcacdfebfad.memo.sums (⟨16, 18, 23, 46, 73⟩ : Go.Eng.Fns) 1000 60 14 (.row [1, 1, 1]) (.is 5)) = true := by kernel_rfl
theorem r7 : Go.Eng.AllL (fun c => Go.Eng.isTrue (Go.Eng.lintRun Try.prog Go.Proofs.Ytnablcacdfebfad.memo.sums (⟨16, 18, 23, 46, 73⟩ : Go.Eng.Fns) 1000 60 14 (.row [1, 1, 1]) c) = true) (Go.Eng.iclasses 5) := ⟨r7_0, r7_1, r7_2, r7_3, r7_4, r7_5, r7_6, r7_7, trivial⟩
set_option maxRecDepth 100000 in
theorem r10_0 : Go.Eng.isTrue (Go.Eng.lintRun Try.prog Go.Proofs.Ytnablcacdfebfad.memo.sums (⟨16, 18, 23, 46, 73⟩ : Go.Eng.Fns) 1000 60 14 (.row [1, 1, 1, 1, 1, 1]) .neg) = true := by kernel_rfl
set_option maxRecDepth 100000 in
theorem r10_1 : Go.Eng.isTrue (Go.Eng.lintRun Try.prog Go.Proofs.Ytnablcacdfebfad.memo.sums (⟨16, 18, 23, 46, 73⟩ : Go.Eng.Fns) 1000 60 14 (.row [1, 1, 1, 1, 1, 1]) (.big 5)) = true := by kernel_rfl
set_option maxRecDepth 100000 in
theorem r10_2 : Go.Eng.isTrue (Go.Eng.lintRun Try.prog Go.Proofs.Ytnablcacdfebfad.memo.sums (⟨16, 18, 23, 46, 73⟩ : Go.Eng.Fns) 1000 60 14 (.row [1, 1, 1, 1, 1, 1]) (.is 0)) = true := by kernel_rfl
set_option maxRecDepth 100000 in
theorem r10_3 : Go.Eng.isTrue (Go.Eng.lintRun Try.prog Go.Proofs.Ytnablcacdfebfad.memo.sums (⟨16, 18, 23, 46, 73⟩ : Go.Eng.Fns) 1000 60 14 (.row [1, 1, 1, 1, 1, 1]) (.is 1)) = true := by kernel_rfl
set_option maxRecDepth 100000 in
theorem r10_4 : Go.Eng.isTrue (Go.Eng.lintRun Try.prog Go.Proofs.Ytnablcacdfebfad.memo.sums (⟨16, 18, 23, 46, 73⟩ : Go.Eng.Fns) 1000 60 14 (.row [1, 1, 1, 1, 1, 1]) (.is 2)) = true := by kernel_rfl
set_option maxRecDepth 100000 in
theorem r10_5 : Go.Eng.isTrue (Go.Eng.lintRun Try.prog Go.Proofs.Ytnablcacdfebfad.memo.sums (⟨16, 18, 23, 46, 73⟩ : Go.Eng.Fns) 1000 60 14 (.row [1, 1, 1, 1, 1, 1]) (.is 3)) = true := by kernel_rfl
set_option maxRecDepth 100000 in
theorem r10_6 : Go.Eng.isTrue (Go.Eng.lintRun Try.prog Go.Proofs.Ytnablcacdfebfad.memo.sums (⟨16, 18, 23, 46, 73⟩ : Go.Eng.Fns) 1000 60 14 (.row [1, 1, 1, 1, 1, 1]) (.is 4)) = true := by kernel_rfl
set_option maxRecDepth 100000 in
theorem r10_7 : Go.Eng.isTrue (Go.Eng.lintRun Try.prog Go.Proofs.Ytnablcacdfebfad.memo.sums (⟨16, 18, 23, 46, 73⟩ : Go.Eng.Fns) 1000 60 14 (.row [1, 1, 1, 1, 1, 1]) (.is 5)) = true := by kernel_rfl
theorem r10 : Go.Eng.AllL (fun c => Go.Eng.isTrue (Go.Eng.lintRun Try.prog Go.Proofs.Ytnablcacdfebfad.memo.sums (⟨16, 18, 23, 46, 73⟩ : Go.Eng.Fns) 1000 60 14 (.row [1, 1, 1, 1, 1, 1]) c) = true) (Go.Eng.iclasses 5) := ⟨r10_0, r10_1, r10_2, r10_3, r10_4, r10_5, r10_6, r10_7, trivial⟩
set_option maxRecDepth 100000 in
theorem r13_0 : Go.Eng.isTrue (Go.Eng.lintRun Try.prog Go.Proofs.Ytnablcacdfebfad.memo.sums (⟨16, 18, 23, 46, 73⟩ : Go.Eng.Fns) 1000 60 14 (.row [2, 1, 1]) .neg) = true := by kernel_rfl
set_option maxRecDepth 100000 in
theorem r13_1 : Go.Eng.isTrue (Go.Eng.lintRun Try.prog Go.Proofs.Ytnablcacdfebfad.memo.sums (⟨16, 18, 23, 46, 73⟩ : Go.Eng.Fns) 1000 60 14 (.row [2, 1, 1]) (.big 5)) = true := by kernel_rfl
set_option maxRecDepth 100000 in
theorem r13_2 : Go.Eng.isTrue (Go.Eng.lintRun Try.prog Go.Proofs.Ytnablcacdfebfad.memo.sums (⟨16, 18, 23, 46, 73⟩ : Go.Eng.Fns) 1000 60 14 (.row [2, 1, 1]) (.is 0)) = true := by kernel_rfl
set_option maxRecDepth 100000 in
theorem r13_3 : Go.Eng.isTrue (Go.Eng.lintRun Try.prog Go.Proofs.Ytnablcacdfebfad.memo.sums (⟨16, 18, 23, 46, 73⟩ : Go.Eng.Fns) 1000 60 14 (.row [2, 1, 1]) (.is 1)) = true := by kernel_rfl
set_option maxRecDepth 100000 in
theorem r13_4 : Go.Eng.isTrue (Go.Eng.lintRun Try.prog Go.Proofs.Ytnablcacdfebfad.memo.sums (⟨16, 18, 23, 46, 73⟩ : Go.Eng.Fns) 1000 60 14 (.row [2, 1, 1]) (.is 2)) = true := by kernel_rfl
set_option maxRecDepth 100000 in
theorem r13_5 : Go.Eng.isTrue (Go.Eng.lintRun Try.prog Go.Proofs.Ytnablcacdfebfad.memo.sums (⟨16, 18, 23, 46, 73⟩ : Go.Eng.Fns) 1000 60 14 (.row [2, 1, 1]) (.is 3)) = true := by kernel_rfl
set_option maxRecDepth 100000 in
theorem r13_6 : Go.Eng.isTrue (Go.Eng.lintRun Try.prog Go.Proofs.Ytnablcacdfebfad.memo.sums (⟨16, 18, 23, 46, 73⟩ : Go.Eng.Fns) 1000 60 14 (.row [2, 1, 1]) (.is 4)) = true := by kernel_rfl
set_option maxRecDepth 100000 in
theorem r13_7 : Go.Eng.isTrue (Go.Eng.lintRun Try.prog Go.Proofs.Ytnablcacdfebfad.memo.sums (⟨16, 18, 23, 46, 73⟩ : Go.Eng.Fns) 1000 60 14 (.row [2, 1, 1]) (.is 5)) = true := by kernel_rfl
theorem r13 : Go.Eng.AllL (fun c => Go.Eng.isTrue (Go.Eng.lintRun Try.prog Go.Proofs.Ytnablcacdfebfad.memo.sums (⟨16, 18, 23, 46, 73⟩ : Go.Eng.Fns) 1000 60 14 (.row [2, 1, 1]) c) = true) (Go.Eng.iclasses 5) := ⟨r13_0, r13_1, r13_2, r13_3, r13_4, r13_5, r13_6, r13_7, trivial⟩
set_option maxRecDepth 100000 in
theorem r16_0 : Go.Eng.isTrue (Go.Eng.lintRun Try.prog Go.Proofs.Ytnablcacdfebfad.memo.sums (⟨16, 18, 23, 46, 73⟩ : Go.Eng.Fns) 1000 60 14 (.row [2, 2]) .neg) = true := by kernel_rfl
set_option maxRecDepth 100000 in
theorem r16_1 : Go.Eng.isTrue (Go.Eng.lintRun Try.prog Go.Proofs.Ytnablcacdfebfad.memo.sums (⟨16, 18, 23, 46, 73⟩ : Go.Eng.Fns) 1000 60 14 (.row [2, 2]) (.big 5)) = true := by kernel_rfl
set_option maxRecDepth 100000 in
theorem r16_2 : Go.Eng.isTrue (Go.Eng.lintRun Try.prog Go.Proofs.Ytnablcacdfebfad.memo.sums (⟨16, 18, 23, 46, 73⟩ : Go.Eng.Fns) 1000 60 14 (.row [2, 2]) (.is 0)) = true := by kernel_rfl
set_option maxRecDepth 100000 in
theorem r16_3 : Go.Eng.isTrue (Go.Eng.lintRun Try.prog Go.Proofs.Ytnablcacdfebfad.memo.sums (⟨16, 18, 23, 46, 73⟩ : Go.Eng.Fns) 1000 60 14 (.row [2, 2]) (.is 1)) = true := by kernel_rfl
set_option maxRecDepth 100000 in
theorem r16_4 : Go.Eng.isTrue (Go.Eng.lintRun Try.prog Go.Proofs.Ytnablcacdfebfad.memo.sums (⟨16, 18, 23, 46, 73⟩ : Go.Eng.Fns) 1000 60 14 (.row [2, 2]) (.is 2)) = true := by kernel_rfl
set_option maxRecDepth 100000 in
theorem r16_5 : Go.Eng.isTrue (Go.Eng.lintRun Try.prog Go.Proofs.Ytnablcacdfebfad.memo.sums (⟨16, 18, 23, 46, 73⟩ : Go.Eng.Fns) 1000 60 14 (.row [2, 2]) (.is 3)) = true := by kernel_rfl
set_option maxRecDepth 100000 in
theorem r16_6 : Go.Eng.isTrue (Go.Eng.lintRun Try.prog Go.Proofs.Ytnablcacdfebfad.memo.sums (⟨16, 18, 23, 46, 73⟩ : Go.Eng.Fns) 1000 60 14 (.row [2, 2]) (.is 4)) = true := by kernel_rfl
set_option maxRecDepth 100000 in
theorem r16_7 : Go.Eng.isTrue (Go.Eng.lintRun Try.prog Go.Proofs.Ytnablcacdfebfad.memo.sums (⟨16, 18, 23, 46, 73⟩ : Go.Eng.Fns) 1000 60 14 (.row [2, 2]) (.is 5)) = true := by kernel_rfl
theorem r16 : Go.Eng.AllL (fun c => Go.Eng.isTrue (Go.Eng.lintRun Try.prog Go.Proofs.Ytnablcacdfebfad.memo.sums (⟨16, 18, 23, 46, 73⟩ : Go.Eng.Fns) 1000 60 14 (.row [2, 2]) c) = true) (Go.Eng.iclasses 5) := ⟨r16_0, r16_1, r16_2, r16_3, r16_4, r16_5, r16_6, r16_7, trivial⟩
set_option maxRecDepth 100000 in
theorem r19_0 : Go.Eng.isTrue (Go.Eng.lintRun Try.prog Go.Proofs.Ytnablcacdfebfad.memo.sums (⟨16, 18, 23, 46, 73⟩ : Go.Eng.Fns) 1000 60 14 (.row [2, 2, 2]) .neg) = true := by kernel_rfl
set_option maxRecDepth 100000 in
theorem r19_1 : Go.Eng.isTrue (Go.Eng.lintRun Try.prog Go.Proofs.Ytnablcacdfebfad.memo.sums (⟨16, 18, 23, 46, 73⟩ : Go.Eng.Fns) 1000 60 14 (.row [2, 2, 2]) (.big 5)) = true := by kernel_rfl
set_option maxRecDepth 100000 in
theorem r19_2 : Go.Eng.isTrue (Go.Eng.lintRun Try.prog Go.Proofs.Ytnablcacdfebfad.memo.sums (⟨16, 18, 23, 46, 73⟩ : Go.Eng.Fns) 1000 60 14 (.row [2, 2, 2]) (.is 0)) = true := by kernel_rfl
set_option maxRecDepth 100000 in
theorem r19_3 : Go.Eng.isTrue (Go.Eng.lintRun Try.prog Go.Proofs.Ytnablcacdfebfad.memo.sums (⟨16, 18, 23, 46, 73⟩ : Go.Eng.Fns) 1000 60 14 (.row [2, 2, 2]) (.is 1)) = true := by kernel_rfl
set_option maxRecDepth 100000 in
theorem r19_4 : Go.Eng.isTrue (Go.Eng.lintRun Try.prog Go.Proofs.Ytnablcacdfebfad.memo.sums (⟨16, 18, 23, 46, 73⟩ : Go.Eng.Fns) 1000 60 14 (.row [2, 2, 2]) (.is 2)) = true := by kernel_rfl
set_option maxRecDepth 100000 in
theorem r19_5 : Go.Eng.isTrue (Go.Eng.lintRun Try.prog Go.Proofs.Ytnablcacdfebfad.memo.sums (⟨16, 18, 23, 46, 73⟩ : Go.Eng.Fns) 1000 60 14 (.row [2, 2, 2]) (.is 3)) = true := by kernel_rfl
set_option maxRecDepth 100000 in
theorem r19_6 : Go.Eng.isTrue (Go.Eng.lintRun Try.prog Go.Proofs.Ytnablcacdfebfad.memo.sums (⟨16, 18, 23, 46, 73⟩ : Go.Eng.Fns) 1000 60 14 (.row [2, 2, 2]) (.is 4)) = true := by kernel_rfl
set_option maxRecDepth 100000 in
theorem r19_7 : Go.Eng.isTrue (Go.Eng.lintRun Try.prog Go.Proofs.Ytnablcacdfebfad.memo.sums (⟨16, 18, 23, 46, 73⟩ : Go.Eng.Fns) 1000 60 14 (.row [2, 2, 2]) (.is 5)) = true := by kernel_rfl
theorem r19 : Go.Eng.AllL (fun c => Go.Eng.isTrue (Go.Eng.lintRun Try.prog Go.Proofs.Ytnablcacdfebfad.memo.sums (⟨16, 18, 23, 46, 73⟩ : Go.Eng.Fns) 1000 60 14 (.row [2, 2, 2]) c) = true) (Go.Eng.iclasses 5) := ⟨r19_0, r19_1, r19_2, r19_3, r19_4, r19_5, r19_6, r19_7, trivial⟩
set_option maxRecDepth 100000 in
theorem r22_0 : Go.Eng.isTrue (Go.Eng.lintRun Try.prog Go.Proofs.Ytnablcacdfebfad.memo.sums (⟨16, 18, 23, 46, 73⟩ : Go.Eng.Fns) 1000 60 14 (.row [3, 1, 1]) .neg) = true := by kernel_rfl
set_option maxRecDepth 100000 in
theorem r22_1 : Go.Eng.isTrue (Go.Eng.lintRun Try.prog Go.Proofs.Ytnablcacdfebfad.memo.sums (⟨16, 18, 23, 46, 73⟩ : Go.Eng.Fns) 1000 60 14 (.row [3, 1, 1]) (.big 5)) = true := by kernel_rfl
set_option maxRecDepth 100000 in
theorem r22_2 : Go.Eng.isTrue (Go.Eng.lintRun Try.prog Go.Proofs.Ytnablcacdfebfad.memo.sums (⟨16, 18, 23, 46, 73⟩ : Go.Eng.Fns) 1000 60 14 (.row [3, 1, 1]) (.is 0)) = true := by kernel_rfl
set_option maxRecDepth 100000 in
theorem r22_3 : Go.Eng.isTrue (Go.Eng.lintRun Try.prog Go.Proofs.Ytnablcacdfebfad.memo.sums (⟨16, 18, 23, 46, 73⟩ : Go.Eng.Fns) 1000 60 14 (.row [3, 1, 1]) (.is 1)) = true := by kernel_rfl
set_option maxRecDepth 100000 in
theorem r22_4 : Go.Eng.isTrue (Go.Eng.lintRun Try.prog Go.Proofs.Ytnablcacdfebfad.memo.sums (⟨16, 18, 23, 46, 73⟩ : Go.Eng.Fns) 1000 60 14 (.row [3, 1, 1]) (.is 2)) = true := by kernel_rfl
set_option maxRecDepth 100000 in
theorem r22_5 : Go.Eng.isTrue (Go.Eng.lintRun Try.prog Go.Proofs.Ytnablcacdfebfad.memo.sums (⟨16, 18, 23, 46, 73⟩ : Go.Eng.Fns) 1000 60 14 (.row [3, 1, 1]) (.is 3)) = true := by kernel_rfl
set_option maxRecDepth 100000 in
theorem r22_6 : Go.Eng.isTrue (Go.Eng.lintRun Try.prog Go.Proofs.Ytnablcacdfebfad.memo.sums (⟨16, 18, 23, 46, 73⟩ : Go.Eng.Fns) 1000 60 14 (.row [3, 1, 1]) (.is 4)) = true := by kernel_rfl
set_option maxRecDepth 100000 in
theorem r22_7 : Go.Eng.isTrue (Go.Eng.lintRun Try.prog Go.Proofs.Ytnablcacdfebfad.memo.sums (⟨16, 18, 23, 46, 73⟩ : Go.Eng.Fns) 1000 60 14 (.row [3, 1, 1]) (.is 5)) = true := by kernel_rfl
theorem r22 : Go.Eng.AllL (fun c => Go.Eng.isTrue (Go.Eng.lintRun Try.prog Go.Proofs.Ytnablcacdfebfad.memo.sums (⟨16, 18, 23, 46, 73⟩ : Go.Eng.Fns) 1000 60 14 (.row [3, 1, 1]) c) = true) (Go.Eng.iclasses 5) := ⟨r22_0, r22_1, r22_2, r22_3, r22_4, r22_5, r22_6, r22_7, trivial⟩
set_option maxRecDepth 100000 in
theorem r25_0 : Go.Eng.isTrue (Go.Eng.lintRun Try.prog Go.Proofs.Ytnablcacdfebfad.memo.sums (⟨16, 18, 23, 46, 73⟩ : Go.Eng.Fns) 1000 60 14 (.row [3, 2, 1]) .neg) = true := by kernel_rfl
set_option maxRecDepth 100000 in
theorem r25_1 : Go.Eng.isTrue (Go.Eng.lintRun Try.prog Go.Proofs.Ytnablcacdfebfad.memo.sums (⟨16, 18, 23, 46, 73⟩ : Go.Eng.Fns) 1000 60 14 (.row [3, 2, 1]) (.big 5)) = true := by kernel_rfl
set_option maxRecDepth 100000 in
theorem r25_2 : Go.Eng.isTrue (Go.Eng.lintRun Try.prog Go.Proofs.Ytnablcacdfebfad.memo.sums (⟨16, 18, 23, 46, 73⟩ : Go.Eng.Fns) 1000 60 14 (.row [3, 2, 1]) (.is 0)) = true := by kernel_rfl
set_option maxRecDepth 100000 in
theorem r25_3 : Go.Eng.isTrue (Go.Eng.lintRun Try.prog Go.Proofs.Ytnablcacdfebfad.memo.sums (⟨16, 18, 23, 46, 73⟩ : Go.Eng.Fns) 1000 60 14 (.row [3, 2, 1]) (.is 1)) = true := by kernel_rfl
set_option maxRecDepth 100000 in
theorem r25_4 : Go.Eng.isTrue (Go.Eng.lintRun Try.prog Go.Proofs.Ytnablcacdfebfad.memo.sums (⟨16, 18, 23, 46, 73⟩ : Go.Eng.Fns) 1000 60 14 (.row [3, 2, 1]) (.is 2)) = true := by kernel_rfl
set_option maxRecDepth 100000 in
theorem r25_5 : Go.Eng.isTrue (Go.Eng.lintRun Try.prog Go.Proofs.Ytnablcacdfebfad.memo.sums (⟨16, 18, 23, 46, 73⟩ : Go.Eng.Fns) 1000 60 14 (.row [3, 2, 1]) (.is 3)) = true := by kernel_rfl
set_option maxRecDepth 100000 in
theorem r25_6 : Go.Eng.isTrue (Go.Eng.lintRun Try.prog Go.Proofs.Ytnablcacdfebfad.memo.sums (⟨16, 18, 23, 46, 73⟩ : Go.Eng.Fns) 1000 60 14 (.row [3, 2, 1]) (.is 4)) = true := by kernel_rfl
set_option maxRecDepth 100000 in
theorem r25_7 : Go.Eng.isTrue (Go.Eng.lintRun Try.prog Go.Proofs.Ytnablcacdfebfad.memo.sums (⟨16, 18, 23, 46, 73⟩ : Go.Eng.Fns) 1000 60 14 (.row [3, 2, 1]) (.is 5)) = true := by kernel_rfl
theorem r25 : Go.Eng.AllL (fun c => Go.Eng.isTrue (Go.Eng.lintRun Try.prog Go.Proofs.Ytnablcacdfebfad.memo.sums (⟨16, 18, 23, 46, 73⟩ : Go.Eng.Fns) 1000 60 14 (.row [3, 2, 1]) c) = true) (Go.Eng.iclasses 5) := ⟨r25_0, r25_1, r25_2, r25_3, r25_4, r25_5, r25_6, r25_7, trivial⟩
set_option maxRecDepth 100000 in
theorem r28_0 : Go.Eng.isTrue (Go.Eng.lintRun Try.prog Go.Proofs.Ytnablcacdfebfad.memo.sums (⟨16, 18, 23, 46, 73⟩ : Go.Eng.Fns) 1000 60 14 (.row [4, 1]) .neg) = true := by kernel_rfl
set_option maxRecDepth 100000 in
theorem r28_1 : Go.Eng.isTrue (Go.Eng.lintRun Try.prog Go.Proofs.Ytnablcacdfebfad.memo.sums (⟨16, 18, 23, 46, 73⟩ : Go.Eng.Fns) 1000 60 14 (.row [4, 1]) (.big 5)) = true := by kernel_rfl
set_option maxRecDepth 100000 in
theorem r28_2 : Go.Eng.isTrue (Go.Eng.lintRun Try.prog Go.Proofs.Ytnablcacdfebfad.memo.sums (⟨16, 18, 23, 46, 73⟩ : Go.Eng.Fns) 1000 60 14 (.row [4, 1]) (.is 0)) = true := by kernel_rfl
set_option maxRecDepth 100000 in
theorem r28_3 : Go.Eng.isTrue (Go.Eng.lintRun Try.prog Go.Proofs.Ytnablcacdfebfad.memo.sums (⟨16, 18, 23, 46, 73⟩ : Go.Eng.Fns) 1000 60 14 (.row [4, 1]) (.is 1)) = true := by kernel_rfl
set_option maxRecDepth 100000 in
theorem r28_4 : Go.Eng.isTrue (Go.Eng.lintRun Try.prog Go.Proofs.Ytnablcacdfebfad.memo.sums (⟨16, 18, 23, 46, 73⟩ : Go.Eng.Fns) 1000 60 14 (.row [4, 1]) (.is 2)) = true := by kernel_rfl
set_option maxRecDepth 100000 in
theorem r28_5 : Go.Eng.isTrue (Go.Eng.lintRun Try.prog Go.Proofs.Ytnablcacdfebfad.memo.sums (⟨16, 18, 23, 46, 73⟩ : Go.Eng.Fns) 1000 60 14 (.row [4, 1]) (.is 3)) = true := by kernel_rfl
set_option maxRecDepth 100000 in
theorem r28_6 : Go.Eng.isTrue (Go.Eng.lintRun Try.prog Go.Proofs.Ytnablcacdfebfad.memo.sums (⟨16, 18, 23, 46, 73⟩ : Go.Eng.Fns) 1000 60 14 (.row [4, 1]) (.is 4)) = true := by kernel_rfl
set_option maxRecDepth 100000 in
theorem r28_7 : Go.Eng.isTrue (Go.Eng.lintRun Try.prog Go.Proofs.Ytnablcacdfebfad.memo.sums (⟨16, 18, 23, 46, 73⟩ : Go.Eng.Fns) 1000 60 14 (.row [4, 1]) (.is 5)) = true := by kernel_rfl
theorem r28 : Go.Eng.AllL (fun c => Go.Eng.isTrue (Go.Eng.lintRun Try.prog Go.Proofs.Ytnablcacdfebfad.memo.sums (⟨16, 18, 23, 46, 73⟩ : Go.Eng.Fns) 1000 60 14 (.row [4, 1]) c) = true) (Go.Eng.iclasses 5) := ⟨r28_0, r28_1, r28_2, r28_3, r28_4, r28_5, r28_6, r28_7, trivial⟩
set_option maxRecDepth 100000 in
theorem r31_0 : Go.Eng.isTrue (Go.Eng.lintRun Try.prog Go.Proofs.Ytnablcacdfebfad.memo.sums (⟨16, 18, 23, 46, 73⟩ : Go.Eng.Fns) 1000 60 14 (.row [5]) .neg) = true := by kernel_rfl
set_option maxRecDepth 100000 in
theorem r31_1 : Go.Eng.isTrue (Go.Eng.lintRun Try.prog Go.Proofs.Ytnablcacdfebfad.memo.sums (⟨16, 18, 23, 46, 73⟩ : Go.Eng.Fns) 1000 60 14 (.row [5]) (.big 5)) = true := by kernel_rfl
set_option maxRecDepth 100000 in
theorem r31_2 : Go.Eng.isTrue (Go.Eng.lintRun Try.prog Go.Proofs.Ytnablcacdfebfad.memo.sums (⟨16, 18, 23, 46, 73⟩ : Go.Eng.Fns) 1000 60 14 (.row [5]) (.is 0)) = true := by kernel_rfl
set_option maxRecDepth 100000 in
theorem r31_3 : Go.Eng.isTrue (Go.Eng.lintRun Try.prog Go.Proofs.Ytnablcacdfebfad.memo.sums (⟨16, 18, 23, 46, 73⟩ : Go.Eng.Fns) 1000 60 14 (.row [5]) (.is 1)) = true := by kernel_rfl
set_option maxRecDepth 100000 in
theorem r31_4 : Go.Eng.isTrue (Go.Eng.lintRun Try.prog Go.Proofs.Ytnablcacdfebfad.memo.sums (⟨16, 18, 23, 46, 73⟩ : Go.Eng.Fns) 1000 60 14 (.row [5]) (.is 2)) = true := by kernel_rfl
set_option maxRecDepth 100000 in
theorem r31_5 : Go.Eng.isTrue (Go.Eng.lintRun Try.prog Go.Proofs.Ytnablcacdfebfad.memo.sums (⟨16, 18, 23, 46, 73⟩ : Go.Eng.Fns) 1000 60 14 (.row [5]) (.is 3)) = true := by kernel_rfl
set_option maxRecDepth 100000 in
theorem r31_6 : Go.Eng.isTrue (Go.Eng.lintRun Try.prog Go.Proofs.Ytnablcacdfebfad.memo.sums (⟨16, 18, 23, 46, 73⟩ : Go.Eng.Fns) 1000 60 14 (.row [5]) (.is 4)) = true := by kernel_rfl
set_option maxRecDepth 100000 in
theorem r31_7 : Go.Eng.isTrue (Go.Eng.lintRun Try.prog Go.Proofs.Ytnablcacdfebfad.memo.sums (⟨16, 18, 23, 46, 73⟩ : Go.Eng.Fns) 1000 60 14 (.row [5]) (.is 5)) = true := by kernel_rfl
theorem r31 : Go.Eng.AllL (fun c => Go.Eng.isTrue (Go.Eng.lintRun Try.prog Go.Proofs.Ytnablcacdfebfad.memo.sums (⟨16, 18, 23, 46, 73⟩ : Go.Eng.Fns) 1000 60 14 (.row [5]) c) = true) (Go.Eng.iclasses 5) := ⟨r31_0, r31_1, r31_2, r31_3, r31_4, r31_5, r31_6, r31_7, trivial⟩
end Go.Proofs.Ytnablcacdfebfad.memo
