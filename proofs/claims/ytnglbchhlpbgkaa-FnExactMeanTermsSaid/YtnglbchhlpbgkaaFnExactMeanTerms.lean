/- The law FnExactMeanTerms holds for every list and every int: the program answers as the model does, writes into no argument, and owns what it hands out. No condition. -/
import Derived.Test.YtnglbchhlpbgkaaRows
import Derived.WalkKit
import Derived.ProofKit
import Derived.OpenShut
import Derived.ShutString
import Derived.ChangeOld
import Derived.Below
import Derived.Test.YtnglbchhlpbgkaaEngZb
import Derived.Test.YtnglbchhlpbgkaaList
namespace Go.Proofs.Ytnglbchhlpbgkaa.fnExactMeanTerms
open Go.ChangeShapes Go.WideShapes Go.ChangeAt Go.RowKit
open Go.ChangeMaps (open_string shut_string)
set_option linter.unusedVariables false

theorem own : ownKnob Try.prog.godebug = none := by kernel_rfl
theorem laidOut : laidOutB Try.prog = true := by kernel_rfl

/-- WHAT THE WALK IS TOLD OF A SLICE OF INTEGERS THAT CAME IN: it is nil; or it leads to a row of 'cap' cells, the numbers 'zs' (the first 'len' are its elements, the rest its spare room), each fitting its kind. -/
def IsRow (k : IntKind) (w : World) (a : Option Addr) (len cap : Nat) (zs : List Int) : Prop :=
  (a = none ∧ len = 0 ∧ cap = 0 ∧ zs = []) ∨
  ∃ x, a = some x ∧ len ≤ cap ∧ cap ≤ maxLen ∧ zs.length = cap ∧ (∀ i, i < zs.length → w.cell? (x.add i) = some (.int k (zs.getD i 0))) ∧ ∀ n ∈ zs, (Lit.int k n).wf = true

noncomputable def fns : Go.Eng.Fns := ⟨14, 16, 31, 37, 40⟩
set_option maxRecDepth 100000 in
theorem r0_0 : Go.Eng.isTrue (Go.Eng.lintRun Try.prog Go.Eng.noSums fns 1000 60 3 .nil .neg) = true := by kernel_rfl
set_option maxRecDepth 100000 in
theorem r0_1 : Go.Eng.isTrue (Go.Eng.lintRun Try.prog Go.Eng.noSums fns 1000 60 3 .nil (.big 5)) = true := by kernel_rfl
set_option maxRecDepth 100000 in
theorem r0_2 : Go.Eng.isTrue (Go.Eng.lintRun Try.prog Go.Eng.noSums fns 1000 60 3 .nil (.is 0)) = true := by kernel_rfl
set_option maxRecDepth 100000 in
theorem r0_3 : Go.Eng.isTrue (Go.Eng.lintRun Try.prog Go.Eng.noSums fns 1000 60 3 .nil (.is 1)) = true := by kernel_rfl
set_option maxRecDepth 100000 in
theorem r0_4 : Go.Eng.isTrue (Go.Eng.lintRun Try.prog Go.Eng.noSums fns 1000 60 3 .nil (.is 2)) = true := by kernel_rfl
set_option maxRecDepth 100000 in
theorem r0_5 : Go.Eng.isTrue (Go.Eng.lintRun Try.prog Go.Eng.noSums fns 1000 60 3 .nil (.is 3)) = true := by kernel_rfl
set_option maxRecDepth 100000 in
theorem r0_6 : Go.Eng.isTrue (Go.Eng.lintRun Try.prog Go.Eng.noSums fns 1000 60 3 .nil (.is 4)) = true := by kernel_rfl
set_option maxRecDepth 100000 in
theorem r0_7 : Go.Eng.isTrue (Go.Eng.lintRun Try.prog Go.Eng.noSums fns 1000 60 3 .nil (.is 5)) = true := by kernel_rfl
theorem r0 : Go.Eng.AllL (fun c => Go.Eng.isTrue (Go.Eng.lintRun Try.prog Go.Eng.noSums fns 1000 60 3 .nil c) = true) (Go.Eng.iclasses 5) := ⟨r0_0, r0_1, r0_2, r0_3, r0_4, r0_5, r0_6, r0_7, trivial⟩
set_option maxRecDepth 100000 in
theorem r1_0 : Go.Eng.isTrue (Go.Eng.lintRun Try.prog Go.Eng.noSums fns 1000 60 3 .zero .neg) = true := by kernel_rfl
set_option maxRecDepth 100000 in
theorem r1_1 : Go.Eng.isTrue (Go.Eng.lintRun Try.prog Go.Eng.noSums fns 1000 60 3 .zero (.big 5)) = true := by kernel_rfl
set_option maxRecDepth 100000 in
theorem r1_2 : Go.Eng.isTrue (Go.Eng.lintRun Try.prog Go.Eng.noSums fns 1000 60 3 .zero (.is 0)) = true := by kernel_rfl
set_option maxRecDepth 100000 in
theorem r1_3 : Go.Eng.isTrue (Go.Eng.lintRun Try.prog Go.Eng.noSums fns 1000 60 3 .zero (.is 1)) = true := by kernel_rfl
set_option maxRecDepth 100000 in
theorem r1_4 : Go.Eng.isTrue (Go.Eng.lintRun Try.prog Go.Eng.noSums fns 1000 60 3 .zero (.is 2)) = true := by kernel_rfl
set_option maxRecDepth 100000 in
theorem r1_5 : Go.Eng.isTrue (Go.Eng.lintRun Try.prog Go.Eng.noSums fns 1000 60 3 .zero (.is 3)) = true := by kernel_rfl
set_option maxRecDepth 100000 in
theorem r1_6 : Go.Eng.isTrue (Go.Eng.lintRun Try.prog Go.Eng.noSums fns 1000 60 3 .zero (.is 4)) = true := by kernel_rfl
set_option maxRecDepth 100000 in
theorem r1_7 : Go.Eng.isTrue (Go.Eng.lintRun Try.prog Go.Eng.noSums fns 1000 60 3 .zero (.is 5)) = true := by kernel_rfl
theorem r1 : Go.Eng.AllL (fun c => Go.Eng.isTrue (Go.Eng.lintRun Try.prog Go.Eng.noSums fns 1000 60 3 .zero c) = true) (Go.Eng.iclasses 5) := ⟨r1_0, r1_1, r1_2, r1_3, r1_4, r1_5, r1_6, r1_7, trivial⟩
set_option maxRecDepth 100000 in
theorem r2_0 : Go.Eng.isTrue (Go.Eng.lintRun Try.prog Go.Eng.noSums fns 1000 60 3 .no .neg) = true := by kernel_rfl
set_option maxRecDepth 100000 in
theorem r2_1 : Go.Eng.isTrue (Go.Eng.lintRun Try.prog Go.Eng.noSums fns 1000 60 3 .no (.big 5)) = true := by kernel_rfl
set_option maxRecDepth 100000 in
theorem r2_2 : Go.Eng.isTrue (Go.Eng.lintRun Try.prog Go.Eng.noSums fns 1000 60 3 .no (.is 0)) = true := by kernel_rfl
set_option maxRecDepth 100000 in
theorem r2_3 : Go.Eng.isTrue (Go.Eng.lintRun Try.prog Go.Eng.noSums fns 1000 60 3 .no (.is 1)) = true := by kernel_rfl
set_option maxRecDepth 100000 in
theorem r2_4 : Go.Eng.isTrue (Go.Eng.lintRun Try.prog Go.Eng.noSums fns 1000 60 3 .no (.is 2)) = true := by kernel_rfl
set_option maxRecDepth 100000 in
theorem r2_5 : Go.Eng.isTrue (Go.Eng.lintRun Try.prog Go.Eng.noSums fns 1000 60 3 .no (.is 3)) = true := by kernel_rfl
set_option maxRecDepth 100000 in
theorem r2_6 : Go.Eng.isTrue (Go.Eng.lintRun Try.prog Go.Eng.noSums fns 1000 60 3 .no (.is 4)) = true := by kernel_rfl
set_option maxRecDepth 100000 in
theorem r2_7 : Go.Eng.isTrue (Go.Eng.lintRun Try.prog Go.Eng.noSums fns 1000 60 3 .no (.is 5)) = true := by kernel_rfl
theorem r2 : Go.Eng.AllL (fun c => Go.Eng.isTrue (Go.Eng.lintRun Try.prog Go.Eng.noSums fns 1000 60 3 .no c) = true) (Go.Eng.iclasses 5) := ⟨r2_0, r2_1, r2_2, r2_3, r2_4, r2_5, r2_6, r2_7, trivial⟩
set_option maxRecDepth 100000 in
theorem r3_0 : Go.Eng.isTrue (Go.Eng.lintRun Try.prog Go.Eng.noSums fns 1000 60 3 .long .neg) = true := by kernel_rfl
set_option maxRecDepth 100000 in
theorem r3_1 : Go.Eng.isTrue (Go.Eng.lintRun Try.prog Go.Eng.noSums fns 1000 60 3 .long (.big 5)) = true := by kernel_rfl
set_option maxRecDepth 100000 in
theorem r3_2 : Go.Eng.isTrue (Go.Eng.lintRun Try.prog Go.Eng.noSums fns 1000 60 3 .long (.is 0)) = true := by kernel_rfl
set_option maxRecDepth 100000 in
theorem r3_3 : Go.Eng.isTrue (Go.Eng.lintRun Try.prog Go.Eng.noSums fns 1000 60 3 .long (.is 1)) = true := by kernel_rfl
set_option maxRecDepth 100000 in
theorem r3_4 : Go.Eng.isTrue (Go.Eng.lintRun Try.prog Go.Eng.noSums fns 1000 60 3 .long (.is 2)) = true := by kernel_rfl
set_option maxRecDepth 100000 in
theorem r3_5 : Go.Eng.isTrue (Go.Eng.lintRun Try.prog Go.Eng.noSums fns 1000 60 3 .long (.is 3)) = true := by kernel_rfl
set_option maxRecDepth 100000 in
theorem r3_6 : Go.Eng.isTrue (Go.Eng.lintRun Try.prog Go.Eng.noSums fns 1000 60 3 .long (.is 4)) = true := by kernel_rfl
set_option maxRecDepth 100000 in
theorem r3_7 : Go.Eng.isTrue (Go.Eng.lintRun Try.prog Go.Eng.noSums fns 1000 60 3 .long (.is 5)) = true := by kernel_rfl
theorem r3 : Go.Eng.AllL (fun c => Go.Eng.isTrue (Go.Eng.lintRun Try.prog Go.Eng.noSums fns 1000 60 3 .long c) = true) (Go.Eng.iclasses 5) := ⟨r3_0, r3_1, r3_2, r3_3, r3_4, r3_5, r3_6, r3_7, trivial⟩
set_option maxRecDepth 100000 in
theorem r4_0 : Go.Eng.isTrue (Go.Eng.lintRun Try.prog Go.Eng.noSums fns 1000 60 3 (.row []) .neg) = true := by kernel_rfl
set_option maxRecDepth 100000 in
theorem r4_1 : Go.Eng.isTrue (Go.Eng.lintRun Try.prog Go.Eng.noSums fns 1000 60 3 (.row []) (.big 5)) = true := by kernel_rfl
set_option maxRecDepth 100000 in
theorem r4_2 : Go.Eng.isTrue (Go.Eng.lintRun Try.prog Go.Eng.noSums fns 1000 60 3 (.row []) (.is 0)) = true := by kernel_rfl
set_option maxRecDepth 100000 in
theorem r4_3 : Go.Eng.isTrue (Go.Eng.lintRun Try.prog Go.Eng.noSums fns 1000 60 3 (.row []) (.is 1)) = true := by kernel_rfl
set_option maxRecDepth 100000 in
theorem r4_4 : Go.Eng.isTrue (Go.Eng.lintRun Try.prog Go.Eng.noSums fns 1000 60 3 (.row []) (.is 2)) = true := by kernel_rfl
set_option maxRecDepth 100000 in
theorem r4_5 : Go.Eng.isTrue (Go.Eng.lintRun Try.prog Go.Eng.noSums fns 1000 60 3 (.row []) (.is 3)) = true := by kernel_rfl
set_option maxRecDepth 100000 in
theorem r4_6 : Go.Eng.isTrue (Go.Eng.lintRun Try.prog Go.Eng.noSums fns 1000 60 3 (.row []) (.is 4)) = true := by kernel_rfl
set_option maxRecDepth 100000 in
theorem r4_7 : Go.Eng.isTrue (Go.Eng.lintRun Try.prog Go.Eng.noSums fns 1000 60 3 (.row []) (.is 5)) = true := by kernel_rfl
theorem r4 : Go.Eng.AllL (fun c => Go.Eng.isTrue (Go.Eng.lintRun Try.prog Go.Eng.noSums fns 1000 60 3 (.row []) c) = true) (Go.Eng.iclasses 5) := ⟨r4_0, r4_1, r4_2, r4_3, r4_4, r4_5, r4_6, r4_7, trivial⟩
set_option maxRecDepth 100000 in
theorem r5_0 : Go.Eng.isTrue (Go.Eng.lintRun Try.prog Go.Eng.noSums fns 1000 60 3 (.row [1]) .neg) = true := by kernel_rfl
set_option maxRecDepth 100000 in
theorem r5_1 : Go.Eng.isTrue (Go.Eng.lintRun Try.prog Go.Eng.noSums fns 1000 60 3 (.row [1]) (.big 5)) = true := by kernel_rfl
set_option maxRecDepth 100000 in
theorem r5_2 : Go.Eng.isTrue (Go.Eng.lintRun Try.prog Go.Eng.noSums fns 1000 60 3 (.row [1]) (.is 0)) = true := by kernel_rfl
set_option maxRecDepth 100000 in
theorem r5_3 : Go.Eng.isTrue (Go.Eng.lintRun Try.prog Go.Eng.noSums fns 1000 60 3 (.row [1]) (.is 1)) = true := by kernel_rfl
set_option maxRecDepth 100000 in
theorem r5_4 : Go.Eng.isTrue (Go.Eng.lintRun Try.prog Go.Eng.noSums fns 1000 60 3 (.row [1]) (.is 2)) = true := by kernel_rfl
set_option maxRecDepth 100000 in
theorem r5_5 : Go.Eng.isTrue (Go.Eng.lintRun Try.prog Go.Eng.noSums fns 1000 60 3 (.row [1]) (.is 3)) = true := by kernel_rfl
set_option maxRecDepth 100000 in
theorem r5_6 : Go.Eng.isTrue (Go.Eng.lintRun Try.prog Go.Eng.noSums fns 1000 60 3 (.row [1]) (.is 4)) = true := by kernel_rfl
set_option maxRecDepth 100000 in
theorem r5_7 : Go.Eng.isTrue (Go.Eng.lintRun Try.prog Go.Eng.noSums fns 1000 60 3 (.row [1]) (.is 5)) = true := by kernel_rfl
theorem r5 : Go.Eng.AllL (fun c => Go.Eng.isTrue (Go.Eng.lintRun Try.prog Go.Eng.noSums fns 1000 60 3 (.row [1]) c) = true) (Go.Eng.iclasses 5) := ⟨r5_0, r5_1, r5_2, r5_3, r5_4, r5_5, r5_6, r5_7, trivial⟩
set_option maxRecDepth 100000 in
theorem r6_0 : Go.Eng.isTrue (Go.Eng.lintRun Try.prog Go.Eng.noSums fns 1000 60 3 (.row [1, 1]) .neg) = true := by kernel_rfl
set_option maxRecDepth 100000 in
theorem r6_1 : Go.Eng.isTrue (Go.Eng.lintRun Try.prog Go.Eng.noSums fns 1000 60 3 (.row [1, 1]) (.big 5)) = true := by kernel_rfl
set_option maxRecDepth 100000 in
theorem r6_2 : Go.Eng.isTrue (Go.Eng.lintRun Try.prog Go.Eng.noSums fns 1000 60 3 (.row [1, 1]) (.is 0)) = true := by kernel_rfl
set_option maxRecDepth 100000 in
theorem r6_3 : Go.Eng.isTrue (Go.Eng.lintRun Try.prog Go.Eng.noSums fns 1000 60 3 (.row [1, 1]) (.is 1)) = true := by kernel_rfl
set_option maxRecDepth 100000 in
theorem r6_4 : Go.Eng.isTrue (Go.Eng.lintRun Try.prog Go.Eng.noSums fns 1000 60 3 (.row [1, 1]) (.is 2)) = true := by kernel_rfl
set_option maxRecDepth 100000 in
theorem r6_5 : Go.Eng.isTrue (Go.Eng.lintRun Try.prog Go.Eng.noSums fns 1000 60 3 (.row [1, 1]) (.is 3)) = true := by kernel_rfl
set_option maxRecDepth 100000 in
theorem r6_6 : Go.Eng.isTrue (Go.Eng.lintRun Try.prog Go.Eng.noSums fns 1000 60 3 (.row [1, 1]) (.is 4)) = true := by kernel_rfl
set_option maxRecDepth 100000 in
theorem r6_7 : Go.Eng.isTrue (Go.Eng.lintRun Try.prog Go.Eng.noSums fns 1000 60 3 (.row [1, 1]) (.is 5)) = true := by kernel_rfl
theorem r6 : Go.Eng.AllL (fun c => Go.Eng.isTrue (Go.Eng.lintRun Try.prog Go.Eng.noSums fns 1000 60 3 (.row [1, 1]) c) = true) (Go.Eng.iclasses 5) := ⟨r6_0, r6_1, r6_2, r6_3, r6_4, r6_5, r6_6, r6_7, trivial⟩
set_option maxRecDepth 100000 in
theorem r7_0 : Go.Eng.isTrue (Go.Eng.lintRun Try.prog Go.Eng.noSums fns 1000 60 3 (.row [1, 1, 1]) .neg) = true := by kernel_rfl
set_option maxRecDepth 100000 in
theorem r7_1 : Go.Eng.isTrue (Go.Eng.lintRun Try.prog Go.Eng.noSums fns 1000 60 3 (.row [1, 1, 1]) (.big 5)) = true := by kernel_rfl
set_option maxRecDepth 100000 in
theorem r7_2 : Go.Eng.isTrue (Go.Eng.lintRun Try.prog Go.Eng.noSums fns 1000 60 3 (.row [1, 1, 1]) (.is 0)) = true := by kernel_rfl
set_option maxRecDepth 100000 in
theorem r7_3 : Go.Eng.isTrue (Go.Eng.lintRun Try.prog Go.Eng.noSums fns 1000 60 3 (.row [1, 1, 1]) (.is 1)) = true := by kernel_rfl
set_option maxRecDepth 100000 in
theorem r7_4 : Go.Eng.isTrue (Go.Eng.lintRun Try.prog Go.Eng.noSums fns 1000 60 3 (.row [1, 1, 1]) (.is 2)) = true := by kernel_rfl
set_option maxRecDepth 100000 in
theorem r7_5 : Go.Eng.isTrue (Go.Eng.lintRun Try.prog Go.Eng.noSums fns 1000 60 3 (.row [1, 1, 1]) (.is 3)) = true := by kernel_rfl
set_option maxRecDepth 100000 in
theorem r7_6 : Go.Eng.isTrue (Go.Eng.lintRun Try.prog Go.Eng.noSums fns 1000 60 3 (.row [1, 1, 1]) (.is 4)) = true := by kernel_rfl
set_option maxRecDepth 100000 in
theorem r7_7 : Go.Eng.isTrue (Go.Eng.lintRun Try.prog Go.Eng.noSums fns 1000 60 3 (.row [1, 1, 1]) (.is 5)) = true := by kernel_rfl
theorem r7 : Go.Eng.AllL (fun c => Go.Eng.isTrue (Go.Eng.lintRun Try.prog Go.Eng.noSums fns 1000 60 3 (.row [1, 1, 1]) c) = true) (Go.Eng.iclasses 5) := ⟨r7_0, r7_1, r7_2, r7_3, r7_4, r7_5, r7_6, r7_7, trivial⟩
set_option maxRecDepth 100000 in
theorem r8_0 : Go.Eng.isTrue (Go.Eng.lintRun Try.prog Go.Eng.noSums fns 1000 60 3 (.row [1, 1, 1, 1]) .neg) = true := by kernel_rfl
set_option maxRecDepth 100000 in
theorem r8_1 : Go.Eng.isTrue (Go.Eng.lintRun Try.prog Go.Eng.noSums fns 1000 60 3 (.row [1, 1, 1, 1]) (.big 5)) = true := by kernel_rfl
set_option maxRecDepth 100000 in
theorem r8_2 : Go.Eng.isTrue (Go.Eng.lintRun Try.prog Go.Eng.noSums fns 1000 60 3 (.row [1, 1, 1, 1]) (.is 0)) = true := by kernel_rfl
set_option maxRecDepth 100000 in
theorem r8_3 : Go.Eng.isTrue (Go.Eng.lintRun Try.prog Go.Eng.noSums fns 1000 60 3 (.row [1, 1, 1, 1]) (.is 1)) = true := by kernel_rfl
set_option maxRecDepth 100000 in
theorem r8_4 : Go.Eng.isTrue (Go.Eng.lintRun Try.prog Go.Eng.noSums fns 1000 60 3 (.row [1, 1, 1, 1]) (.is 2)) = true := by kernel_rfl
set_option maxRecDepth 100000 in
theorem r8_5 : Go.Eng.isTrue (Go.Eng.lintRun Try.prog Go.Eng.noSums fns 1000 60 3 (.row [1, 1, 1, 1]) (.is 3)) = true := by kernel_rfl
set_option maxRecDepth 100000 in
theorem r8_6 : Go.Eng.isTrue (Go.Eng.lintRun Try.prog Go.Eng.noSums fns 1000 60 3 (.row [1, 1, 1, 1]) (.is 4)) = true := by kernel_rfl
set_option maxRecDepth 100000 in
theorem r8_7 : Go.Eng.isTrue (Go.Eng.lintRun Try.prog Go.Eng.noSums fns 1000 60 3 (.row [1, 1, 1, 1]) (.is 5)) = true := by kernel_rfl
theorem r8 : Go.Eng.AllL (fun c => Go.Eng.isTrue (Go.Eng.lintRun Try.prog Go.Eng.noSums fns 1000 60 3 (.row [1, 1, 1, 1]) c) = true) (Go.Eng.iclasses 5) := ⟨r8_0, r8_1, r8_2, r8_3, r8_4, r8_5, r8_6, r8_7, trivial⟩
set_option maxRecDepth 100000 in
theorem r9_0 : Go.Eng.isTrue (Go.Eng.lintRun Try.prog Go.Eng.noSums fns 1000 60 3 (.row [1, 1, 1, 1, 1]) .neg) = true := by kernel_rfl
set_option maxRecDepth 100000 in
theorem r9_1 : Go.Eng.isTrue (Go.Eng.lintRun Try.prog Go.Eng.noSums fns 1000 60 3 (.row [1, 1, 1, 1, 1]) (.big 5)) = true := by kernel_rfl
set_option maxRecDepth 100000 in
theorem r9_2 : Go.Eng.isTrue (Go.Eng.lintRun Try.prog Go.Eng.noSums fns 1000 60 3 (.row [1, 1, 1, 1, 1]) (.is 0)) = true := by kernel_rfl
set_option maxRecDepth 100000 in
theorem r9_3 : Go.Eng.isTrue (Go.Eng.lintRun Try.prog Go.Eng.noSums fns 1000 60 3 (.row [1, 1, 1, 1, 1]) (.is 1)) = true := by kernel_rfl
set_option maxRecDepth 100000 in
theorem r9_4 : Go.Eng.isTrue (Go.Eng.lintRun Try.prog Go.Eng.noSums fns 1000 60 3 (.row [1, 1, 1, 1, 1]) (.is 2)) = true := by kernel_rfl
set_option maxRecDepth 100000 in
theorem r9_5 : Go.Eng.isTrue (Go.Eng.lintRun Try.prog Go.Eng.noSums fns 1000 60 3 (.row [1, 1, 1, 1, 1]) (.is 3)) = true := by kernel_rfl
set_option maxRecDepth 100000 in
theorem r9_6 : Go.Eng.isTrue (Go.Eng.lintRun Try.prog Go.Eng.noSums fns 1000 60 3 (.row [1, 1, 1, 1, 1]) (.is 4)) = true := by kernel_rfl
set_option maxRecDepth 100000 in
theorem r9_7 : Go.Eng.isTrue (Go.Eng.lintRun Try.prog Go.Eng.noSums fns 1000 60 3 (.row [1, 1, 1, 1, 1]) (.is 5)) = true := by kernel_rfl
theorem r9 : Go.Eng.AllL (fun c => Go.Eng.isTrue (Go.Eng.lintRun Try.prog Go.Eng.noSums fns 1000 60 3 (.row [1, 1, 1, 1, 1]) c) = true) (Go.Eng.iclasses 5) := ⟨r9_0, r9_1, r9_2, r9_3, r9_4, r9_5, r9_6, r9_7, trivial⟩
set_option maxRecDepth 100000 in
theorem r10_0 : Go.Eng.isTrue (Go.Eng.lintRun Try.prog Go.Eng.noSums fns 1000 60 3 (.row [1, 1, 1, 1, 1, 1]) .neg) = true := by kernel_rfl
set_option maxRecDepth 100000 in
theorem r10_1 : Go.Eng.isTrue (Go.Eng.lintRun Try.prog Go.Eng.noSums fns 1000 60 3 (.row [1, 1, 1, 1, 1, 1]) (.big 5)) = true := by kernel_rfl
set_option maxRecDepth 100000 in
theorem r10_2 : Go.Eng.isTrue (Go.Eng.lintRun Try.prog Go.Eng.noSums fns 1000 60 3 (.row [1, 1, 1, 1, 1, 1]) (.is 0)) = true := by kernel_rfl
set_option maxRecDepth 100000 in
theorem r10_3 : Go.Eng.isTrue (Go.Eng.lintRun Try.prog Go.Eng.noSums fns 1000 60 3 (.row [1, 1, 1, 1, 1, 1]) (.is 1)) = true := by kernel_rfl
set_option maxRecDepth 100000 in
theorem r10_4 : Go.Eng.isTrue (Go.Eng.lintRun Try.prog Go.Eng.noSums fns 1000 60 3 (.row [1, 1, 1, 1, 1, 1]) (.is 2)) = true := by kernel_rfl
set_option maxRecDepth 100000 in
theorem r10_5 : Go.Eng.isTrue (Go.Eng.lintRun Try.prog Go.Eng.noSums fns 1000 60 3 (.row [1, 1, 1, 1, 1, 1]) (.is 3)) = true := by kernel_rfl
set_option maxRecDepth 100000 in
theorem r10_6 : Go.Eng.isTrue (Go.Eng.lintRun Try.prog Go.Eng.noSums fns 1000 60 3 (.row [1, 1, 1, 1, 1, 1]) (.is 4)) = true := by kernel_rfl
set_option maxRecDepth 100000 in
theorem r10_7 : Go.Eng.isTrue (Go.Eng.lintRun Try.prog Go.Eng.noSums fns 1000 60 3 (.row [1, 1, 1, 1, 1, 1]) (.is 5)) = true := by kernel_rfl
theorem r10 : Go.Eng.AllL (fun c => Go.Eng.isTrue (Go.Eng.lintRun Try.prog Go.Eng.noSums fns 1000 60 3 (.row [1, 1, 1, 1, 1, 1]) c) = true) (Go.Eng.iclasses 5) := ⟨r10_0, r10_1, r10_2, r10_3, r10_4, r10_5, r10_6, r10_7, trivial⟩
set_option maxRecDepth 100000 in
theorem r11_0 : Go.Eng.isTrue (Go.Eng.lintRun Try.prog Go.Eng.noSums fns 1000 60 3 (.row [2]) .neg) = true := by kernel_rfl
set_option maxRecDepth 100000 in
theorem r11_1 : Go.Eng.isTrue (Go.Eng.lintRun Try.prog Go.Eng.noSums fns 1000 60 3 (.row [2]) (.big 5)) = true := by kernel_rfl
set_option maxRecDepth 100000 in
theorem r11_2 : Go.Eng.isTrue (Go.Eng.lintRun Try.prog Go.Eng.noSums fns 1000 60 3 (.row [2]) (.is 0)) = true := by kernel_rfl
set_option maxRecDepth 100000 in
theorem r11_3 : Go.Eng.isTrue (Go.Eng.lintRun Try.prog Go.Eng.noSums fns 1000 60 3 (.row [2]) (.is 1)) = true := by kernel_rfl
set_option maxRecDepth 100000 in
theorem r11_4 : Go.Eng.isTrue (Go.Eng.lintRun Try.prog Go.Eng.noSums fns 1000 60 3 (.row [2]) (.is 2)) = true := by kernel_rfl
set_option maxRecDepth 100000 in
theorem r11_5 : Go.Eng.isTrue (Go.Eng.lintRun Try.prog Go.Eng.noSums fns 1000 60 3 (.row [2]) (.is 3)) = true := by kernel_rfl
set_option maxRecDepth 100000 in
theorem r11_6 : Go.Eng.isTrue (Go.Eng.lintRun Try.prog Go.Eng.noSums fns 1000 60 3 (.row [2]) (.is 4)) = true := by kernel_rfl
set_option maxRecDepth 100000 in
theorem r11_7 : Go.Eng.isTrue (Go.Eng.lintRun Try.prog Go.Eng.noSums fns 1000 60 3 (.row [2]) (.is 5)) = true := by kernel_rfl
theorem r11 : Go.Eng.AllL (fun c => Go.Eng.isTrue (Go.Eng.lintRun Try.prog Go.Eng.noSums fns 1000 60 3 (.row [2]) c) = true) (Go.Eng.iclasses 5) := ⟨r11_0, r11_1, r11_2, r11_3, r11_4, r11_5, r11_6, r11_7, trivial⟩
set_option maxRecDepth 100000 in
theorem r12_0 : Go.Eng.isTrue (Go.Eng.lintRun Try.prog Go.Eng.noSums fns 1000 60 3 (.row [2, 1]) .neg) = true := by kernel_rfl
set_option maxRecDepth 100000 in
theorem r12_1 : Go.Eng.isTrue (Go.Eng.lintRun Try.prog Go.Eng.noSums fns 1000 60 3 (.row [2, 1]) (.big 5)) = true := by kernel_rfl
set_option maxRecDepth 100000 in
theorem r12_2 : Go.Eng.isTrue (Go.Eng.lintRun Try.prog Go.Eng.noSums fns 1000 60 3 (.row [2, 1]) (.is 0)) = true := by kernel_rfl
set_option maxRecDepth 100000 in
theorem r12_3 : Go.Eng.isTrue (Go.Eng.lintRun Try.prog Go.Eng.noSums fns 1000 60 3 (.row [2, 1]) (.is 1)) = true := by kernel_rfl
set_option maxRecDepth 100000 in
theorem r12_4 : Go.Eng.isTrue (Go.Eng.lintRun Try.prog Go.Eng.noSums fns 1000 60 3 (.row [2, 1]) (.is 2)) = true := by kernel_rfl
set_option maxRecDepth 100000 in
theorem r12_5 : Go.Eng.isTrue (Go.Eng.lintRun Try.prog Go.Eng.noSums fns 1000 60 3 (.row [2, 1]) (.is 3)) = true := by kernel_rfl
set_option maxRecDepth 100000 in
theorem r12_6 : Go.Eng.isTrue (Go.Eng.lintRun Try.prog Go.Eng.noSums fns 1000 60 3 (.row [2, 1]) (.is 4)) = true := by kernel_rfl
set_option maxRecDepth 100000 in
theorem r12_7 : Go.Eng.isTrue (Go.Eng.lintRun Try.prog Go.Eng.noSums fns 1000 60 3 (.row [2, 1]) (.is 5)) = true := by kernel_rfl
theorem r12 : Go.Eng.AllL (fun c => Go.Eng.isTrue (Go.Eng.lintRun Try.prog Go.Eng.noSums fns 1000 60 3 (.row [2, 1]) c) = true) (Go.Eng.iclasses 5) := ⟨r12_0, r12_1, r12_2, r12_3, r12_4, r12_5, r12_6, r12_7, trivial⟩
set_option maxRecDepth 100000 in
theorem r13_0 : Go.Eng.isTrue (Go.Eng.lintRun Try.prog Go.Eng.noSums fns 1000 60 3 (.row [2, 1, 1]) .neg) = true := by kernel_rfl
set_option maxRecDepth 100000 in
theorem r13_1 : Go.Eng.isTrue (Go.Eng.lintRun Try.prog Go.Eng.noSums fns 1000 60 3 (.row [2, 1, 1]) (.big 5)) = true := by kernel_rfl
set_option maxRecDepth 100000 in
theorem r13_2 : Go.Eng.isTrue (Go.Eng.lintRun Try.prog Go.Eng.noSums fns 1000 60 3 (.row [2, 1, 1]) (.is 0)) = true := by kernel_rfl
set_option maxRecDepth 100000 in
theorem r13_3 : Go.Eng.isTrue (Go.Eng.lintRun Try.prog Go.Eng.noSums fns 1000 60 3 (.row [2, 1, 1]) (.is 1)) = true := by kernel_rfl
set_option maxRecDepth 100000 in
theorem r13_4 : Go.Eng.isTrue (Go.Eng.lintRun Try.prog Go.Eng.noSums fns 1000 60 3 (.row [2, 1, 1]) (.is 2)) = true := by kernel_rfl
set_option maxRecDepth 100000 in
theorem r13_5 : Go.Eng.isTrue (Go.Eng.lintRun Try.prog Go.Eng.noSums fns 1000 60 3 (.row [2, 1, 1]) (.is 3)) = true := by kernel_rfl
set_option maxRecDepth 100000 in
theorem r13_6 : Go.Eng.isTrue (Go.Eng.lintRun Try.prog Go.Eng.noSums fns 1000 60 3 (.row [2, 1, 1]) (.is 4)) = true := by kernel_rfl
set_option maxRecDepth 100000 in
theorem r13_7 : Go.Eng.isTrue (Go.Eng.lintRun Try.prog Go.Eng.noSums fns 1000 60 3 (.row [2, 1, 1]) (.is 5)) = true := by kernel_rfl
theorem r13 : Go.Eng.AllL (fun c => Go.Eng.isTrue (Go.Eng.lintRun Try.prog Go.Eng.noSums fns 1000 60 3 (.row [2, 1, 1]) c) = true) (Go.Eng.iclasses 5) := ⟨r13_0, r13_1, r13_2, r13_3, r13_4, r13_5, r13_6, r13_7, trivial⟩
set_option maxRecDepth 100000 in
theorem r14_0 : Go.Eng.isTrue (Go.Eng.lintRun Try.prog Go.Eng.noSums fns 1000 60 3 (.row [2, 1, 1, 1]) .neg) = true := by kernel_rfl
set_option maxRecDepth 100000 in
theorem r14_1 : Go.Eng.isTrue (Go.Eng.lintRun Try.prog Go.Eng.noSums fns 1000 60 3 (.row [2, 1, 1, 1]) (.big 5)) = true := by kernel_rfl
set_option maxRecDepth 100000 in
theorem r14_2 : Go.Eng.isTrue (Go.Eng.lintRun Try.prog Go.Eng.noSums fns 1000 60 3 (.row [2, 1, 1, 1]) (.is 0)) = true := by kernel_rfl
set_option maxRecDepth 100000 in
theorem r14_3 : Go.Eng.isTrue (Go.Eng.lintRun Try.prog Go.Eng.noSums fns 1000 60 3 (.row [2, 1, 1, 1]) (.is 1)) = true := by kernel_rfl
set_option maxRecDepth 100000 in
theorem r14_4 : Go.Eng.isTrue (Go.Eng.lintRun Try.prog Go.Eng.noSums fns 1000 60 3 (.row [2, 1, 1, 1]) (.is 2)) = true := by kernel_rfl
set_option maxRecDepth 100000 in
theorem r14_5 : Go.Eng.isTrue (Go.Eng.lintRun Try.prog Go.Eng.noSums fns 1000 60 3 (.row [2, 1, 1, 1]) (.is 3)) = true := by kernel_rfl
set_option maxRecDepth 100000 in
theorem r14_6 : Go.Eng.isTrue (Go.Eng.lintRun Try.prog Go.Eng.noSums fns 1000 60 3 (.row [2, 1, 1, 1]) (.is 4)) = true := by kernel_rfl
set_option maxRecDepth 100000 in
theorem r14_7 : Go.Eng.isTrue (Go.Eng.lintRun Try.prog Go.Eng.noSums fns 1000 60 3 (.row [2, 1, 1, 1]) (.is 5)) = true := by kernel_rfl
theorem r14 : Go.Eng.AllL (fun c => Go.Eng.isTrue (Go.Eng.lintRun Try.prog Go.Eng.noSums fns 1000 60 3 (.row [2, 1, 1, 1]) c) = true) (Go.Eng.iclasses 5) := ⟨r14_0, r14_1, r14_2, r14_3, r14_4, r14_5, r14_6, r14_7, trivial⟩
set_option maxRecDepth 100000 in
theorem r15_0 : Go.Eng.isTrue (Go.Eng.lintRun Try.prog Go.Eng.noSums fns 1000 60 3 (.row [2, 1, 1, 1, 1]) .neg) = true := by kernel_rfl
set_option maxRecDepth 100000 in
theorem r15_1 : Go.Eng.isTrue (Go.Eng.lintRun Try.prog Go.Eng.noSums fns 1000 60 3 (.row [2, 1, 1, 1, 1]) (.big 5)) = true := by kernel_rfl
set_option maxRecDepth 100000 in
theorem r15_2 : Go.Eng.isTrue (Go.Eng.lintRun Try.prog Go.Eng.noSums fns 1000 60 3 (.row [2, 1, 1, 1, 1]) (.is 0)) = true := by kernel_rfl
set_option maxRecDepth 100000 in
theorem r15_3 : Go.Eng.isTrue (Go.Eng.lintRun Try.prog Go.Eng.noSums fns 1000 60 3 (.row [2, 1, 1, 1, 1]) (.is 1)) = true := by kernel_rfl
set_option maxRecDepth 100000 in
theorem r15_4 : Go.Eng.isTrue (Go.Eng.lintRun Try.prog Go.Eng.noSums fns 1000 60 3 (.row [2, 1, 1, 1, 1]) (.is 2)) = true := by kernel_rfl
set_option maxRecDepth 100000 in
theorem r15_5 : Go.Eng.isTrue (Go.Eng.lintRun Try.prog Go.Eng.noSums fns 1000 60 3 (.row [2, 1, 1, 1, 1]) (.is 3)) = true := by kernel_rfl
set_option maxRecDepth 100000 in
theorem r15_6 : Go.Eng.isTrue (Go.Eng.lintRun Try.prog Go.Eng.noSums fns 1000 60 3 (.row [2, 1, 1, 1, 1]) (.is 4)) = true := by kernel_rfl
set_option maxRecDepth 100000 in
theorem r15_7 : Go.Eng.isTrue (Go.Eng.lintRun Try.prog Go.Eng.noSums fns 1000 60 3 (.row [2, 1, 1, 1, 1]) (.is 5)) = true := by kernel_rfl
theorem r15 : Go.Eng.AllL (fun c => Go.Eng.isTrue (Go.Eng.lintRun Try.prog Go.Eng.noSums fns 1000 60 3 (.row [2, 1, 1, 1, 1]) c) = true) (Go.Eng.iclasses 5) := ⟨r15_0, r15_1, r15_2, r15_3, r15_4, r15_5, r15_6, r15_7, trivial⟩
set_option maxRecDepth 100000 in
theorem r16_0 : Go.Eng.isTrue (Go.Eng.lintRun Try.prog Go.Eng.noSums fns 1000 60 3 (.row [2, 2]) .neg) = true := by kernel_rfl
set_option maxRecDepth 100000 in
theorem r16_1 : Go.Eng.isTrue (Go.Eng.lintRun Try.prog Go.Eng.noSums fns 1000 60 3 (.row [2, 2]) (.big 5)) = true := by kernel_rfl
set_option maxRecDepth 100000 in
theorem r16_2 : Go.Eng.isTrue (Go.Eng.lintRun Try.prog Go.Eng.noSums fns 1000 60 3 (.row [2, 2]) (.is 0)) = true := by kernel_rfl
set_option maxRecDepth 100000 in
theorem r16_3 : Go.Eng.isTrue (Go.Eng.lintRun Try.prog Go.Eng.noSums fns 1000 60 3 (.row [2, 2]) (.is 1)) = true := by kernel_rfl
set_option maxRecDepth 100000 in
theorem r16_4 : Go.Eng.isTrue (Go.Eng.lintRun Try.prog Go.Eng.noSums fns 1000 60 3 (.row [2, 2]) (.is 2)) = true := by kernel_rfl
set_option maxRecDepth 100000 in
theorem r16_5 : Go.Eng.isTrue (Go.Eng.lintRun Try.prog Go.Eng.noSums fns 1000 60 3 (.row [2, 2]) (.is 3)) = true := by kernel_rfl
set_option maxRecDepth 100000 in
theorem r16_6 : Go.Eng.isTrue (Go.Eng.lintRun Try.prog Go.Eng.noSums fns 1000 60 3 (.row [2, 2]) (.is 4)) = true := by kernel_rfl
set_option maxRecDepth 100000 in
theorem r16_7 : Go.Eng.isTrue (Go.Eng.lintRun Try.prog Go.Eng.noSums fns 1000 60 3 (.row [2, 2]) (.is 5)) = true := by kernel_rfl
theorem r16 : Go.Eng.AllL (fun c => Go.Eng.isTrue (Go.Eng.lintRun Try.prog Go.Eng.noSums fns 1000 60 3 (.row [2, 2]) c) = true) (Go.Eng.iclasses 5) := ⟨r16_0, r16_1, r16_2, r16_3, r16_4, r16_5, r16_6, r16_7, trivial⟩
set_option maxRecDepth 100000 in
theorem r17_0 : Go.Eng.isTrue (Go.Eng.lintRun Try.prog Go.Eng.noSums fns 1000 60 3 (.row [2, 2, 1]) .neg) = true := by kernel_rfl
set_option maxRecDepth 100000 in
theorem r17_1 : Go.Eng.isTrue (Go.Eng.lintRun Try.prog Go.Eng.noSums fns 1000 60 3 (.row [2, 2, 1]) (.big 5)) = true := by kernel_rfl
set_option maxRecDepth 100000 in
theorem r17_2 : Go.Eng.isTrue (Go.Eng.lintRun Try.prog Go.Eng.noSums fns 1000 60 3 (.row [2, 2, 1]) (.is 0)) = true := by kernel_rfl
set_option maxRecDepth 100000 in
theorem r17_3 : Go.Eng.isTrue (Go.Eng.lintRun Try.prog Go.Eng.noSums fns 1000 60 3 (.row [2, 2, 1]) (.is 1)) = true := by kernel_rfl
set_option maxRecDepth 100000 in
theorem r17_4 : Go.Eng.isTrue (Go.Eng.lintRun Try.prog Go.Eng.noSums fns 1000 60 3 (.row [2, 2, 1]) (.is 2)) = true := by kernel_rfl
set_option maxRecDepth 100000 in
theorem r17_5 : Go.Eng.isTrue (Go.Eng.lintRun Try.prog Go.Eng.noSums fns 1000 60 3 (.row [2, 2, 1]) (.is 3)) = true := by kernel_rfl
set_option maxRecDepth 100000 in
theorem r17_6 : Go.Eng.isTrue (Go.Eng.lintRun Try.prog Go.Eng.noSums fns 1000 60 3 (.row [2, 2, 1]) (.is 4)) = true := by kernel_rfl
set_option maxRecDepth 100000 in
theorem r17_7 : Go.Eng.isTrue (Go.Eng.lintRun Try.prog Go.Eng.noSums fns 1000 60 3 (.row [2, 2, 1]) (.is 5)) = true := by kernel_rfl
theorem r17 : Go.Eng.AllL (fun c => Go.Eng.isTrue (Go.Eng.lintRun Try.prog Go.Eng.noSums fns 1000 60 3 (.row [2, 2, 1]) c) = true) (Go.Eng.iclasses 5) := ⟨r17_0, r17_1, r17_2, r17_3, r17_4, r17_5, r17_6, r17_7, trivial⟩
set_option maxRecDepth 100000 in
theorem r18_0 : Go.Eng.isTrue (Go.Eng.lintRun Try.prog Go.Eng.noSums fns 1000 60 3 (.row [2, 2, 1, 1]) .neg) = true := by kernel_rfl
set_option maxRecDepth 100000 in
theorem r18_1 : Go.Eng.isTrue (Go.Eng.lintRun Try.prog Go.Eng.noSums fns 1000 60 3 (.row [2, 2, 1, 1]) (.big 5)) = true := by kernel_rfl
set_option maxRecDepth 100000 in
theorem r18_2 : Go.Eng.isTrue (Go.Eng.lintRun Try.prog Go.Eng.noSums fns 1000 60 3 (.row [2, 2, 1, 1]) (.is 0)) = true := by kernel_rfl
set_option maxRecDepth 100000 in
theorem r18_3 : Go.Eng.isTrue (Go.Eng.lintRun Try.prog Go.Eng.noSums fns 1000 60 3 (.row [2, 2, 1, 1]) (.is 1)) = true := by kernel_rfl
set_option maxRecDepth 100000 in
theorem r18_4 : Go.Eng.isTrue (Go.Eng.lintRun Try.prog Go.Eng.noSums fns 1000 60 3 (.row [2, 2, 1, 1]) (.is 2)) = true := by kernel_rfl
set_option maxRecDepth 100000 in
theorem r18_5 : Go.Eng.isTrue (Go.Eng.lintRun Try.prog Go.Eng.noSums fns 1000 60 3 (.row [2, 2, 1, 1]) (.is 3)) = true := by kernel_rfl
set_option maxRecDepth 100000 in
theorem r18_6 : Go.Eng.isTrue (Go.Eng.lintRun Try.prog Go.Eng.noSums fns 1000 60 3 (.row [2, 2, 1, 1]) (.is 4)) = true := by kernel_rfl
set_option maxRecDepth 100000 in
theorem r18_7 : Go.Eng.isTrue (Go.Eng.lintRun Try.prog Go.Eng.noSums fns 1000 60 3 (.row [2, 2, 1, 1]) (.is 5)) = true := by kernel_rfl
theorem r18 : Go.Eng.AllL (fun c => Go.Eng.isTrue (Go.Eng.lintRun Try.prog Go.Eng.noSums fns 1000 60 3 (.row [2, 2, 1, 1]) c) = true) (Go.Eng.iclasses 5) := ⟨r18_0, r18_1, r18_2, r18_3, r18_4, r18_5, r18_6, r18_7, trivial⟩
set_option maxRecDepth 100000 in
theorem r19_0 : Go.Eng.isTrue (Go.Eng.lintRun Try.prog Go.Eng.noSums fns 1000 60 3 (.row [2, 2, 2]) .neg) = true := by kernel_rfl
set_option maxRecDepth 100000 in
theorem r19_1 : Go.Eng.isTrue (Go.Eng.lintRun Try.prog Go.Eng.noSums fns 1000 60 3 (.row [2, 2, 2]) (.big 5)) = true := by kernel_rfl
set_option maxRecDepth 100000 in
theorem r19_2 : Go.Eng.isTrue (Go.Eng.lintRun Try.prog Go.Eng.noSums fns 1000 60 3 (.row [2, 2, 2]) (.is 0)) = true := by kernel_rfl
set_option maxRecDepth 100000 in
theorem r19_3 : Go.Eng.isTrue (Go.Eng.lintRun Try.prog Go.Eng.noSums fns 1000 60 3 (.row [2, 2, 2]) (.is 1)) = true := by kernel_rfl
set_option maxRecDepth 100000 in
theorem r19_4 : Go.Eng.isTrue (Go.Eng.lintRun Try.prog Go.Eng.noSums fns 1000 60 3 (.row [2, 2, 2]) (.is 2)) = true := by kernel_rfl
set_option maxRecDepth 100000 in
theorem r19_5 : Go.Eng.isTrue (Go.Eng.lintRun Try.prog Go.Eng.noSums fns 1000 60 3 (.row [2, 2, 2]) (.is 3)) = true := by kernel_rfl
set_option maxRecDepth 100000 in
theorem r19_6 : Go.Eng.isTrue (Go.Eng.lintRun Try.prog Go.Eng.noSums fns 1000 60 3 (.row [2, 2, 2]) (.is 4)) = true := by kernel_rfl
set_option maxRecDepth 100000 in
theorem r19_7 : Go.Eng.isTrue (Go.Eng.lintRun Try.prog Go.Eng.noSums fns 1000 60 3 (.row [2, 2, 2]) (.is 5)) = true := by kernel_rfl
theorem r19 : Go.Eng.AllL (fun c => Go.Eng.isTrue (Go.Eng.lintRun Try.prog Go.Eng.noSums fns 1000 60 3 (.row [2, 2, 2]) c) = true) (Go.Eng.iclasses 5) := ⟨r19_0, r19_1, r19_2, r19_3, r19_4, r19_5, r19_6, r19_7, trivial⟩
set_option maxRecDepth 100000 in
theorem r20_0 : Go.Eng.isTrue (Go.Eng.lintRun Try.prog Go.Eng.noSums fns 1000 60 3 (.row [3]) .neg) = true := by kernel_rfl
set_option maxRecDepth 100000 in
theorem r20_1 : Go.Eng.isTrue (Go.Eng.lintRun Try.prog Go.Eng.noSums fns 1000 60 3 (.row [3]) (.big 5)) = true := by kernel_rfl
set_option maxRecDepth 100000 in
theorem r20_2 : Go.Eng.isTrue (Go.Eng.lintRun Try.prog Go.Eng.noSums fns 1000 60 3 (.row [3]) (.is 0)) = true := by kernel_rfl
set_option maxRecDepth 100000 in
theorem r20_3 : Go.Eng.isTrue (Go.Eng.lintRun Try.prog Go.Eng.noSums fns 1000 60 3 (.row [3]) (.is 1)) = true := by kernel_rfl
set_option maxRecDepth 100000 in
theorem r20_4 : Go.Eng.isTrue (Go.Eng.lintRun Try.prog Go.Eng.noSums fns 1000 60 3 (.row [3]) (.is 2)) = true := by kernel_rfl
set_option maxRecDepth 100000 in
theorem r20_5 : Go.Eng.isTrue (Go.Eng.lintRun Try.prog Go.Eng.noSums fns 1000 60 3 (.row [3]) (.is 3)) = true := by kernel_rfl
set_option maxRecDepth 100000 in
theorem r20_6 : Go.Eng.isTrue (Go.Eng.lintRun Try.prog Go.Eng.noSums fns 1000 60 3 (.row [3]) (.is 4)) = true := by kernel_rfl
set_option maxRecDepth 100000 in
theorem r20_7 : Go.Eng.isTrue (Go.Eng.lintRun Try.prog Go.Eng.noSums fns 1000 60 3 (.row [3]) (.is 5)) = true := by kernel_rfl
theorem r20 : Go.Eng.AllL (fun c => Go.Eng.isTrue (Go.Eng.lintRun Try.prog Go.Eng.noSums fns 1000 60 3 (.row [3]) c) = true) (Go.Eng.iclasses 5) := ⟨r20_0, r20_1, r20_2, r20_3, r20_4, r20_5, r20_6, r20_7, trivial⟩
set_option maxRecDepth 100000 in
theorem r21_0 : Go.Eng.isTrue (Go.Eng.lintRun Try.prog Go.Eng.noSums fns 1000 60 3 (.row [3, 1]) .neg) = true := by kernel_rfl
set_option maxRecDepth 100000 in
theorem r21_1 : Go.Eng.isTrue (Go.Eng.lintRun Try.prog Go.Eng.noSums fns 1000 60 3 (.row [3, 1]) (.big 5)) = true := by kernel_rfl
set_option maxRecDepth 100000 in
theorem r21_2 : Go.Eng.isTrue (Go.Eng.lintRun Try.prog Go.Eng.noSums fns 1000 60 3 (.row [3, 1]) (.is 0)) = true := by kernel_rfl
set_option maxRecDepth 100000 in
theorem r21_3 : Go.Eng.isTrue (Go.Eng.lintRun Try.prog Go.Eng.noSums fns 1000 60 3 (.row [3, 1]) (.is 1)) = true := by kernel_rfl
set_option maxRecDepth 100000 in
theorem r21_4 : Go.Eng.isTrue (Go.Eng.lintRun Try.prog Go.Eng.noSums fns 1000 60 3 (.row [3, 1]) (.is 2)) = true := by kernel_rfl
set_option maxRecDepth 100000 in
theorem r21_5 : Go.Eng.isTrue (Go.Eng.lintRun Try.prog Go.Eng.noSums fns 1000 60 3 (.row [3, 1]) (.is 3)) = true := by kernel_rfl
set_option maxRecDepth 100000 in
theorem r21_6 : Go.Eng.isTrue (Go.Eng.lintRun Try.prog Go.Eng.noSums fns 1000 60 3 (.row [3, 1]) (.is 4)) = true := by kernel_rfl
set_option maxRecDepth 100000 in
theorem r21_7 : Go.Eng.isTrue (Go.Eng.lintRun Try.prog Go.Eng.noSums fns 1000 60 3 (.row [3, 1]) (.is 5)) = true := by kernel_rfl
theorem r21 : Go.Eng.AllL (fun c => Go.Eng.isTrue (Go.Eng.lintRun Try.prog Go.Eng.noSums fns 1000 60 3 (.row [3, 1]) c) = true) (Go.Eng.iclasses 5) := ⟨r21_0, r21_1, r21_2, r21_3, r21_4, r21_5, r21_6, r21_7, trivial⟩
set_option maxRecDepth 100000 in
theorem r22_0 : Go.Eng.isTrue (Go.Eng.lintRun Try.prog Go.Eng.noSums fns 1000 60 3 (.row [3, 1, 1]) .neg) = true := by kernel_rfl
set_option maxRecDepth 100000 in
theorem r22_1 : Go.Eng.isTrue (Go.Eng.lintRun Try.prog Go.Eng.noSums fns 1000 60 3 (.row [3, 1, 1]) (.big 5)) = true := by kernel_rfl
set_option maxRecDepth 100000 in
theorem r22_2 : Go.Eng.isTrue (Go.Eng.lintRun Try.prog Go.Eng.noSums fns 1000 60 3 (.row [3, 1, 1]) (.is 0)) = true := by kernel_rfl
set_option maxRecDepth 100000 in
theorem r22_3 : Go.Eng.isTrue (Go.Eng.lintRun Try.prog Go.Eng.noSums fns 1000 60 3 (.row [3, 1, 1]) (.is 1)) = true := by kernel_rfl
set_option maxRecDepth 100000 in
theorem r22_4 : Go.Eng.isTrue (Go.Eng.lintRun Try.prog Go.Eng.noSums fns 1000 60 3 (.row [3, 1, 1]) (.is 2)) = true := by kernel_rfl
set_option maxRecDepth 100000 in
theorem r22_5 : Go.Eng.isTrue (Go.Eng.lintRun Try.prog Go.Eng.noSums fns 1000 60 3 (.row [3, 1, 1]) (.is 3)) = true := by kernel_rfl
set_option maxRecDepth 100000 in
theorem r22_6 : Go.Eng.isTrue (Go.Eng.lintRun Try.prog Go.Eng.noSums fns 1000 60 3 (.row [3, 1, 1]) (.is 4)) = true := by kernel_rfl
set_option maxRecDepth 100000 in
theorem r22_7 : Go.Eng.isTrue (Go.Eng.lintRun Try.prog Go.Eng.noSums fns 1000 60 3 (.row [3, 1, 1]) (.is 5)) = true := by kernel_rfl
theorem r22 : Go.Eng.AllL (fun c => Go.Eng.isTrue (Go.Eng.lintRun Try.prog Go.Eng.noSums fns 1000 60 3 (.row [3, 1, 1]) c) = true) (Go.Eng.iclasses 5) := ⟨r22_0, r22_1, r22_2, r22_3, r22_4, r22_5, r22_6, r22_7, trivial⟩
set_option maxRecDepth 100000 in
theorem r23_0 : Go.Eng.isTrue (Go.Eng.lintRun Try.prog Go.Eng.noSums fns 1000 60 3 (.row [3, 1, 1, 1]) .neg) = true := by kernel_rfl
set_option maxRecDepth 100000 in
theorem r23_1 : Go.Eng.isTrue (Go.Eng.lintRun Try.prog Go.Eng.noSums fns 1000 60 3 (.row [3, 1, 1, 1]) (.big 5)) = true := by kernel_rfl
set_option maxRecDepth 100000 in
theorem r23_2 : Go.Eng.isTrue (Go.Eng.lintRun Try.prog Go.Eng.noSums fns 1000 60 3 (.row [3, 1, 1, 1]) (.is 0)) = true := by kernel_rfl
set_option maxRecDepth 100000 in
theorem r23_3 : Go.Eng.isTrue (Go.Eng.lintRun Try.prog Go.Eng.noSums fns 1000 60 3 (.row [3, 1, 1, 1]) (.is 1)) = true := by kernel_rfl
set_option maxRecDepth 100000 in
theorem r23_4 : Go.Eng.isTrue (Go.Eng.lintRun Try.prog Go.Eng.noSums fns 1000 60 3 (.row [3, 1, 1, 1]) (.is 2)) = true := by kernel_rfl
set_option maxRecDepth 100000 in
theorem r23_5 : Go.Eng.isTrue (Go.Eng.lintRun Try.prog Go.Eng.noSums fns 1000 60 3 (.row [3, 1, 1, 1]) (.is 3)) = true := by kernel_rfl
set_option maxRecDepth 100000 in
theorem r23_6 : Go.Eng.isTrue (Go.Eng.lintRun Try.prog Go.Eng.noSums fns 1000 60 3 (.row [3, 1, 1, 1]) (.is 4)) = true := by kernel_rfl
set_option maxRecDepth 100000 in
theorem r23_7 : Go.Eng.isTrue (Go.Eng.lintRun Try.prog Go.Eng.noSums fns 1000 60 3 (.row [3, 1, 1, 1]) (.is 5)) = true := by kernel_rfl
theorem r23 : Go.Eng.AllL (fun c => Go.Eng.isTrue (Go.Eng.lintRun Try.prog Go.Eng.noSums fns 1000 60 3 (.row [3, 1, 1, 1]) c) = true) (Go.Eng.iclasses 5) := ⟨r23_0, r23_1, r23_2, r23_3, r23_4, r23_5, r23_6, r23_7, trivial⟩
set_option maxRecDepth 100000 in
theorem r24_0 : Go.Eng.isTrue (Go.Eng.lintRun Try.prog Go.Eng.noSums fns 1000 60 3 (.row [3, 2]) .neg) = true := by kernel_rfl
set_option maxRecDepth 100000 in
theorem r24_1 : Go.Eng.isTrue (Go.Eng.lintRun Try.prog Go.Eng.noSums fns 1000 60 3 (.row [3, 2]) (.big 5)) = true := by kernel_rfl
set_option maxRecDepth 100000 in
theorem r24_2 : Go.Eng.isTrue (Go.Eng.lintRun Try.prog Go.Eng.noSums fns 1000 60 3 (.row [3, 2]) (.is 0)) = true := by kernel_rfl
set_option maxRecDepth 100000 in
theorem r24_3 : Go.Eng.isTrue (Go.Eng.lintRun Try.prog Go.Eng.noSums fns 1000 60 3 (.row [3, 2]) (.is 1)) = true := by kernel_rfl
set_option maxRecDepth 100000 in
theorem r24_4 : Go.Eng.isTrue (Go.Eng.lintRun Try.prog Go.Eng.noSums fns 1000 60 3 (.row [3, 2]) (.is 2)) = true := by kernel_rfl
set_option maxRecDepth 100000 in
theorem r24_5 : Go.Eng.isTrue (Go.Eng.lintRun Try.prog Go.Eng.noSums fns 1000 60 3 (.row [3, 2]) (.is 3)) = true := by kernel_rfl
set_option maxRecDepth 100000 in
theorem r24_6 : Go.Eng.isTrue (Go.Eng.lintRun Try.prog Go.Eng.noSums fns 1000 60 3 (.row [3, 2]) (.is 4)) = true := by kernel_rfl
set_option maxRecDepth 100000 in
theorem r24_7 : Go.Eng.isTrue (Go.Eng.lintRun Try.prog Go.Eng.noSums fns 1000 60 3 (.row [3, 2]) (.is 5)) = true := by kernel_rfl
theorem r24 : Go.Eng.AllL (fun c => Go.Eng.isTrue (Go.Eng.lintRun Try.prog Go.Eng.noSums fns 1000 60 3 (.row [3, 2]) c) = true) (Go.Eng.iclasses 5) := ⟨r24_0, r24_1, r24_2, r24_3, r24_4, r24_5, r24_6, r24_7, trivial⟩
set_option maxRecDepth 100000 in
theorem r25_0 : Go.Eng.isTrue (Go.Eng.lintRun Try.prog Go.Eng.noSums fns 1000 60 3 (.row [3, 2, 1]) .neg) = true := by kernel_rfl
set_option maxRecDepth 100000 in
theorem r25_1 : Go.Eng.isTrue (Go.Eng.lintRun Try.prog Go.Eng.noSums fns 1000 60 3 (.row [3, 2, 1]) (.big 5)) = true := by kernel_rfl
set_option maxRecDepth 100000 in
theorem r25_2 : Go.Eng.isTrue (Go.Eng.lintRun Try.prog Go.Eng.noSums fns 1000 60 3 (.row [3, 2, 1]) (.is 0)) = true := by kernel_rfl
set_option maxRecDepth 100000 in
theorem r25_3 : Go.Eng.isTrue (Go.Eng.lintRun Try.prog Go.Eng.noSums fns 1000 60 3 (.row [3, 2, 1]) (.is 1)) = true := by kernel_rfl
set_option maxRecDepth 100000 in
theorem r25_4 : Go.Eng.isTrue (Go.Eng.lintRun Try.prog Go.Eng.noSums fns 1000 60 3 (.row [3, 2, 1]) (.is 2)) = true := by kernel_rfl
set_option maxRecDepth 100000 in
theorem r25_5 : Go.Eng.isTrue (Go.Eng.lintRun Try.prog Go.Eng.noSums fns 1000 60 3 (.row [3, 2, 1]) (.is 3)) = true := by kernel_rfl
set_option maxRecDepth 100000 in
theorem r25_6 : Go.Eng.isTrue (Go.Eng.lintRun Try.prog Go.Eng.noSums fns 1000 60 3 (.row [3, 2, 1]) (.is 4)) = true := by kernel_rfl
set_option maxRecDepth 100000 in
theorem r25_7 : Go.Eng.isTrue (Go.Eng.lintRun Try.prog Go.Eng.noSums fns 1000 60 3 (.row [3, 2, 1]) (.is 5)) = true := by kernel_rfl
theorem r25 : Go.Eng.AllL (fun c => Go.Eng.isTrue (Go.Eng.lintRun Try.prog Go.Eng.noSums fns 1000 60 3 (.row [3, 2, 1]) c) = true) (Go.Eng.iclasses 5) := ⟨r25_0, r25_1, r25_2, r25_3, r25_4, r25_5, r25_6, r25_7, trivial⟩
set_option maxRecDepth 100000 in
theorem r26_0 : Go.Eng.isTrue (Go.Eng.lintRun Try.prog Go.Eng.noSums fns 1000 60 3 (.row [3, 3]) .neg) = true := by kernel_rfl
set_option maxRecDepth 100000 in
theorem r26_1 : Go.Eng.isTrue (Go.Eng.lintRun Try.prog Go.Eng.noSums fns 1000 60 3 (.row [3, 3]) (.big 5)) = true := by kernel_rfl
set_option maxRecDepth 100000 in
theorem r26_2 : Go.Eng.isTrue (Go.Eng.lintRun Try.prog Go.Eng.noSums fns 1000 60 3 (.row [3, 3]) (.is 0)) = true := by kernel_rfl
set_option maxRecDepth 100000 in
theorem r26_3 : Go.Eng.isTrue (Go.Eng.lintRun Try.prog Go.Eng.noSums fns 1000 60 3 (.row [3, 3]) (.is 1)) = true := by kernel_rfl
set_option maxRecDepth 100000 in
theorem r26_4 : Go.Eng.isTrue (Go.Eng.lintRun Try.prog Go.Eng.noSums fns 1000 60 3 (.row [3, 3]) (.is 2)) = true := by kernel_rfl
set_option maxRecDepth 100000 in
theorem r26_5 : Go.Eng.isTrue (Go.Eng.lintRun Try.prog Go.Eng.noSums fns 1000 60 3 (.row [3, 3]) (.is 3)) = true := by kernel_rfl
set_option maxRecDepth 100000 in
theorem r26_6 : Go.Eng.isTrue (Go.Eng.lintRun Try.prog Go.Eng.noSums fns 1000 60 3 (.row [3, 3]) (.is 4)) = true := by kernel_rfl
set_option maxRecDepth 100000 in
theorem r26_7 : Go.Eng.isTrue (Go.Eng.lintRun Try.prog Go.Eng.noSums fns 1000 60 3 (.row [3, 3]) (.is 5)) = true := by kernel_rfl
theorem r26 : Go.Eng.AllL (fun c => Go.Eng.isTrue (Go.Eng.lintRun Try.prog Go.Eng.noSums fns 1000 60 3 (.row [3, 3]) c) = true) (Go.Eng.iclasses 5) := ⟨r26_0, r26_1, r26_2, r26_3, r26_4, r26_5, r26_6, r26_7, trivial⟩
set_option maxRecDepth 100000 in
theorem r27_0 : Go.Eng.isTrue (Go.Eng.lintRun Try.prog Go.Eng.noSums fns 1000 60 3 (.row [4]) .neg) = true := by kernel_rfl
set_option maxRecDepth 100000 in
theorem r27_1 : Go.Eng.isTrue (Go.Eng.lintRun Try.prog Go.Eng.noSums fns 1000 60 3 (.row [4]) (.big 5)) = true := by kernel_rfl
set_option maxRecDepth 100000 in
theorem r27_2 : Go.Eng.isTrue (Go.Eng.lintRun Try.prog Go.Eng.noSums fns 1000 60 3 (.row [4]) (.is 0)) = true := by kernel_rfl
set_option maxRecDepth 100000 in
theorem r27_3 : Go.Eng.isTrue (Go.Eng.lintRun Try.prog Go.Eng.noSums fns 1000 60 3 (.row [4]) (.is 1)) = true := by kernel_rfl
set_option maxRecDepth 100000 in
theorem r27_4 : Go.Eng.isTrue (Go.Eng.lintRun Try.prog Go.Eng.noSums fns 1000 60 3 (.row [4]) (.is 2)) = true := by kernel_rfl
set_option maxRecDepth 100000 in
theorem r27_5 : Go.Eng.isTrue (Go.Eng.lintRun Try.prog Go.Eng.noSums fns 1000 60 3 (.row [4]) (.is 3)) = true := by kernel_rfl
set_option maxRecDepth 100000 in
theorem r27_6 : Go.Eng.isTrue (Go.Eng.lintRun Try.prog Go.Eng.noSums fns 1000 60 3 (.row [4]) (.is 4)) = true := by kernel_rfl
set_option maxRecDepth 100000 in
theorem r27_7 : Go.Eng.isTrue (Go.Eng.lintRun Try.prog Go.Eng.noSums fns 1000 60 3 (.row [4]) (.is 5)) = true := by kernel_rfl
theorem r27 : Go.Eng.AllL (fun c => Go.Eng.isTrue (Go.Eng.lintRun Try.prog Go.Eng.noSums fns 1000 60 3 (.row [4]) c) = true) (Go.Eng.iclasses 5) := ⟨r27_0, r27_1, r27_2, r27_3, r27_4, r27_5, r27_6, r27_7, trivial⟩
set_option maxRecDepth 100000 in
theorem r28_0 : Go.Eng.isTrue (Go.Eng.lintRun Try.prog Go.Eng.noSums fns 1000 60 3 (.row [4, 1]) .neg) = true := by kernel_rfl
set_option maxRecDepth 100000 in
theorem r28_1 : Go.Eng.isTrue (Go.Eng.lintRun Try.prog Go.Eng.noSums fns 1000 60 3 (.row [4, 1]) (.big 5)) = true := by kernel_rfl
set_option maxRecDepth 100000 in
theorem r28_2 : Go.Eng.isTrue (Go.Eng.lintRun Try.prog Go.Eng.noSums fns 1000 60 3 (.row [4, 1]) (.is 0)) = true := by kernel_rfl
set_option maxRecDepth 100000 in
theorem r28_3 : Go.Eng.isTrue (Go.Eng.lintRun Try.prog Go.Eng.noSums fns 1000 60 3 (.row [4, 1]) (.is 1)) = true := by kernel_rfl
set_option maxRecDepth 100000 in
theorem r28_4 : Go.Eng.isTrue (Go.Eng.lintRun Try.prog Go.Eng.noSums fns 1000 60 3 (.row [4, 1]) (.is 2)) = true := by kernel_rfl
set_option maxRecDepth 100000 in
theorem r28_5 : Go.Eng.isTrue (Go.Eng.lintRun Try.prog Go.Eng.noSums fns 1000 60 3 (.row [4, 1]) (.is 3)) = true := by kernel_rfl
set_option maxRecDepth 100000 in
theorem r28_6 : Go.Eng.isTrue (Go.Eng.lintRun Try.prog Go.Eng.noSums fns 1000 60 3 (.row [4, 1]) (.is 4)) = true := by kernel_rfl
set_option maxRecDepth 100000 in
theorem r28_7 : Go.Eng.isTrue (Go.Eng.lintRun Try.prog Go.Eng.noSums fns 1000 60 3 (.row [4, 1]) (.is 5)) = true := by kernel_rfl
theorem r28 : Go.Eng.AllL (fun c => Go.Eng.isTrue (Go.Eng.lintRun Try.prog Go.Eng.noSums fns 1000 60 3 (.row [4, 1]) c) = true) (Go.Eng.iclasses 5) := ⟨r28_0, r28_1, r28_2, r28_3, r28_4, r28_5, r28_6, r28_7, trivial⟩
set_option maxRecDepth 100000 in
theorem r29_0 : Go.Eng.isTrue (Go.Eng.lintRun Try.prog Go.Eng.noSums fns 1000 60 3 (.row [4, 1, 1]) .neg) = true := by kernel_rfl
set_option maxRecDepth 100000 in
theorem r29_1 : Go.Eng.isTrue (Go.Eng.lintRun Try.prog Go.Eng.noSums fns 1000 60 3 (.row [4, 1, 1]) (.big 5)) = true := by kernel_rfl
set_option maxRecDepth 100000 in
theorem r29_2 : Go.Eng.isTrue (Go.Eng.lintRun Try.prog Go.Eng.noSums fns 1000 60 3 (.row [4, 1, 1]) (.is 0)) = true := by kernel_rfl
set_option maxRecDepth 100000 in
theorem r29_3 : Go.Eng.isTrue (Go.Eng.lintRun Try.prog Go.Eng.noSums fns 1000 60 3 (.row [4, 1, 1]) (.is 1)) = true := by kernel_rfl
set_option maxRecDepth 100000 in
theorem r29_4 : Go.Eng.isTrue (Go.Eng.lintRun Try.prog Go.Eng.noSums fns 1000 60 3 (.row [4, 1, 1]) (.is 2)) = true := by kernel_rfl
set_option maxRecDepth 100000 in
theorem r29_5 : Go.Eng.isTrue (Go.Eng.lintRun Try.prog Go.Eng.noSums fns 1000 60 3 (.row [4, 1, 1]) (.is 3)) = true := by kernel_rfl
set_option maxRecDepth 100000 in
theorem r29_6 : Go.Eng.isTrue (Go.Eng.lintRun Try.prog Go.Eng.noSums fns 1000 60 3 (.row [4, 1, 1]) (.is 4)) = true := by kernel_rfl
set_option maxRecDepth 100000 in
theorem r29_7 : Go.Eng.isTrue (Go.Eng.lintRun Try.prog Go.Eng.noSums fns 1000 60 3 (.row [4, 1, 1]) (.is 5)) = true := by kernel_rfl
theorem r29 : Go.Eng.AllL (fun c => Go.Eng.isTrue (Go.Eng.lintRun Try.prog Go.Eng.noSums fns 1000 60 3 (.row [4, 1, 1]) c) = true) (Go.Eng.iclasses 5) := ⟨r29_0, r29_1, r29_2, r29_3, r29_4, r29_5, r29_6, r29_7, trivial⟩
set_option maxRecDepth 100000 in
theorem r30_0 : Go.Eng.isTrue (Go.Eng.lintRun Try.prog Go.Eng.noSums fns 1000 60 3 (.row [4, 2]) .neg) = true := by kernel_rfl
set_option maxRecDepth 100000 in
theorem r30_1 : Go.Eng.isTrue (Go.Eng.lintRun Try.prog Go.Eng.noSums fns 1000 60 3 (.row [4, 2]) (.big 5)) = true := by kernel_rfl
set_option maxRecDepth 100000 in
theorem r30_2 : Go.Eng.isTrue (Go.Eng.lintRun Try.prog Go.Eng.noSums fns 1000 60 3 (.row [4, 2]) (.is 0)) = true := by kernel_rfl
set_option maxRecDepth 100000 in
theorem r30_3 : Go.Eng.isTrue (Go.Eng.lintRun Try.prog Go.Eng.noSums fns 1000 60 3 (.row [4, 2]) (.is 1)) = true := by kernel_rfl
set_option maxRecDepth 100000 in
theorem r30_4 : Go.Eng.isTrue (Go.Eng.lintRun Try.prog Go.Eng.noSums fns 1000 60 3 (.row [4, 2]) (.is 2)) = true := by kernel_rfl
set_option maxRecDepth 100000 in
theorem r30_5 : Go.Eng.isTrue (Go.Eng.lintRun Try.prog Go.Eng.noSums fns 1000 60 3 (.row [4, 2]) (.is 3)) = true := by kernel_rfl
set_option maxRecDepth 100000 in
theorem r30_6 : Go.Eng.isTrue (Go.Eng.lintRun Try.prog Go.Eng.noSums fns 1000 60 3 (.row [4, 2]) (.is 4)) = true := by kernel_rfl
set_option maxRecDepth 100000 in
theorem r30_7 : Go.Eng.isTrue (Go.Eng.lintRun Try.prog Go.Eng.noSums fns 1000 60 3 (.row [4, 2]) (.is 5)) = true := by kernel_rfl
theorem r30 : Go.Eng.AllL (fun c => Go.Eng.isTrue (Go.Eng.lintRun Try.prog Go.Eng.noSums fns 1000 60 3 (.row [4, 2]) c) = true) (Go.Eng.iclasses 5) := ⟨r30_0, r30_1, r30_2, r30_3, r30_4, r30_5, r30_6, r30_7, trivial⟩
set_option maxRecDepth 100000 in
theorem r31_0 : Go.Eng.isTrue (Go.Eng.lintRun Try.prog Go.Eng.noSums fns 1000 60 3 (.row [5]) .neg) = true := by kernel_rfl
set_option maxRecDepth 100000 in
theorem r31_1 : Go.Eng.isTrue (Go.Eng.lintRun Try.prog Go.Eng.noSums fns 1000 60 3 (.row [5]) (.big 5)) = true := by kernel_rfl
set_option maxRecDepth 100000 in
theorem r31_2 : Go.Eng.isTrue (Go.Eng.lintRun Try.prog Go.Eng.noSums fns 1000 60 3 (.row [5]) (.is 0)) = true := by kernel_rfl
set_option maxRecDepth 100000 in
theorem r31_3 : Go.Eng.isTrue (Go.Eng.lintRun Try.prog Go.Eng.noSums fns 1000 60 3 (.row [5]) (.is 1)) = true := by kernel_rfl
set_option maxRecDepth 100000 in
theorem r31_4 : Go.Eng.isTrue (Go.Eng.lintRun Try.prog Go.Eng.noSums fns 1000 60 3 (.row [5]) (.is 2)) = true := by kernel_rfl
set_option maxRecDepth 100000 in
theorem r31_5 : Go.Eng.isTrue (Go.Eng.lintRun Try.prog Go.Eng.noSums fns 1000 60 3 (.row [5]) (.is 3)) = true := by kernel_rfl
set_option maxRecDepth 100000 in
theorem r31_6 : Go.Eng.isTrue (Go.Eng.lintRun Try.prog Go.Eng.noSums fns 1000 60 3 (.row [5]) (.is 4)) = true := by kernel_rfl
set_option maxRecDepth 100000 in
theorem r31_7 : Go.Eng.isTrue (Go.Eng.lintRun Try.prog Go.Eng.noSums fns 1000 60 3 (.row [5]) (.is 5)) = true := by kernel_rfl
theorem r31 : Go.Eng.AllL (fun c => Go.Eng.isTrue (Go.Eng.lintRun Try.prog Go.Eng.noSums fns 1000 60 3 (.row [5]) c) = true) (Go.Eng.iclasses 5) := ⟨r31_0, r31_1, r31_2, r31_3, r31_4, r31_5, r31_6, r31_7, trivial⟩
set_option maxRecDepth 100000 in
theorem r32_0 : Go.Eng.isTrue (Go.Eng.lintRun Try.prog Go.Eng.noSums fns 1000 60 3 (.row [5, 1]) .neg) = true := by kernel_rfl
set_option maxRecDepth 100000 in
theorem r32_1 : Go.Eng.isTrue (Go.Eng.lintRun Try.prog Go.Eng.noSums fns 1000 60 3 (.row [5, 1]) (.big 5)) = true := by kernel_rfl
set_option maxRecDepth 100000 in
theorem r32_2 : Go.Eng.isTrue (Go.Eng.lintRun Try.prog Go.Eng.noSums fns 1000 60 3 (.row [5, 1]) (.is 0)) = true := by kernel_rfl
set_option maxRecDepth 100000 in
theorem r32_3 : Go.Eng.isTrue (Go.Eng.lintRun Try.prog Go.Eng.noSums fns 1000 60 3 (.row [5, 1]) (.is 1)) = true := by kernel_rfl
set_option maxRecDepth 100000 in
theorem r32_4 : Go.Eng.isTrue (Go.Eng.lintRun Try.prog Go.Eng.noSums fns 1000 60 3 (.row [5, 1]) (.is 2)) = true := by kernel_rfl
set_option maxRecDepth 100000 in
theorem r32_5 : Go.Eng.isTrue (Go.Eng.lintRun Try.prog Go.Eng.noSums fns 1000 60 3 (.row [5, 1]) (.is 3)) = true := by kernel_rfl
set_option maxRecDepth 100000 in
theorem r32_6 : Go.Eng.isTrue (Go.Eng.lintRun Try.prog Go.Eng.noSums fns 1000 60 3 (.row [5, 1]) (.is 4)) = true := by kernel_rfl
set_option maxRecDepth 100000 in
theorem r32_7 : Go.Eng.isTrue (Go.Eng.lintRun Try.prog Go.Eng.noSums fns 1000 60 3 (.row [5, 1]) (.is 5)) = true := by kernel_rfl
theorem r32 : Go.Eng.AllL (fun c => Go.Eng.isTrue (Go.Eng.lintRun Try.prog Go.Eng.noSums fns 1000 60 3 (.row [5, 1]) c) = true) (Go.Eng.iclasses 5) := ⟨r32_0, r32_1, r32_2, r32_3, r32_4, r32_5, r32_6, r32_7, trivial⟩
set_option maxRecDepth 100000 in
theorem r33_0 : Go.Eng.isTrue (Go.Eng.lintRun Try.prog Go.Eng.noSums fns 1000 60 3 (.row [6]) .neg) = true := by kernel_rfl
set_option maxRecDepth 100000 in
theorem r33_1 : Go.Eng.isTrue (Go.Eng.lintRun Try.prog Go.Eng.noSums fns 1000 60 3 (.row [6]) (.big 5)) = true := by kernel_rfl
set_option maxRecDepth 100000 in
theorem r33_2 : Go.Eng.isTrue (Go.Eng.lintRun Try.prog Go.Eng.noSums fns 1000 60 3 (.row [6]) (.is 0)) = true := by kernel_rfl
set_option maxRecDepth 100000 in
theorem r33_3 : Go.Eng.isTrue (Go.Eng.lintRun Try.prog Go.Eng.noSums fns 1000 60 3 (.row [6]) (.is 1)) = true := by kernel_rfl
set_option maxRecDepth 100000 in
theorem r33_4 : Go.Eng.isTrue (Go.Eng.lintRun Try.prog Go.Eng.noSums fns 1000 60 3 (.row [6]) (.is 2)) = true := by kernel_rfl
set_option maxRecDepth 100000 in
theorem r33_5 : Go.Eng.isTrue (Go.Eng.lintRun Try.prog Go.Eng.noSums fns 1000 60 3 (.row [6]) (.is 3)) = true := by kernel_rfl
set_option maxRecDepth 100000 in
theorem r33_6 : Go.Eng.isTrue (Go.Eng.lintRun Try.prog Go.Eng.noSums fns 1000 60 3 (.row [6]) (.is 4)) = true := by kernel_rfl
set_option maxRecDepth 100000 in
theorem r33_7 : Go.Eng.isTrue (Go.Eng.lintRun Try.prog Go.Eng.noSums fns 1000 60 3 (.row [6]) (.is 5)) = true := by kernel_rfl
theorem r33 : Go.Eng.AllL (fun c => Go.Eng.isTrue (Go.Eng.lintRun Try.prog Go.Eng.noSums fns 1000 60 3 (.row [6]) c) = true) (Go.Eng.iclasses 5) := ⟨r33_0, r33_1, r33_2, r33_3, r33_4, r33_5, r33_6, r33_7, trivial⟩
theorem rows : Go.Eng.AllL (fun c1 => Go.Eng.AllL (fun c2 => Go.Eng.isTrue (Go.Eng.lintRun Try.prog Go.Eng.noSums fns 1000 60 3 c1 c2) = true) (Go.Eng.iclasses 5)) Go.Eng.classes := by
  have h : Go.Eng.classes = .nil :: .zero :: .no :: .long :: (List.map Go.Eng.Cls.row [[], [1], [1, 1], [1, 1, 1], [1, 1, 1, 1], [1, 1, 1, 1, 1], [1, 1, 1, 1, 1, 1], [2], [2, 1], [2, 1, 1], [2, 1, 1, 1], [2, 1, 1, 1, 1], [2, 2], [2, 2, 1], [2, 2, 1, 1], [2, 2, 2], [3], [3, 1], [3, 1, 1], [3, 1, 1, 1], [3, 2], [3, 2, 1], [3, 3], [4], [4, 1], [4, 1, 1], [4, 2], [5], [5, 1], [6]]) := by unfold Go.Eng.classes; rw [Go.Eng.shares_eq]
  suffices h2 : Go.Eng.AllL (fun c1 => Go.Eng.AllL (fun c2 => Go.Eng.isTrue (Go.Eng.lintRun Try.prog Go.Eng.noSums fns 1000 60 3 c1 c2) = true) (Go.Eng.iclasses 5)) (.nil :: .zero :: .no :: .long :: (List.map Go.Eng.Cls.row [[], [1], [1, 1], [1, 1, 1], [1, 1, 1, 1], [1, 1, 1, 1, 1], [1, 1, 1, 1, 1, 1], [2], [2, 1], [2, 1, 1], [2, 1, 1, 1], [2, 1, 1, 1, 1], [2, 2], [2, 2, 1], [2, 2, 1, 1], [2, 2, 2], [3], [3, 1], [3, 1, 1], [3, 1, 1, 1], [3, 2], [3, 2, 1], [3, 3], [4], [4, 1], [4, 1, 1], [4, 2], [5], [5, 1], [6]])) by
    rw [← h] at h2; exact h2
  exact ⟨r0, r1, r2, r3, r4, r5, r6, r7, r8, r9, r10, r11, r12, r13, r14, r15, r16, r17, r18, r19, r20, r21, r22, r23, r24, r25, r26, r27, r28, r29, r30, r31, r32, r33, trivial⟩
/-! ### STEP 1: THE WALK: the Go text returns true, AND WRITES NOTHING THAT WAS THERE: 'Below w.heap.size w w'' (Derived/Below.lean: '.refl', '.alloc', '.drew', '.setCell' at a new block, '.trans'). Open each 'IsRow' by 'rcases' AHEAD of 'go_enter'; part every test ahead of the walk. -/
theorem walk (a0 : Option Addr) (len0 cap0 : Nat) (z0 : List Int) (a1 : Int) (w : World) (w0 : IsRow .i64 w a0 len0 cap0 z0) (w1 : (Lit.int .i64 a1).wf = true) :
    Calls Try.prog 3 #[.slice a0 len0 cap0, .int .i64 a1] w fun e w' => e = .returned (.bool true) ∧ Below w.heap.size w w' := by
  exact Go.Eng.lint_walk (Go.Eng.noSums_always _) (m := 5) (by decide) list.listK w0 w1 rows

/-! ### THE ROW's STEP: WRITTEN OUT: LEAVE IT -/
set_option maxRecDepth 100000 in
theorem lifted (os : Os) (started : os.Started) (H : Type) (enc : TypeId × Value → H) :
    ReturnsInHanded {} Try.checked os 3 .any (Rows.fnExactMeanTermsSpec.pre6 enc Try.prog Try.f3 Rows.fnExactMeanTermsRow.domain false) (Rows.fnExactMeanTermsSpec.post enc Try.prog Try.f3 false true false false) := by
  refine returnsInHanded_of_change (C := Try.checked) own started (by kernel_rfl) Try.func3
    (ChangeSpec.witness6 (enc := enc) (C := Try.checked) false ⟨#[], #[.slice none 0 0, .int .i64 0], []⟩ 8 (by kernel_rfl) (by kernel_rfl) (by kernel_rfl) (by kernel_rfl)) ?_
  intro W base args ds gs before hval0 hW hcnd _
  have hval : ∀ (j : Nat) t v, Try.f3.params[j]? = some t → args[j]? = some v → Value.okWide Try.prog W .any base t v := hval0
  have hW' := hW
  obtain ⟨p, q, hA0, hV, rfl, hfz, hnd⟩ := hW
  have hA : DataW.TrodAll enc Try.prog W 0 (fun _ => true) true Try.f3.params.toList args.toList ds p := hA0
  rw [Try.params3] at hA hval
  obtain ⟨v0, vs0, d0, ds0, p0, q0, hargs, rfl, rfl, h0, r0⟩ := trodAll_cons hA
  obtain ⟨v1, vs1, d1, ds1, p1, q1, rfl, rfl, rfl, h1, r1⟩ := trodAll_cons r0
  obtain ⟨rfl, rfl, rfl⟩ := trodAll_nil r1
  obtain rfl : args = #[v0, v1] := by cases args; simp_all
  obtain ⟨rfl, rfl⟩ := trodVars_none hV
  obtain ⟨a0, len0, cap0, rfl⟩ := okWide_slice Try.underlying22 (hval 0 22 v0 rfl rfl)
  have k0 := h0
  have lt0 : ∀ x ∈ p0, x.block < W.heap.size := by obtain ⟨m, hm⟩ := k0; exact DataW.trod_lt m _ _ _ hm
  obtain ⟨z0, w0⟩ : ∃ zs, IsRow .i64 W a0 len0 cap0 zs := by
    obtain ⟨fuel, hf⟩ := h0
    rcases open_ints Try.underlying22 Try.underlying3 (by kernel_rfl) hf with ⟨hcs, _⟩ | ⟨x, l, c, zs, hcs, _, hl, hm, hz, _, hcell, hwz⟩
    · simp [Value.cells] at hcs
      obtain ⟨rfl, rfl, rfl⟩ := hcs
      exact ⟨[], .inl ⟨rfl, rfl, rfl, rfl⟩⟩
    · simp [Value.cells] at hcs
      obtain ⟨rfl, rfl, rfl⟩ := hcs
      exact ⟨zs, .inr ⟨_, rfl, hl, hm, by simpa using hz, hcell, hwz⟩⟩
  obtain ⟨a1, rfl, rfl, rfl, w1⟩ := open_int Try.underlying3 (hval 1 3 v1 rfl rfl) h1
  clear hA0 hval0
  refine (walk a0 len0 cap0 z0 a1 W w0 w1).mono fun e W' ⟨he, bel⟩ => ?_
  subst he
  exact ⟨_, rfl, _, _, _, [], _, [], hW', trodAll_mk1 (shut_bool Try.underlying4 _), (trodAll_cons_mk (Below.trod laidOut (by kernel_rfl) (of_decide_eq_true (by kernel_rfl)) k0 bel lt0) (trodAll_cons_mk (shut_int Try.underlying3 w1) trodAll_mk0)), rfl, bel.frame _, fun h => by cases h⟩

theorem over : Rows.fnExactMeanTermsRow.holds Try.pinned (OpenSpec.ofChange Rows.fnExactMeanTermsSpec) :=
  OpenClaim.holds_of_wide 3 Try.f3 rfl rfl rfl rfl rfl rfl rfl ⟨rfl, rfl, rfl, rfl, rfl⟩ rfl rfl rfl rfl rfl (by kernel_rfl) Try.func3 (by kernel_rfl)
    (of_decide_eq_true (by kernel_rfl)) (by unfold Func.isWrapper; first | (rw [if_pos (by decide +kernel)]; kernel_rfl) | (rw [if_neg (by decide +kernel)]; exact ⟨rfl, rfl⟩))
    (fun os started H enc _ => lifted os started H enc)

/-- ████ THE STATEMENT ████ -/
theorem proved : Rows.FnExactMeanTermsSaid := over
#print axioms proved
end Go.Proofs.Ytnglbchhlpbgkaa.fnExactMeanTerms
