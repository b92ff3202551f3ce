/- The law FnJoin holds for every code: what it draws is the same by the program and by the model. No condition. -/
import Derived.Test.YtnablcacdfebfaaRows
import Derived.WalkKit
import Derived.ProofKit
import Derived.OpenShut
import Derived.ShutString
import Derived.ChangeOld
import Derived.Below
import Derived.Test.YtnablcacdfebfaaDraw
import Derived.Test.YtnablcacdfebfaaLen
namespace Go.Proofs.Ytnablcacdfebfaa.fnJoin
open Go.ChangeShapes Go.WideShapes Go.ChangeAt Go.RowKit
open Go.ChangeMaps (open_string shut_string)
set_option linter.unusedVariables false

theorem own : ownKnob Try.prog.godebug = none := by kernel_rfl
theorem laidOut : laidOutB Try.prog = true := by kernel_rfl

/-- WHAT THE WALK IS TOLD OF A SLICE OF INTEGERS THAT CAME IN: it is nil; or it leads to a row of 'cap' cells, the numbers 'zs' (the first 'len' are its elements, the rest its spare room), each fitting its kind. -/
def IsRow (k : IntKind) (w : World) (a : Option Addr) (len cap : Nat) (zs : List Int) : Prop :=
  (a = none ∧ len = 0 ∧ cap = 0 ∧ zs = []) ∨
  ∃ x, a = some x ∧ len ≤ cap ∧ cap ≤ maxLen ∧ zs.length = cap ∧ (∀ i, i < zs.length → w.cell? (x.add i) = some (.int k (zs.getD i 0))) ∧ ∀ n ∈ zs, (Lit.int k n).wf = true

set_option maxRecDepth 100000 in
theorem eNil : Go.Eng.isTrue (Go.Eng.nilRun Try.prog (Go.Eng.lenS 106) 61 62 1000 60 8) = true := by kernel_rfl
set_option maxRecDepth 100000 in
theorem eZero : Go.Eng.isTrue (Go.Eng.zeroRun Try.prog (Go.Eng.lenS 106) 61 62 1000 60 8) = true := by kernel_rfl
set_option maxRecDepth 100000 in
theorem eEmpty : Go.Eng.isTrue (Go.Eng.emptyRun Try.prog (Go.Eng.lenS 106) 61 62 1000 60 8) = true := by kernel_rfl
set_option maxRecDepth 100000 in
theorem eLong : Go.Eng.isTrue (Go.Eng.longRun Try.prog (Go.Eng.lenS 106) 61 62 1000 60 8) = true := by kernel_rfl
set_option maxRecDepth 100000 in
theorem t0_0 : Go.Eng.chkT (Go.Eng.codeRun Try.prog (Go.Eng.lenS 106) 61 62 1000 60 8) 400 [(12292, 0, 0), (5, 0, 0)] = true := by kernel_rfl
set_option maxRecDepth 100000 in
theorem t0_1 : Go.Eng.chkT (Go.Eng.codeRun Try.prog (Go.Eng.lenS 106) 61 62 1000 60 8) 400 [(12292, 1, 1), (5, 0, 0)] = true := by kernel_rfl
set_option maxRecDepth 100000 in
theorem t0_2_0 : Go.Eng.chkT (Go.Eng.codeRun Try.prog (Go.Eng.lenS 106) 61 62 1000 60 8) 400 [(16386, 0, 0), (12292, 2, 2), (5, 0, 0)] = true := by kernel_rfl
set_option maxRecDepth 100000 in
theorem t0_2_1 : Go.Eng.chkT (Go.Eng.codeRun Try.prog (Go.Eng.lenS 106) 61 62 1000 60 8) 400 [(16386, 1, 1), (12292, 2, 2), (5, 0, 0)] = true := by kernel_rfl
theorem n0_2 : Go.Eng.Covers (Go.Eng.codeRun Try.prog (Go.Eng.lenS 106) 61 62 1000 60 8) [(12292, 2, 2), (5, 0, 0)] := Go.Eng.Covers.part 16386 (by kernel_rfl) fun v hv => by
  have h : v = 0 ∨ v = 1 := by omega
  rcases h with rfl | rfl
  · exact .of 400 t0_2_0
  · exact .of 400 t0_2_1
set_option maxRecDepth 100000 in
theorem t0_3_0 : Go.Eng.chkT (Go.Eng.codeRun Try.prog (Go.Eng.lenS 106) 61 62 1000 60 8) 400 [(16387, 0, 0), (12292, 3, 3), (5, 0, 0)] = true := by kernel_rfl
set_option maxRecDepth 100000 in
theorem t0_3_1 : Go.Eng.chkT (Go.Eng.codeRun Try.prog (Go.Eng.lenS 106) 61 62 1000 60 8) 400 [(16387, 1, 1), (12292, 3, 3), (5, 0, 0)] = true := by kernel_rfl
set_option maxRecDepth 100000 in
theorem t0_3_2 : Go.Eng.chkT (Go.Eng.codeRun Try.prog (Go.Eng.lenS 106) 61 62 1000 60 8) 400 [(16387, 2, 2), (12292, 3, 3), (5, 0, 0)] = true := by kernel_rfl
theorem n0_3 : Go.Eng.Covers (Go.Eng.codeRun Try.prog (Go.Eng.lenS 106) 61 62 1000 60 8) [(12292, 3, 3), (5, 0, 0)] := Go.Eng.Covers.part 16387 (by kernel_rfl) fun v hv => by
  have h : v = 0 ∨ v = 1 ∨ v = 2 := by omega
  rcases h with rfl | rfl | rfl
  · exact .of 400 t0_3_0
  · exact .of 400 t0_3_1
  · exact .of 400 t0_3_2
theorem n0 : Go.Eng.Covers (Go.Eng.codeRun Try.prog (Go.Eng.lenS 106) 61 62 1000 60 8) [(5, 0, 0)] := Go.Eng.Covers.part 12292 (by kernel_rfl) fun v hv => by
  have h : v = 0 ∨ v = 1 ∨ v = 2 ∨ v = 3 := by omega
  rcases h with rfl | rfl | rfl | rfl
  · exact .of 400 t0_0
  · exact .of 400 t0_1
  · exact n0_2
  · exact n0_3
set_option maxRecDepth 100000 in
theorem t1_0 : Go.Eng.chkT (Go.Eng.codeRun Try.prog (Go.Eng.lenS 106) 61 62 1000 60 8) 400 [(12292, 0, 0), (5, 1, 1)] = true := by kernel_rfl
set_option maxRecDepth 100000 in
theorem t1_1 : Go.Eng.chkT (Go.Eng.codeRun Try.prog (Go.Eng.lenS 106) 61 62 1000 60 8) 400 [(12292, 1, 1), (5, 1, 1)] = true := by kernel_rfl
set_option maxRecDepth 100000 in
theorem t1_2_0 : Go.Eng.chkT (Go.Eng.codeRun Try.prog (Go.Eng.lenS 106) 61 62 1000 60 8) 400 [(16386, 0, 0), (12292, 2, 2), (5, 1, 1)] = true := by kernel_rfl
set_option maxRecDepth 100000 in
theorem t1_2_1 : Go.Eng.chkT (Go.Eng.codeRun Try.prog (Go.Eng.lenS 106) 61 62 1000 60 8) 400 [(16386, 1, 1), (12292, 2, 2), (5, 1, 1)] = true := by kernel_rfl
theorem n1_2 : Go.Eng.Covers (Go.Eng.codeRun Try.prog (Go.Eng.lenS 106) 61 62 1000 60 8) [(12292, 2, 2), (5, 1, 1)] := Go.Eng.Covers.part 16386 (by kernel_rfl) fun v hv => by
  have h : v = 0 ∨ v = 1 := by omega
  rcases h with rfl | rfl
  · exact .of 400 t1_2_0
  · exact .of 400 t1_2_1
set_option maxRecDepth 100000 in
theorem t1_3_0 : Go.Eng.chkT (Go.Eng.codeRun Try.prog (Go.Eng.lenS 106) 61 62 1000 60 8) 400 [(16387, 0, 0), (12292, 3, 3), (5, 1, 1)] = true := by kernel_rfl
set_option maxRecDepth 100000 in
theorem t1_3_1 : Go.Eng.chkT (Go.Eng.codeRun Try.prog (Go.Eng.lenS 106) 61 62 1000 60 8) 400 [(16387, 1, 1), (12292, 3, 3), (5, 1, 1)] = true := by kernel_rfl
set_option maxRecDepth 100000 in
theorem t1_3_2 : Go.Eng.chkT (Go.Eng.codeRun Try.prog (Go.Eng.lenS 106) 61 62 1000 60 8) 400 [(16387, 2, 2), (12292, 3, 3), (5, 1, 1)] = true := by kernel_rfl
theorem n1_3 : Go.Eng.Covers (Go.Eng.codeRun Try.prog (Go.Eng.lenS 106) 61 62 1000 60 8) [(12292, 3, 3), (5, 1, 1)] := Go.Eng.Covers.part 16387 (by kernel_rfl) fun v hv => by
  have h : v = 0 ∨ v = 1 ∨ v = 2 := by omega
  rcases h with rfl | rfl | rfl
  · exact .of 400 t1_3_0
  · exact .of 400 t1_3_1
  · exact .of 400 t1_3_2
theorem n1 : Go.Eng.Covers (Go.Eng.codeRun Try.prog (Go.Eng.lenS 106) 61 62 1000 60 8) [(5, 1, 1)] := Go.Eng.Covers.part 12292 (by kernel_rfl) fun v hv => by
  have h : v = 0 ∨ v = 1 ∨ v = 2 ∨ v = 3 := by omega
  rcases h with rfl | rfl | rfl | rfl
  · exact .of 400 t1_0
  · exact .of 400 t1_1
  · exact n1_2
  · exact n1_3
set_option maxRecDepth 100000 in
theorem t2_0_0 : Go.Eng.chkT (Go.Eng.codeRun Try.prog (Go.Eng.lenS 106) 61 62 1000 60 8) 400 [(12292, 0, 0), (4098, 0, 0), (5, 2, 2)] = true := by kernel_rfl
set_option maxRecDepth 100000 in
theorem t2_0_1 : Go.Eng.chkT (Go.Eng.codeRun Try.prog (Go.Eng.lenS 106) 61 62 1000 60 8) 400 [(12292, 1, 1), (4098, 0, 0), (5, 2, 2)] = true := by kernel_rfl
set_option maxRecDepth 100000 in
theorem t2_0_2_0 : Go.Eng.chkT (Go.Eng.codeRun Try.prog (Go.Eng.lenS 106) 61 62 1000 60 8) 400 [(16386, 0, 0), (12292, 2, 2), (4098, 0, 0), (5, 2, 2)] = true := by kernel_rfl
set_option maxRecDepth 100000 in
theorem t2_0_2_1 : Go.Eng.chkT (Go.Eng.codeRun Try.prog (Go.Eng.lenS 106) 61 62 1000 60 8) 400 [(16386, 1, 1), (12292, 2, 2), (4098, 0, 0), (5, 2, 2)] = true := by kernel_rfl
theorem n2_0_2 : Go.Eng.Covers (Go.Eng.codeRun Try.prog (Go.Eng.lenS 106) 61 62 1000 60 8) [(12292, 2, 2), (4098, 0, 0), (5, 2, 2)] := Go.Eng.Covers.part 16386 (by kernel_rfl) fun v hv => by
  have h : v = 0 ∨ v = 1 := by omega
  rcases h with rfl | rfl
  · exact .of 400 t2_0_2_0
  · exact .of 400 t2_0_2_1
set_option maxRecDepth 100000 in
theorem t2_0_3_0 : Go.Eng.chkT (Go.Eng.codeRun Try.prog (Go.Eng.lenS 106) 61 62 1000 60 8) 400 [(16387, 0, 0), (12292, 3, 3), (4098, 0, 0), (5, 2, 2)] = true := by kernel_rfl
set_option maxRecDepth 100000 in
theorem t2_0_3_1 : Go.Eng.chkT (Go.Eng.codeRun Try.prog (Go.Eng.lenS 106) 61 62 1000 60 8) 400 [(16387, 1, 1), (12292, 3, 3), (4098, 0, 0), (5, 2, 2)] = true := by kernel_rfl
set_option maxRecDepth 100000 in
theorem t2_0_3_2 : Go.Eng.chkT (Go.Eng.codeRun Try.prog (Go.Eng.lenS 106) 61 62 1000 60 8) 400 [(16387, 2, 2), (12292, 3, 3), (4098, 0, 0), (5, 2, 2)] = true := by kernel_rfl
theorem n2_0_3 : Go.Eng.Covers (Go.Eng.codeRun Try.prog (Go.Eng.lenS 106) 61 62 1000 60 8) [(12292, 3, 3), (4098, 0, 0), (5, 2, 2)] := Go.Eng.Covers.part 16387 (by kernel_rfl) fun v hv => by
  have h : v = 0 ∨ v = 1 ∨ v = 2 := by omega
  rcases h with rfl | rfl | rfl
  · exact .of 400 t2_0_3_0
  · exact .of 400 t2_0_3_1
  · exact .of 400 t2_0_3_2
theorem n2_0 : Go.Eng.Covers (Go.Eng.codeRun Try.prog (Go.Eng.lenS 106) 61 62 1000 60 8) [(4098, 0, 0), (5, 2, 2)] := Go.Eng.Covers.part 12292 (by kernel_rfl) fun v hv => by
  have h : v = 0 ∨ v = 1 ∨ v = 2 ∨ v = 3 := by omega
  rcases h with rfl | rfl | rfl | rfl
  · exact .of 400 t2_0_0
  · exact .of 400 t2_0_1
  · exact n2_0_2
  · exact n2_0_3
set_option maxRecDepth 100000 in
theorem t2_1_0 : Go.Eng.chkT (Go.Eng.codeRun Try.prog (Go.Eng.lenS 106) 61 62 1000 60 8) 400 [(12292, 0, 0), (4098, 1, 1), (5, 2, 2)] = true := by kernel_rfl
set_option maxRecDepth 100000 in
theorem t2_1_1 : Go.Eng.chkT (Go.Eng.codeRun Try.prog (Go.Eng.lenS 106) 61 62 1000 60 8) 400 [(12292, 1, 1), (4098, 1, 1), (5, 2, 2)] = true := by kernel_rfl
set_option maxRecDepth 100000 in
theorem t2_1_2_0 : Go.Eng.chkT (Go.Eng.codeRun Try.prog (Go.Eng.lenS 106) 61 62 1000 60 8) 400 [(16386, 0, 0), (12292, 2, 2), (4098, 1, 1), (5, 2, 2)] = true := by kernel_rfl
set_option maxRecDepth 100000 in
theorem t2_1_2_1 : Go.Eng.chkT (Go.Eng.codeRun Try.prog (Go.Eng.lenS 106) 61 62 1000 60 8) 400 [(16386, 1, 1), (12292, 2, 2), (4098, 1, 1), (5, 2, 2)] = true := by kernel_rfl
theorem n2_1_2 : Go.Eng.Covers (Go.Eng.codeRun Try.prog (Go.Eng.lenS 106) 61 62 1000 60 8) [(12292, 2, 2), (4098, 1, 1), (5, 2, 2)] := Go.Eng.Covers.part 16386 (by kernel_rfl) fun v hv => by
  have h : v = 0 ∨ v = 1 := by omega
  rcases h with rfl | rfl
  · exact .of 400 t2_1_2_0
  · exact .of 400 t2_1_2_1
set_option maxRecDepth 100000 in
theorem t2_1_3_0 : Go.Eng.chkT (Go.Eng.codeRun Try.prog (Go.Eng.lenS 106) 61 62 1000 60 8) 400 [(16387, 0, 0), (12292, 3, 3), (4098, 1, 1), (5, 2, 2)] = true := by kernel_rfl
set_option maxRecDepth 100000 in
theorem t2_1_3_1 : Go.Eng.chkT (Go.Eng.codeRun Try.prog (Go.Eng.lenS 106) 61 62 1000 60 8) 400 [(16387, 1, 1), (12292, 3, 3), (4098, 1, 1), (5, 2, 2)] = true := by kernel_rfl
set_option maxRecDepth 100000 in
theorem t2_1_3_2 : Go.Eng.chkT (Go.Eng.codeRun Try.prog (Go.Eng.lenS 106) 61 62 1000 60 8) 400 [(16387, 2, 2), (12292, 3, 3), (4098, 1, 1), (5, 2, 2)] = true := by kernel_rfl
theorem n2_1_3 : Go.Eng.Covers (Go.Eng.codeRun Try.prog (Go.Eng.lenS 106) 61 62 1000 60 8) [(12292, 3, 3), (4098, 1, 1), (5, 2, 2)] := Go.Eng.Covers.part 16387 (by kernel_rfl) fun v hv => by
  have h : v = 0 ∨ v = 1 ∨ v = 2 := by omega
  rcases h with rfl | rfl | rfl
  · exact .of 400 t2_1_3_0
  · exact .of 400 t2_1_3_1
  · exact .of 400 t2_1_3_2
theorem n2_1 : Go.Eng.Covers (Go.Eng.codeRun Try.prog (Go.Eng.lenS 106) 61 62 1000 60 8) [(4098, 1, 1), (5, 2, 2)] := Go.Eng.Covers.part 12292 (by kernel_rfl) fun v hv => by
  have h : v = 0 ∨ v = 1 ∨ v = 2 ∨ v = 3 := by omega
  rcases h with rfl | rfl | rfl | rfl
  · exact .of 400 t2_1_0
  · exact .of 400 t2_1_1
  · exact n2_1_2
  · exact n2_1_3
theorem n2 : Go.Eng.Covers (Go.Eng.codeRun Try.prog (Go.Eng.lenS 106) 61 62 1000 60 8) [(5, 2, 2)] := Go.Eng.Covers.part 4098 (by kernel_rfl) fun v hv => by
  have h : v = 0 ∨ v = 1 := by omega
  rcases h with rfl | rfl
  · exact n2_0
  · exact n2_1
set_option maxRecDepth 100000 in
theorem t3_0_0 : Go.Eng.chkT (Go.Eng.codeRun Try.prog (Go.Eng.lenS 106) 61 62 1000 60 8) 400 [(12292, 0, 0), (4099, 0, 0), (5, 3, 3)] = true := by kernel_rfl
set_option maxRecDepth 100000 in
theorem t3_0_1 : Go.Eng.chkT (Go.Eng.codeRun Try.prog (Go.Eng.lenS 106) 61 62 1000 60 8) 400 [(12292, 1, 1), (4099, 0, 0), (5, 3, 3)] = true := by kernel_rfl
set_option maxRecDepth 100000 in
theorem t3_0_2_0 : Go.Eng.chkT (Go.Eng.codeRun Try.prog (Go.Eng.lenS 106) 61 62 1000 60 8) 400 [(16386, 0, 0), (12292, 2, 2), (4099, 0, 0), (5, 3, 3)] = true := by kernel_rfl
set_option maxRecDepth 100000 in
theorem t3_0_2_1 : Go.Eng.chkT (Go.Eng.codeRun Try.prog (Go.Eng.lenS 106) 61 62 1000 60 8) 400 [(16386, 1, 1), (12292, 2, 2), (4099, 0, 0), (5, 3, 3)] = true := by kernel_rfl
theorem n3_0_2 : Go.Eng.Covers (Go.Eng.codeRun Try.prog (Go.Eng.lenS 106) 61 62 1000 60 8) [(12292, 2, 2), (4099, 0, 0), (5, 3, 3)] := Go.Eng.Covers.part 16386 (by kernel_rfl) fun v hv => by
  have h : v = 0 ∨ v = 1 := by omega
  rcases h with rfl | rfl
  · exact .of 400 t3_0_2_0
  · exact .of 400 t3_0_2_1
set_option maxRecDepth 100000 in
theorem t3_0_3_0 : Go.Eng.chkT (Go.Eng.codeRun Try.prog (Go.Eng.lenS 106) 61 62 1000 60 8) 400 [(16387, 0, 0), (12292, 3, 3), (4099, 0, 0), (5, 3, 3)] = true := by kernel_rfl
set_option maxRecDepth 100000 in
theorem t3_0_3_1 : Go.Eng.chkT (Go.Eng.codeRun Try.prog (Go.Eng.lenS 106) 61 62 1000 60 8) 400 [(16387, 1, 1), (12292, 3, 3), (4099, 0, 0), (5, 3, 3)] = true := by kernel_rfl
set_option maxRecDepth 100000 in
theorem t3_0_3_2 : Go.Eng.chkT (Go.Eng.codeRun Try.prog (Go.Eng.lenS 106) 61 62 1000 60 8) 400 [(16387, 2, 2), (12292, 3, 3), (4099, 0, 0), (5, 3, 3)] = true := by kernel_rfl
theorem n3_0_3 : Go.Eng.Covers (Go.Eng.codeRun Try.prog (Go.Eng.lenS 106) 61 62 1000 60 8) [(12292, 3, 3), (4099, 0, 0), (5, 3, 3)] := Go.Eng.Covers.part 16387 (by kernel_rfl) fun v hv => by
  have h : v = 0 ∨ v = 1 ∨ v = 2 := by omega
  rcases h with rfl | rfl | rfl
  · exact .of 400 t3_0_3_0
  · exact .of 400 t3_0_3_1
  · exact .of 400 t3_0_3_2
theorem n3_0 : Go.Eng.Covers (Go.Eng.codeRun Try.prog (Go.Eng.lenS 106) 61 62 1000 60 8) [(4099, 0, 0), (5, 3, 3)] := Go.Eng.Covers.part 12292 (by kernel_rfl) fun v hv => by
  have h : v = 0 ∨ v = 1 ∨ v = 2 ∨ v = 3 := by omega
  rcases h with rfl | rfl | rfl | rfl
  · exact .of 400 t3_0_0
  · exact .of 400 t3_0_1
  · exact n3_0_2
  · exact n3_0_3
set_option maxRecDepth 100000 in
theorem t3_1_0 : Go.Eng.chkT (Go.Eng.codeRun Try.prog (Go.Eng.lenS 106) 61 62 1000 60 8) 400 [(12292, 0, 0), (4099, 1, 1), (5, 3, 3)] = true := by kernel_rfl
set_option maxRecDepth 100000 in
theorem t3_1_1 : Go.Eng.chkT (Go.Eng.codeRun Try.prog (Go.Eng.lenS 106) 61 62 1000 60 8) 400 [(12292, 1, 1), (4099, 1, 1), (5, 3, 3)] = true := by kernel_rfl
set_option maxRecDepth 100000 in
theorem t3_1_2_0 : Go.Eng.chkT (Go.Eng.codeRun Try.prog (Go.Eng.lenS 106) 61 62 1000 60 8) 400 [(16386, 0, 0), (12292, 2, 2), (4099, 1, 1), (5, 3, 3)] = true := by kernel_rfl
set_option maxRecDepth 100000 in
theorem t3_1_2_1 : Go.Eng.chkT (Go.Eng.codeRun Try.prog (Go.Eng.lenS 106) 61 62 1000 60 8) 400 [(16386, 1, 1), (12292, 2, 2), (4099, 1, 1), (5, 3, 3)] = true := by kernel_rfl
theorem n3_1_2 : Go.Eng.Covers (Go.Eng.codeRun Try.prog (Go.Eng.lenS 106) 61 62 1000 60 8) [(12292, 2, 2), (4099, 1, 1), (5, 3, 3)] := Go.Eng.Covers.part 16386 (by kernel_rfl) fun v hv => by
  have h : v = 0 ∨ v = 1 := by omega
  rcases h with rfl | rfl
  · exact .of 400 t3_1_2_0
  · exact .of 400 t3_1_2_1
set_option maxRecDepth 100000 in
theorem t3_1_3_0 : Go.Eng.chkT (Go.Eng.codeRun Try.prog (Go.Eng.lenS 106) 61 62 1000 60 8) 400 [(16387, 0, 0), (12292, 3, 3), (4099, 1, 1), (5, 3, 3)] = true := by kernel_rfl
set_option maxRecDepth 100000 in
theorem t3_1_3_1 : Go.Eng.chkT (Go.Eng.codeRun Try.prog (Go.Eng.lenS 106) 61 62 1000 60 8) 400 [(16387, 1, 1), (12292, 3, 3), (4099, 1, 1), (5, 3, 3)] = true := by kernel_rfl
set_option maxRecDepth 100000 in
theorem t3_1_3_2 : Go.Eng.chkT (Go.Eng.codeRun Try.prog (Go.Eng.lenS 106) 61 62 1000 60 8) 400 [(16387, 2, 2), (12292, 3, 3), (4099, 1, 1), (5, 3, 3)] = true := by kernel_rfl
theorem n3_1_3 : Go.Eng.Covers (Go.Eng.codeRun Try.prog (Go.Eng.lenS 106) 61 62 1000 60 8) [(12292, 3, 3), (4099, 1, 1), (5, 3, 3)] := Go.Eng.Covers.part 16387 (by kernel_rfl) fun v hv => by
  have h : v = 0 ∨ v = 1 ∨ v = 2 := by omega
  rcases h with rfl | rfl | rfl
  · exact .of 400 t3_1_3_0
  · exact .of 400 t3_1_3_1
  · exact .of 400 t3_1_3_2
theorem n3_1 : Go.Eng.Covers (Go.Eng.codeRun Try.prog (Go.Eng.lenS 106) 61 62 1000 60 8) [(4099, 1, 1), (5, 3, 3)] := Go.Eng.Covers.part 12292 (by kernel_rfl) fun v hv => by
  have h : v = 0 ∨ v = 1 ∨ v = 2 ∨ v = 3 := by omega
  rcases h with rfl | rfl | rfl | rfl
  · exact .of 400 t3_1_0
  · exact .of 400 t3_1_1
  · exact n3_1_2
  · exact n3_1_3
set_option maxRecDepth 100000 in
theorem t3_2_0 : Go.Eng.chkT (Go.Eng.codeRun Try.prog (Go.Eng.lenS 106) 61 62 1000 60 8) 400 [(12292, 0, 0), (4099, 2, 2), (5, 3, 3)] = true := by kernel_rfl
set_option maxRecDepth 100000 in
theorem t3_2_1 : Go.Eng.chkT (Go.Eng.codeRun Try.prog (Go.Eng.lenS 106) 61 62 1000 60 8) 400 [(12292, 1, 1), (4099, 2, 2), (5, 3, 3)] = true := by kernel_rfl
set_option maxRecDepth 100000 in
theorem t3_2_2_0 : Go.Eng.chkT (Go.Eng.codeRun Try.prog (Go.Eng.lenS 106) 61 62 1000 60 8) 400 [(16386, 0, 0), (12292, 2, 2), (4099, 2, 2), (5, 3, 3)] = true := by kernel_rfl
set_option maxRecDepth 100000 in
theorem t3_2_2_1 : Go.Eng.chkT (Go.Eng.codeRun Try.prog (Go.Eng.lenS 106) 61 62 1000 60 8) 400 [(16386, 1, 1), (12292, 2, 2), (4099, 2, 2), (5, 3, 3)] = true := by kernel_rfl
theorem n3_2_2 : Go.Eng.Covers (Go.Eng.codeRun Try.prog (Go.Eng.lenS 106) 61 62 1000 60 8) [(12292, 2, 2), (4099, 2, 2), (5, 3, 3)] := Go.Eng.Covers.part 16386 (by kernel_rfl) fun v hv => by
  have h : v = 0 ∨ v = 1 := by omega
  rcases h with rfl | rfl
  · exact .of 400 t3_2_2_0
  · exact .of 400 t3_2_2_1
set_option maxRecDepth 100000 in
theorem t3_2_3_0 : Go.Eng.chkT (Go.Eng.codeRun Try.prog (Go.Eng.lenS 106) 61 62 1000 60 8) 400 [(16387, 0, 0), (12292, 3, 3), (4099, 2, 2), (5, 3, 3)] = true := by kernel_rfl
set_option maxRecDepth 100000 in
theorem t3_2_3_1 : Go.Eng.chkT (Go.Eng.codeRun Try.prog (Go.Eng.lenS 106) 61 62 1000 60 8) 400 [(16387, 1, 1), (12292, 3, 3), (4099, 2, 2), (5, 3, 3)] = true := by kernel_rfl
set_option maxRecDepth 100000 in
theorem t3_2_3_2 : Go.Eng.chkT (Go.Eng.codeRun Try.prog (Go.Eng.lenS 106) 61 62 1000 60 8) 400 [(16387, 2, 2), (12292, 3, 3), (4099, 2, 2), (5, 3, 3)] = true := by kernel_rfl
theorem n3_2_3 : Go.Eng.Covers (Go.Eng.codeRun Try.prog (Go.Eng.lenS 106) 61 62 1000 60 8) [(12292, 3, 3), (4099, 2, 2), (5, 3, 3)] := Go.Eng.Covers.part 16387 (by kernel_rfl) fun v hv => by
  have h : v = 0 ∨ v = 1 ∨ v = 2 := by omega
  rcases h with rfl | rfl | rfl
  · exact .of 400 t3_2_3_0
  · exact .of 400 t3_2_3_1
  · exact .of 400 t3_2_3_2
theorem n3_2 : Go.Eng.Covers (Go.Eng.codeRun Try.prog (Go.Eng.lenS 106) 61 62 1000 60 8) [(4099, 2, 2), (5, 3, 3)] := Go.Eng.Covers.part 12292 (by kernel_rfl) fun v hv => by
  have h : v = 0 ∨ v = 1 ∨ v = 2 ∨ v = 3 := by omega
  rcases h with rfl | rfl | rfl | rfl
  · exact .of 400 t3_2_0
  · exact .of 400 t3_2_1
  · exact n3_2_2
  · exact n3_2_3
theorem n3 : Go.Eng.Covers (Go.Eng.codeRun Try.prog (Go.Eng.lenS 106) 61 62 1000 60 8) [(5, 3, 3)] := Go.Eng.Covers.part 4099 (by kernel_rfl) fun v hv => by
  have h : v = 0 ∨ v = 1 ∨ v = 2 := by omega
  rcases h with rfl | rfl | rfl
  · exact n3_0
  · exact n3_1
  · exact n3_2
set_option maxRecDepth 100000 in
theorem t4_0_0 : Go.Eng.chkT (Go.Eng.codeRun Try.prog (Go.Eng.lenS 106) 61 62 1000 60 8) 400 [(12292, 0, 0), (4101, 0, 0), (5, 4, 4)] = true := by kernel_rfl
set_option maxRecDepth 100000 in
theorem t4_0_1 : Go.Eng.chkT (Go.Eng.codeRun Try.prog (Go.Eng.lenS 106) 61 62 1000 60 8) 400 [(12292, 1, 1), (4101, 0, 0), (5, 4, 4)] = true := by kernel_rfl
set_option maxRecDepth 100000 in
theorem t4_0_2_0 : Go.Eng.chkT (Go.Eng.codeRun Try.prog (Go.Eng.lenS 106) 61 62 1000 60 8) 400 [(16386, 0, 0), (12292, 2, 2), (4101, 0, 0), (5, 4, 4)] = true := by kernel_rfl
set_option maxRecDepth 100000 in
theorem t4_0_2_1 : Go.Eng.chkT (Go.Eng.codeRun Try.prog (Go.Eng.lenS 106) 61 62 1000 60 8) 400 [(16386, 1, 1), (12292, 2, 2), (4101, 0, 0), (5, 4, 4)] = true := by kernel_rfl
theorem n4_0_2 : Go.Eng.Covers (Go.Eng.codeRun Try.prog (Go.Eng.lenS 106) 61 62 1000 60 8) [(12292, 2, 2), (4101, 0, 0), (5, 4, 4)] := Go.Eng.Covers.part 16386 (by kernel_rfl) fun v hv => by
  have h : v = 0 ∨ v = 1 := by omega
  rcases h with rfl | rfl
  · exact .of 400 t4_0_2_0
  · exact .of 400 t4_0_2_1
set_option maxRecDepth 100000 in
theorem t4_0_3_0 : Go.Eng.chkT (Go.Eng.codeRun Try.prog (Go.Eng.lenS 106) 61 62 1000 60 8) 400 [(16387, 0, 0), (12292, 3, 3), (4101, 0, 0), (5, 4, 4)] = true := by kernel_rfl
set_option maxRecDepth 100000 in
theorem t4_0_3_1 : Go.Eng.chkT (Go.Eng.codeRun Try.prog (Go.Eng.lenS 106) 61 62 1000 60 8) 400 [(16387, 1, 1), (12292, 3, 3), (4101, 0, 0), (5, 4, 4)] = true := by kernel_rfl
set_option maxRecDepth 100000 in
theorem t4_0_3_2 : Go.Eng.chkT (Go.Eng.codeRun Try.prog (Go.Eng.lenS 106) 61 62 1000 60 8) 400 [(16387, 2, 2), (12292, 3, 3), (4101, 0, 0), (5, 4, 4)] = true := by kernel_rfl
theorem n4_0_3 : Go.Eng.Covers (Go.Eng.codeRun Try.prog (Go.Eng.lenS 106) 61 62 1000 60 8) [(12292, 3, 3), (4101, 0, 0), (5, 4, 4)] := Go.Eng.Covers.part 16387 (by kernel_rfl) fun v hv => by
  have h : v = 0 ∨ v = 1 ∨ v = 2 := by omega
  rcases h with rfl | rfl | rfl
  · exact .of 400 t4_0_3_0
  · exact .of 400 t4_0_3_1
  · exact .of 400 t4_0_3_2
theorem n4_0 : Go.Eng.Covers (Go.Eng.codeRun Try.prog (Go.Eng.lenS 106) 61 62 1000 60 8) [(4101, 0, 0), (5, 4, 4)] := Go.Eng.Covers.part 12292 (by kernel_rfl) fun v hv => by
  have h : v = 0 ∨ v = 1 ∨ v = 2 ∨ v = 3 := by omega
  rcases h with rfl | rfl | rfl | rfl
  · exact .of 400 t4_0_0
  · exact .of 400 t4_0_1
  · exact n4_0_2
  · exact n4_0_3
set_option maxRecDepth 100000 in
theorem t4_1_0 : Go.Eng.chkT (Go.Eng.codeRun Try.prog (Go.Eng.lenS 106) 61 62 1000 60 8) 400 [(12292, 0, 0), (4101, 1, 1), (5, 4, 4)] = true := by kernel_rfl
set_option maxRecDepth 100000 in
theorem t4_1_1 : Go.Eng.chkT (Go.Eng.codeRun Try.prog (Go.Eng.lenS 106) 61 62 1000 60 8) 400 [(12292, 1, 1), (4101, 1, 1), (5, 4, 4)] = true := by kernel_rfl
set_option maxRecDepth 100000 in
theorem t4_1_2_0 : Go.Eng.chkT (Go.Eng.codeRun Try.prog (Go.Eng.lenS 106) 61 62 1000 60 8) 400 [(16386, 0, 0), (12292, 2, 2), (4101, 1, 1), (5, 4, 4)] = true := by kernel_rfl
set_option maxRecDepth 100000 in
theorem t4_1_2_1 : Go.Eng.chkT (Go.Eng.codeRun Try.prog (Go.Eng.lenS 106) 61 62 1000 60 8) 400 [(16386, 1, 1), (12292, 2, 2), (4101, 1, 1), (5, 4, 4)] = true := by kernel_rfl
theorem n4_1_2 : Go.Eng.Covers (Go.Eng.codeRun Try.prog (Go.Eng.lenS 106) 61 62 1000 60 8) [(12292, 2, 2), (4101, 1, 1), (5, 4, 4)] := Go.Eng.Covers.part 16386 (by kernel_rfl) fun v hv => by
  have h : v = 0 ∨ v = 1 := by omega
  rcases h with rfl | rfl
  · exact .of 400 t4_1_2_0
  · exact .of 400 t4_1_2_1
set_option maxRecDepth 100000 in
theorem t4_1_3_0 : Go.Eng.chkT (Go.Eng.codeRun Try.prog (Go.Eng.lenS 106) 61 62 1000 60 8) 400 [(16387, 0, 0), (12292, 3, 3), (4101, 1, 1), (5, 4, 4)] = true := by kernel_rfl
set_option maxRecDepth 100000 in
theorem t4_1_3_1 : Go.Eng.chkT (Go.Eng.codeRun Try.prog (Go.Eng.lenS 106) 61 62 1000 60 8) 400 [(16387, 1, 1), (12292, 3, 3), (4101, 1, 1), (5, 4, 4)] = true := by kernel_rfl
set_option maxRecDepth 100000 in
theorem t4_1_3_2 : Go.Eng.chkT (Go.Eng.codeRun Try.prog (Go.Eng.lenS 106) 61 62 1000 60 8) 400 [(16387, 2, 2), (12292, 3, 3), (4101, 1, 1), (5, 4, 4)] = true := by kernel_rfl
theorem n4_1_3 : Go.Eng.Covers (Go.Eng.codeRun Try.prog (Go.Eng.lenS 106) 61 62 1000 60 8) [(12292, 3, 3), (4101, 1, 1), (5, 4, 4)] := Go.Eng.Covers.part 16387 (by kernel_rfl) fun v hv => by
  have h : v = 0 ∨ v = 1 ∨ v = 2 := by omega
  rcases h with rfl | rfl | rfl
  · exact .of 400 t4_1_3_0
  · exact .of 400 t4_1_3_1
  · exact .of 400 t4_1_3_2
theorem n4_1 : Go.Eng.Covers (Go.Eng.codeRun Try.prog (Go.Eng.lenS 106) 61 62 1000 60 8) [(4101, 1, 1), (5, 4, 4)] := Go.Eng.Covers.part 12292 (by kernel_rfl) fun v hv => by
  have h : v = 0 ∨ v = 1 ∨ v = 2 ∨ v = 3 := by omega
  rcases h with rfl | rfl | rfl | rfl
  · exact .of 400 t4_1_0
  · exact .of 400 t4_1_1
  · exact n4_1_2
  · exact n4_1_3
set_option maxRecDepth 100000 in
theorem t4_2_0 : Go.Eng.chkT (Go.Eng.codeRun Try.prog (Go.Eng.lenS 106) 61 62 1000 60 8) 400 [(12292, 0, 0), (4101, 2, 2), (5, 4, 4)] = true := by kernel_rfl
set_option maxRecDepth 100000 in
theorem t4_2_1 : Go.Eng.chkT (Go.Eng.codeRun Try.prog (Go.Eng.lenS 106) 61 62 1000 60 8) 400 [(12292, 1, 1), (4101, 2, 2), (5, 4, 4)] = true := by kernel_rfl
set_option maxRecDepth 100000 in
theorem t4_2_2_0 : Go.Eng.chkT (Go.Eng.codeRun Try.prog (Go.Eng.lenS 106) 61 62 1000 60 8) 400 [(16386, 0, 0), (12292, 2, 2), (4101, 2, 2), (5, 4, 4)] = true := by kernel_rfl
set_option maxRecDepth 100000 in
theorem t4_2_2_1 : Go.Eng.chkT (Go.Eng.codeRun Try.prog (Go.Eng.lenS 106) 61 62 1000 60 8) 400 [(16386, 1, 1), (12292, 2, 2), (4101, 2, 2), (5, 4, 4)] = true := by kernel_rfl
theorem n4_2_2 : Go.Eng.Covers (Go.Eng.codeRun Try.prog (Go.Eng.lenS 106) 61 62 1000 60 8) [(12292, 2, 2), (4101, 2, 2), (5, 4, 4)] := Go.Eng.Covers.part 16386 (by kernel_rfl) fun v hv => by
  have h : v = 0 ∨ v = 1 := by omega
  rcases h with rfl | rfl
  · exact .of 400 t4_2_2_0
  · exact .of 400 t4_2_2_1
set_option maxRecDepth 100000 in
theorem t4_2_3_0 : Go.Eng.chkT (Go.Eng.codeRun Try.prog (Go.Eng.lenS 106) 61 62 1000 60 8) 400 [(16387, 0, 0), (12292, 3, 3), (4101, 2, 2), (5, 4, 4)] = true := by kernel_rfl
set_option maxRecDepth 100000 in
theorem t4_2_3_1 : Go.Eng.chkT (Go.Eng.codeRun Try.prog (Go.Eng.lenS 106) 61 62 1000 60 8) 400 [(16387, 1, 1), (12292, 3, 3), (4101, 2, 2), (5, 4, 4)] = true := by kernel_rfl
set_option maxRecDepth 100000 in
theorem t4_2_3_2 : Go.Eng.chkT (Go.Eng.codeRun Try.prog (Go.Eng.lenS 106) 61 62 1000 60 8) 400 [(16387, 2, 2), (12292, 3, 3), (4101, 2, 2), (5, 4, 4)] = true := by kernel_rfl
theorem n4_2_3 : Go.Eng.Covers (Go.Eng.codeRun Try.prog (Go.Eng.lenS 106) 61 62 1000 60 8) [(12292, 3, 3), (4101, 2, 2), (5, 4, 4)] := Go.Eng.Covers.part 16387 (by kernel_rfl) fun v hv => by
  have h : v = 0 ∨ v = 1 ∨ v = 2 := by omega
  rcases h with rfl | rfl | rfl
  · exact .of 400 t4_2_3_0
  · exact .of 400 t4_2_3_1
  · exact .of 400 t4_2_3_2
theorem n4_2 : Go.Eng.Covers (Go.Eng.codeRun Try.prog (Go.Eng.lenS 106) 61 62 1000 60 8) [(4101, 2, 2), (5, 4, 4)] := Go.Eng.Covers.part 12292 (by kernel_rfl) fun v hv => by
  have h : v = 0 ∨ v = 1 ∨ v = 2 ∨ v = 3 := by omega
  rcases h with rfl | rfl | rfl | rfl
  · exact .of 400 t4_2_0
  · exact .of 400 t4_2_1
  · exact n4_2_2
  · exact n4_2_3
set_option maxRecDepth 100000 in
theorem t4_3_0 : Go.Eng.chkT (Go.Eng.codeRun Try.prog (Go.Eng.lenS 106) 61 62 1000 60 8) 400 [(12292, 0, 0), (4101, 3, 3), (5, 4, 4)] = true := by kernel_rfl
set_option maxRecDepth 100000 in
theorem t4_3_1 : Go.Eng.chkT (Go.Eng.codeRun Try.prog (Go.Eng.lenS 106) 61 62 1000 60 8) 400 [(12292, 1, 1), (4101, 3, 3), (5, 4, 4)] = true := by kernel_rfl
set_option maxRecDepth 100000 in
theorem t4_3_2_0 : Go.Eng.chkT (Go.Eng.codeRun Try.prog (Go.Eng.lenS 106) 61 62 1000 60 8) 400 [(16386, 0, 0), (12292, 2, 2), (4101, 3, 3), (5, 4, 4)] = true := by kernel_rfl
set_option maxRecDepth 100000 in
theorem t4_3_2_1 : Go.Eng.chkT (Go.Eng.codeRun Try.prog (Go.Eng.lenS 106) 61 62 1000 60 8) 400 [(16386, 1, 1), (12292, 2, 2), (4101, 3, 3), (5, 4, 4)] = true := by kernel_rfl
theorem n4_3_2 : Go.Eng.Covers (Go.Eng.codeRun Try.prog (Go.Eng.lenS 106) 61 62 1000 60 8) [(12292, 2, 2), (4101, 3, 3), (5, 4, 4)] := Go.Eng.Covers.part 16386 (by kernel_rfl) fun v hv => by
  have h : v = 0 ∨ v = 1 := by omega
  rcases h with rfl | rfl
  · exact .of 400 t4_3_2_0
  · exact .of 400 t4_3_2_1
set_option maxRecDepth 100000 in
theorem t4_3_3_0 : Go.Eng.chkT (Go.Eng.codeRun Try.prog (Go.Eng.lenS 106) 61 62 1000 60 8) 400 [(16387, 0, 0), (12292, 3, 3), (4101, 3, 3), (5, 4, 4)] = true := by kernel_rfl
set_option maxRecDepth 100000 in
theorem t4_3_3_1 : Go.Eng.chkT (Go.Eng.codeRun Try.prog (Go.Eng.lenS 106) 61 62 1000 60 8) 400 [(16387, 1, 1), (12292, 3, 3), (4101, 3, 3), (5, 4, 4)] = true := by kernel_rfl
set_option maxRecDepth 100000 in
theorem t4_3_3_2 : Go.Eng.chkT (Go.Eng.codeRun Try.prog (Go.Eng.lenS 106) 61 62 1000 60 8) 400 [(16387, 2, 2), (12292, 3, 3), (4101, 3, 3), (5, 4, 4)] = true := by kernel_rfl
theorem n4_3_3 : Go.Eng.Covers (Go.Eng.codeRun Try.prog (Go.Eng.lenS 106) 61 62 1000 60 8) [(12292, 3, 3), (4101, 3, 3), (5, 4, 4)] := Go.Eng.Covers.part 16387 (by kernel_rfl) fun v hv => by
  have h : v = 0 ∨ v = 1 ∨ v = 2 := by omega
  rcases h with rfl | rfl | rfl
  · exact .of 400 t4_3_3_0
  · exact .of 400 t4_3_3_1
  · exact .of 400 t4_3_3_2
theorem n4_3 : Go.Eng.Covers (Go.Eng.codeRun Try.prog (Go.Eng.lenS 106) 61 62 1000 60 8) [(4101, 3, 3), (5, 4, 4)] := Go.Eng.Covers.part 12292 (by kernel_rfl) fun v hv => by
  have h : v = 0 ∨ v = 1 ∨ v = 2 ∨ v = 3 := by omega
  rcases h with rfl | rfl | rfl | rfl
  · exact .of 400 t4_3_0
  · exact .of 400 t4_3_1
  · exact n4_3_2
  · exact n4_3_3
set_option maxRecDepth 100000 in
theorem t4_4_0 : Go.Eng.chkT (Go.Eng.codeRun Try.prog (Go.Eng.lenS 106) 61 62 1000 60 8) 400 [(12292, 0, 0), (4101, 4, 4), (5, 4, 4)] = true := by kernel_rfl
set_option maxRecDepth 100000 in
theorem t4_4_1 : Go.Eng.chkT (Go.Eng.codeRun Try.prog (Go.Eng.lenS 106) 61 62 1000 60 8) 400 [(12292, 1, 1), (4101, 4, 4), (5, 4, 4)] = true := by kernel_rfl
set_option maxRecDepth 100000 in
theorem t4_4_2_0 : Go.Eng.chkT (Go.Eng.codeRun Try.prog (Go.Eng.lenS 106) 61 62 1000 60 8) 400 [(16386, 0, 0), (12292, 2, 2), (4101, 4, 4), (5, 4, 4)] = true := by kernel_rfl
set_option maxRecDepth 100000 in
theorem t4_4_2_1 : Go.Eng.chkT (Go.Eng.codeRun Try.prog (Go.Eng.lenS 106) 61 62 1000 60 8) 400 [(16386, 1, 1), (12292, 2, 2), (4101, 4, 4), (5, 4, 4)] = true := by kernel_rfl
theorem n4_4_2 : Go.Eng.Covers (Go.Eng.codeRun Try.prog (Go.Eng.lenS 106) 61 62 1000 60 8) [(12292, 2, 2), (4101, 4, 4), (5, 4, 4)] := Go.Eng.Covers.part 16386 (by kernel_rfl) fun v hv => by
  have h : v = 0 ∨ v = 1 := by omega
  rcases h with rfl | rfl
  · exact .of 400 t4_4_2_0
  · exact .of 400 t4_4_2_1
set_option maxRecDepth 100000 in
theorem t4_4_3_0 : Go.Eng.chkT (Go.Eng.codeRun Try.prog (Go.Eng.lenS 106) 61 62 1000 60 8) 400 [(16387, 0, 0), (12292, 3, 3), (4101, 4, 4), (5, 4, 4)] = true := by kernel_rfl
set_option maxRecDepth 100000 in
theorem t4_4_3_1 : Go.Eng.chkT (Go.Eng.codeRun Try.prog (Go.Eng.lenS 106) 61 62 1000 60 8) 400 [(16387, 1, 1), (12292, 3, 3), (4101, 4, 4), (5, 4, 4)] = true := by kernel_rfl
set_option maxRecDepth 100000 in
theorem t4_4_3_2 : Go.Eng.chkT (Go.Eng.codeRun Try.prog (Go.Eng.lenS 106) 61 62 1000 60 8) 400 [(16387, 2, 2), (12292, 3, 3), (4101, 4, 4), (5, 4, 4)] = true := by kernel_rfl
theorem n4_4_3 : Go.Eng.Covers (Go.Eng.codeRun Try.prog (Go.Eng.lenS 106) 61 62 1000 60 8) [(12292, 3, 3), (4101, 4, 4), (5, 4, 4)] := Go.Eng.Covers.part 16387 (by kernel_rfl) fun v hv => by
  have h : v = 0 ∨ v = 1 ∨ v = 2 := by omega
  rcases h with rfl | rfl | rfl
  · exact .of 400 t4_4_3_0
  · exact .of 400 t4_4_3_1
  · exact .of 400 t4_4_3_2
theorem n4_4 : Go.Eng.Covers (Go.Eng.codeRun Try.prog (Go.Eng.lenS 106) 61 62 1000 60 8) [(4101, 4, 4), (5, 4, 4)] := Go.Eng.Covers.part 12292 (by kernel_rfl) fun v hv => by
  have h : v = 0 ∨ v = 1 ∨ v = 2 ∨ v = 3 := by omega
  rcases h with rfl | rfl | rfl | rfl
  · exact .of 400 t4_4_0
  · exact .of 400 t4_4_1
  · exact n4_4_2
  · exact n4_4_3
theorem n4 : Go.Eng.Covers (Go.Eng.codeRun Try.prog (Go.Eng.lenS 106) 61 62 1000 60 8) [(5, 4, 4)] := Go.Eng.Covers.part 4101 (by kernel_rfl) fun v hv => by
  have h : v = 0 ∨ v = 1 ∨ v = 2 ∨ v = 3 ∨ v = 4 := by omega
  rcases h with rfl | rfl | rfl | rfl | rfl
  · exact n4_0
  · exact n4_1
  · exact n4_2
  · exact n4_3
  · exact n4_4
theorem tree : Go.Eng.Covers (Go.Eng.codeRun Try.prog (Go.Eng.lenS 106) 61 62 1000 60 8) [] := Go.Eng.Covers.part 5 (by kernel_rfl) fun v hv => by
  have h : v = 0 ∨ v = 1 ∨ v = 2 ∨ v = 3 ∨ v = 4 := by omega
  rcases h with rfl | rfl | rfl | rfl | rfl
  · exact n0
  · exact n1
  · exact n2
  · exact n3
  · exact n4
/-! ### STEP 1: THE WALK: the Go text returns true, AND WRITES NOTHING THAT WAS THERE: 'Below w.heap.size w w'' (Derived/Below.lean: '.refl', '.alloc', '.drew', '.setCell' at a new block, '.trans'). Open each 'IsRow' by 'rcases' AHEAD of 'go_enter'; part every test ahead of the walk. -/
theorem walk (a0 : Option Addr) (len0 cap0 : Nat) (z0 : List Int) (w : World) (w0 : IsRow .u8 w a0 len0 cap0 z0) :
    Calls Try.prog 8 #[.slice a0 len0 cap0] w fun e w' => e = .returned (.bool true) ∧ Below w.heap.size w w' := by
  exact Go.Eng.code_walk (Go.Eng.lenS_always len.lenK) draw.drawK w0 eNil eZero eEmpty eLong tree

/-! ### THE ROW's STEP: WRITTEN OUT: LEAVE IT -/
set_option maxRecDepth 100000 in
theorem lifted (os : Os) (started : os.Started) (H : Type) (enc : TypeId × Value → H) :
    ReturnsInHanded {} Try.checked os 8 .any (Rows.fnJoinSpec.pre6 enc Try.prog Try.f8 Rows.fnJoinRow.domain false) (Rows.fnJoinSpec.post enc Try.prog Try.f8 false true false false) := by
  refine returnsInHanded_of_change (C := Try.checked) own started (by kernel_rfl) Try.func8
    (ChangeSpec.witness6 (enc := enc) (C := Try.checked) false ⟨#[], #[.slice none 0 0], []⟩ 8 (by kernel_rfl) (by kernel_rfl) (by kernel_rfl) (by kernel_rfl)) ?_
  intro W base args ds gs before hval0 hW hcnd _
  have hval : ∀ (j : Nat) t v, Try.f8.params[j]? = some t → args[j]? = some v → Value.okWide Try.prog W .any base t v := hval0
  have hW' := hW
  obtain ⟨p, q, hA0, hV, rfl, hfz, hnd⟩ := hW
  have hA : DataW.TrodAll enc Try.prog W 0 (fun _ => true) true Try.f8.params.toList args.toList ds p := hA0
  rw [Try.params8] at hA hval
  obtain ⟨v0, vs0, d0, ds0, p0, q0, hargs, rfl, rfl, h0, r0⟩ := trodAll_cons hA
  obtain ⟨rfl, rfl, rfl⟩ := trodAll_nil r0
  obtain rfl : args = #[v0] := by cases args; simp_all
  obtain ⟨rfl, rfl⟩ := trodVars_none hV
  obtain ⟨a0, len0, cap0, rfl⟩ := okWide_slice Try.underlying22 (hval 0 22 v0 rfl rfl)
  have k0 := h0
  have lt0 : ∀ x ∈ p0, x.block < W.heap.size := by obtain ⟨m, hm⟩ := k0; exact DataW.trod_lt m _ _ _ hm
  obtain ⟨z0, w0⟩ : ∃ zs, IsRow .u8 W a0 len0 cap0 zs := by
    obtain ⟨fuel, hf⟩ := h0
    rcases open_ints Try.underlying22 Try.underlying5 (by kernel_rfl) hf with ⟨hcs, _⟩ | ⟨x, l, c, zs, hcs, _, hl, hm, hz, _, hcell, hwz⟩
    · simp [Value.cells] at hcs
      obtain ⟨rfl, rfl, rfl⟩ := hcs
      exact ⟨[], .inl ⟨rfl, rfl, rfl, rfl⟩⟩
    · simp [Value.cells] at hcs
      obtain ⟨rfl, rfl, rfl⟩ := hcs
      exact ⟨zs, .inr ⟨_, rfl, hl, hm, by simpa using hz, hcell, hwz⟩⟩
  clear hA0 hval0
  refine (walk a0 len0 cap0 z0 W w0).mono fun e W' ⟨he, bel⟩ => ?_
  subst he
  exact ⟨_, rfl, _, _, _, [], _, [], hW', trodAll_mk1 (shut_bool Try.underlying4 _), (trodAll_cons_mk (Below.trod laidOut (by kernel_rfl) (of_decide_eq_true (by kernel_rfl)) k0 bel lt0) trodAll_mk0), rfl, bel.frame _, fun h => by cases h⟩

theorem over : Rows.fnJoinRow.holds Try.pinned (OpenSpec.ofChange Rows.fnJoinSpec) :=
  OpenClaim.holds_of_wide 8 Try.f8 rfl rfl rfl rfl rfl rfl rfl ⟨rfl, rfl, rfl, rfl, rfl⟩ rfl rfl rfl rfl rfl (by kernel_rfl) Try.func8 (by kernel_rfl)
    (of_decide_eq_true (by kernel_rfl)) (by unfold Func.isWrapper; first | (rw [if_pos (by decide +kernel)]; kernel_rfl) | (rw [if_neg (by decide +kernel)]; exact ⟨rfl, rfl⟩))
    (fun os started H enc _ => lifted os started H enc)

/-- ████ THE STATEMENT ████ -/
theorem proved : Rows.FnJoinSaid := over
#print axioms proved
end Go.Proofs.Ytnablcacdfebfaa.fnJoin
