/- The law FnExactSumAdd holds for every argument: the program answers as the model does, and writes into no argument. No condition. -/
import Derived.Test.YtnobdifmnoehbaaRows
import Derived.WalkKit
import Derived.ProofKit
import Derived.OpenShut
import Derived.ShutString
import Derived.ChangeOld
import Derived.Below
import Derived.Lib.SmallJoins
import Derived.ChangeSlices
import Derived.ChangeArms
import Derived.Test.YtnobdifmnoehbaaEngLv
import Derived.Test.YtnobdifmnoehbaaFnExactSumAddT
import Derived.Test.YtnobdifmnoehbaaList
import Derived.Test.YtnobdifmnoehbaaSum
namespace Go.Proofs.Ytnobdifmnoehbaa.fnExactSumAdd
open Go.ChangeShapes Go.WideShapes Go.ChangeAt Go.RowKit Go.Joins
open Go.ChangeMaps (open_string shut_string)
set_option linter.unusedVariables false
theorem own : ownKnob Try.prog.godebug = none := by kernel_rfl
theorem laidOut : laidOutB Try.prog = true := by kernel_rfl
theorem cellsS : Try.prog.cellsOf 43 = 3 := by kernel_rfl
/-- a row of ints that came in -/
def IsRow (k : IntKind) (w : World) (a : Option Addr) (len cap : Nat) (zs : List Int) : Prop :=
  (a = none ∧ len = 0 ∧ cap = 0 ∧ zs = []) ∨
  ∃ x, a = some x ∧ len ≤ cap ∧ cap ≤ maxLen ∧ zs.length = cap ∧ (∀ i, i < zs.length → w.cell? (x.add i) = some (.int k (zs.getD i 0))) ∧ ∀ n ∈ zs, (Lit.int k n).wf = true
theorem walk (s0 : ByteArray) (d0 : Int) (a0 : Option Addr) (len0 cap0 : Nat) (z0 : List Int) (s1 : ByteArray) (d1 : Int) (a1 : Option Addr) (len1 cap1 : Nat) (z1 : List Int) (w : World) (ws0 : s0.size ≤ maxLen) (wd0 : (Lit.int .i64 d0).wf = true) (wr0 : IsRow .i64 w a0 len0 cap0 z0) (ws1 : s1.size ≤ maxLen) (wd1 : (Lit.int .i64 d1).wf = true) (wr1 : IsRow .i64 w a1 len1 cap1 z1) :
    Calls Try.prog 14 #[.agg #[.string s0, .int .i64 d0, .slice a0 len0 cap0], .agg #[.string s1, .int .i64 d1, .slice a1 len1 cap1]] w fun e w' => e = .returned (.bool true) ∧ Below w.heap.size w w' := by
  exact Go.Eng.sumsum_walk Go.Proofs.Ytnobdifmnoehbaa.sumM.mS_always list.listK sum.sumK (Go.Eng.SumArg.of ws0 wd0 wr0) (Go.Eng.SumArg.of ws1 wd1 wr1) Go.Proofs.Ytnobdifmnoehbaa.fnExactSumAddRuns.rows1 Go.Proofs.Ytnobdifmnoehbaa.fnExactSumAddRuns.rows2 Go.Proofs.Ytnobdifmnoehbaa.fnExactSumAddRuns.rows3 Go.Proofs.Ytnobdifmnoehbaa.fnExactSumAddRuns.rows4 Go.Proofs.Ytnobdifmnoehbaa.fnExactSumAddRuns.rows5
set_option maxRecDepth 100000 in
theorem lifted (os : Os) (started : os.Started) (H : Type) (enc : TypeId × Value → H) :
    ReturnsInHanded {} Try.checked os 14 .any (Rows.fnExactSumAddSpec.pre6 enc Try.prog Try.f14 Rows.fnExactSumAddRow.domain false) (Rows.fnExactSumAddSpec.post enc Try.prog Try.f14 false true false false) := by
  refine returnsInHanded_of_change (C := Try.checked) own started (by kernel_rfl) Try.func14
    (ChangeSpec.witness6 (enc := enc) (C := Try.checked) false ⟨#[], #[.agg #[.string ByteArray.empty, .int .i64 0, .slice none 0 0], .agg #[.string ByteArray.empty, .int .i64 0, .slice none 0 0]], []⟩ 8 (by kernel_rfl) (by kernel_rfl) (by kernel_rfl) (by kernel_rfl)) ?_
  intro W base args ds gs before hval0 hW hcnd _
  have hval : ∀ (j : Nat) t v, Try.f14.params[j]? = some t → args[j]? = some v → Value.okWide Try.prog W .any base t v := hval0
  have hW' := hW
  obtain ⟨p, q, hA0, hV, rfl, hfz, hnd⟩ := hW
  have hA : DataW.TrodAll enc Try.prog W 0 (fun _ => true) true Try.f14.params.toList args.toList ds p := hA0
  rw [Try.params14] at hA hval
  obtain ⟨v0, vs0, d00, ds0, p0, q0, hargs, rfl, rfl, h0, r0⟩ := trodAll_cons hA
  obtain ⟨v1, vs1, d01, ds1, p1, q1, rfl, rfl, rfl, h1, r1⟩ := trodAll_cons r0
  obtain ⟨rfl, rfl, rfl⟩ := trodAll_nil r1
  obtain rfl : args = #[v0, v1] := by cases args; simp_all
  obtain ⟨rfl, rfl⟩ := trodVars_none hV
  have kk0 := h0
  have lt0 : ∀ x ∈ p0, x.block < W.heap.size := by obtain ⟨m, hm⟩ := kk0; exact DataW.trod_lt m _ _ _ hm
  obtain ⟨c0, c1, c2, y0, y1, y2, m, rfl, ed0, ep0, hy0, hy1, hy2⟩ := open_agg3 Try.underlying43 (by kernel_rfl) cellsS (hval 0 43 v0 rfl rfl) h0
  obtain ⟨s0, e0, _, ws0⟩ := DataW.trod_string Try.underlying9 hy0
  obtain ⟨d0, e1, _, wd0⟩ := DataW.trod_int Try.underlying3 hy1
  simp at e0 e1
  subst e0 e1
  obtain ⟨a0, len0, cap0, z0, rfl, wr0⟩ : ∃ a len cap zs, c2 = .slice a len cap ∧ IsRow .i64 W a len cap zs := by
    rcases open_ints Try.underlying22 Try.underlying3 (by kernel_rfl) hy2 with ⟨hcs, _⟩ | ⟨x, l, c, zs, hcs, _, hl, hm, hz, _, hcell, hwz⟩
    · simp at hcs
      subst hcs
      exact ⟨none, 0, 0, [], rfl, .inl ⟨rfl, rfl, rfl, rfl⟩⟩
    · simp at hcs
      subst hcs
      exact ⟨some x, l, c, zs, rfl, .inr ⟨_, rfl, hl, hm, by simpa using hz, hcell, hwz⟩⟩
  have kk1 := h1
  have lt1 : ∀ x ∈ p1, x.block < W.heap.size := by obtain ⟨m, hm⟩ := kk1; exact DataW.trod_lt m _ _ _ hm
  obtain ⟨c0, c1, c2, y0, y1, y2, m, rfl, ed1, ep1, hy0, hy1, hy2⟩ := open_agg3 Try.underlying43 (by kernel_rfl) cellsS (hval 1 43 v1 rfl rfl) h1
  obtain ⟨s1, e0, _, ws1⟩ := DataW.trod_string Try.underlying9 hy0
  obtain ⟨d1, e1, _, wd1⟩ := DataW.trod_int Try.underlying3 hy1
  simp at e0 e1
  subst e0 e1
  obtain ⟨a1, len1, cap1, z1, rfl, wr1⟩ : ∃ a len cap zs, c2 = .slice a len cap ∧ IsRow .i64 W a len cap zs := by
    rcases open_ints Try.underlying22 Try.underlying3 (by kernel_rfl) hy2 with ⟨hcs, _⟩ | ⟨x, l, c, zs, hcs, _, hl, hm, hz, _, hcell, hwz⟩
    · simp at hcs
      subst hcs
      exact ⟨none, 0, 0, [], rfl, .inl ⟨rfl, rfl, rfl, rfl⟩⟩
    · simp at hcs
      subst hcs
      exact ⟨some x, l, c, zs, rfl, .inr ⟨_, rfl, hl, hm, by simpa using hz, hcell, hwz⟩⟩
  clear hA0 hval0
  refine (walk s0 d0 a0 len0 cap0 z0 s1 d1 a1 len1 cap1 z1 W ws0 wd0 wr0 ws1 wd1 wr1).mono fun e W' ⟨he, bel⟩ => ?_
  subst he
  exact ⟨_, rfl, _, _, _, [], _, [], hW', trodAll_mk1 (shut_bool Try.underlying4 _), (trodAll_cons_mk (Below.trod laidOut (by kernel_rfl) (of_decide_eq_true (by kernel_rfl)) kk0 bel lt0) (trodAll_cons_mk (Below.trod laidOut (by kernel_rfl) (of_decide_eq_true (by kernel_rfl)) kk1 bel lt1) trodAll_mk0)), rfl, bel.frame _, fun h => by cases h⟩
theorem over : Rows.fnExactSumAddRow.holds Try.pinned (OpenSpec.ofChange Rows.fnExactSumAddSpec) :=
  OpenClaim.holds_of_wide 14 Try.f14 rfl rfl rfl rfl rfl rfl rfl ⟨rfl, rfl, rfl, rfl, rfl⟩ rfl rfl rfl rfl rfl (by kernel_rfl) Try.func14 (by kernel_rfl)
    (of_decide_eq_true (by kernel_rfl)) (by unfold Func.isWrapper; first | (rw [if_pos (by decide +kernel)]; kernel_rfl) | (rw [if_neg (by decide +kernel)]; exact ⟨rfl, rfl⟩))
    (fun os started H enc _ => lifted os started H enc)

/-- ████ THE STATEMENT ████ -/
theorem proved : Rows.FnExactSumAddSaid := over
#print axioms proved
end Go.Proofs.Ytnobdifmnoehbaa.fnExactSumAdd
