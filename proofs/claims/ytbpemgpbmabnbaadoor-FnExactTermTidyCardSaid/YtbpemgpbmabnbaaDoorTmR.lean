/- The model reads a whole text. -/
import Derived.Test.YtbpemgpbmabnbaaDoorTmQ
namespace Go.Proofs.YtbpemgpbmabnbaaDoor.tm
open Go.ChangeShapes Go.WideShapes Go.ChangeAt Go.RowKit Go.Tm
set_option linter.unusedVariables false
set_option linter.unusedSimpArgs false
set_option maxRecDepth 10000
set_option maxHeartbeats 1000000

def ONo (w : World) (e : Ending) (w' : World) : Prop := ∃ s : S4, e = .returned (.tuple #[.agg #[.int .u8 s.k, .slice s.p s.n s.c, .int .i64 s.d, .slice s.q s.m s.cq], .bool false]) ∧ Below w.heap.size w w'
def OYes (w : World) (t : Tm) (e : Ending) (w' : World) : Prop := ∃ s : S4, e = .returned (.tuple #[.agg #[.int .u8 s.k, .slice s.p s.n s.c, .int .i64 s.d, .slice s.q s.m s.cq], .bool true]) ∧ SRep w.heap.size w' t s ∧ Below w.heap.size w w'
theorem of_long (w : World) (S : ByteArray) (hs : (S.size : Int) ≤ maxLen) (h : (40 : Int) < S.size) :
    Calls Tryd.prog 16 #[.string S] w (ONo w) := by
  unfold maxLen at hs
  go_enter Tryd.func16, Tryd.ntmps16
  go_wp2_with (go_at_call 22; refine (leaf_m _ _ _ ?_).mono ?_; (simp); rintro e w1 ⟨q, cq, rfl, hb⟩; have B1 := Lib.hid (below_next (w := w) (by (repeat (first | with_reducible exact Below.refl _ _ | with_reducible exact B1.out | with_reducible exact B2.out | with_reducible exact B3.out | with_reducible exact B4.out | with_reducible refine below_alloc ?_ _ | with_reducible refine below_set ?_ _ _ | with_reducible refine Below.drew ?_))) hb); have K0 := Lib.hid (((Keep.zero w).alloc _).below hb); obtain ⟨_, _, _, _, _, _, _, _, _⟩ := K0.out.facts; clear hb)
  refine bodyPost_ret (v := .tuple #[.agg #[.int .u8 109, .slice (some ⟨w.heap.size + 1, 0, none⟩) 0 0, .int .i64 0, .slice q 0 cq], .bool false]) (by simp [results, Tryd.results16, go_sem, *]) rfl ⟨⟨109, some ⟨w.heap.size + 1, 0, none⟩, 0, 0, 0, q, 0, cq⟩, rfl, ?_⟩
  (repeat (first | with_reducible exact Below.refl _ _ | with_reducible exact B1.out | with_reducible exact B2.out | with_reducible exact B3.out | with_reducible exact B4.out | with_reducible refine below_alloc ?_ _ | with_reducible refine below_set ?_ _ _ | with_reducible refine Below.drew ?_))
theorem of_no (w : World) (S : ByteArray) (h : (S.size : Int) ≤ 40) (hR : ∀ w, Calls Tryd.prog 23 #[.string S, .int .i64 0] w (SNo w)) :
    Calls Tryd.prog 16 #[.string S] w (ONo w) := by
  go_enter Tryd.func16, Tryd.ntmps16
  go_wp2_with (go_at_call 23; (with_reducible refine (hR _).mono ?_); rintro e w1 ⟨⟨uk, up, un, uc, ud, uq, um, ucq⟩, rfl, hb⟩; have B1 := Lib.hid (below_next (w := w) (by (repeat (first | with_reducible exact Below.refl _ _ | with_reducible exact B1.out | with_reducible exact B2.out | with_reducible exact B3.out | with_reducible exact B4.out | with_reducible refine below_alloc ?_ _ | with_reducible refine below_set ?_ _ _ | with_reducible refine Below.drew ?_))) hb); have K0 := Lib.hid ((Keep.zero w).below hb); obtain ⟨zz, _, _, _, _, _, _, _, _⟩ := K0.out.facts; have z1 := Nat.lt_succ_of_lt zz; clear hb)
  refine bodyPost_ret (v := .tuple #[.agg #[.int .u8 uk, .slice up un uc, .int .i64 ud, .slice uq um ucq], .bool false]) (by simp [results, Tryd.results16, go_sem, *]) rfl ⟨⟨uk, up, un, uc, ud, uq, um, ucq⟩, rfl, ?_⟩
  (repeat (first | with_reducible exact Below.refl _ _ | with_reducible exact B1.out | with_reducible exact B2.out | with_reducible exact B3.out | with_reducible exact B4.out | with_reducible refine below_alloc ?_ _ | with_reducible refine below_set ?_ _ _ | with_reducible refine Below.drew ?_))
theorem of_rest (w : World) (S : ByteArray) (h : (S.size : Int) ≤ 40) (t : Tm) (n : Nat) (hn : (0 : Int) < n) (hm : ((n : Int) == S.size) = false) (hn4 : (n : Int) ≤ 40) (hR : ∀ w, Calls Tryd.prog 23 #[.string S, .int .i64 0] w (SYes w t n)) :
    Calls Tryd.prog 16 #[.string S] w (ONo w) := by
  go_enter Tryd.func16, Tryd.ntmps16
  go_wp2_with (go_at_call 23; (with_reducible refine (hR _).mono ?_); rintro e w1 ⟨⟨uk, up, un, uc, ud, uq, um, ucq⟩, rfl, hu, hb⟩; have HU := Lib.hid hu; clear hu; have B1 := Lib.hid (below_next (w := w) (by (repeat (first | with_reducible exact Below.refl _ _ | with_reducible exact B1.out | with_reducible exact B2.out | with_reducible exact B3.out | with_reducible exact B4.out | with_reducible refine below_alloc ?_ _ | with_reducible refine below_set ?_ _ _ | with_reducible refine Below.drew ?_))) hb); have K0 := Lib.hid ((Keep.zero w).below hb); obtain ⟨zz, _, _, _, _, _, _, _, _⟩ := K0.out.facts; have z1 := Nat.lt_succ_of_lt zz; clear hb)
  refine bodyPost_ret (v := .tuple #[.agg #[.int .u8 uk, .slice up un uc, .int .i64 ud, .slice uq um ucq], .bool false]) (by simp [results, Tryd.results16, go_sem, *]) rfl ⟨⟨uk, up, un, uc, ud, uq, um, ucq⟩, rfl, ?_⟩
  (repeat (first | with_reducible exact Below.refl _ _ | with_reducible exact B1.out | with_reducible exact B2.out | with_reducible exact B3.out | with_reducible exact B4.out | with_reducible refine below_alloc ?_ _ | with_reducible refine below_set ?_ _ _ | with_reducible refine Below.drew ?_))
theorem of_yes (w : World) (S : ByteArray) (h : (S.size : Int) ≤ 40) (t : Tm) (hn : (0 : Int) < S.size) (hR : ∀ w, Calls Tryd.prog 23 #[.string S, .int .i64 0] w (SYes w t S.size)) :
    Calls Tryd.prog 16 #[.string S] w (OYes w t) := by
  go_enter Tryd.func16, Tryd.ntmps16
  go_wp2_with (go_at_call 23; (with_reducible refine (hR _).mono ?_); rintro e w1 ⟨⟨uk, up, un, uc, ud, uq, um, ucq⟩, rfl, hu, hb⟩; have HU := Lib.hid hu; clear hu; have B1 := Lib.hid (below_next (w := w) (by (repeat (first | with_reducible exact Below.refl _ _ | with_reducible exact B1.out | with_reducible exact B2.out | with_reducible exact B3.out | with_reducible exact B4.out | with_reducible refine below_alloc ?_ _ | with_reducible refine below_set ?_ _ _ | with_reducible refine Below.drew ?_))) hb); have K0 := Lib.hid ((Keep.zero w).below hb); obtain ⟨zz, _, _, _, _, _, _, _, _⟩ := K0.out.facts; have z1 := Nat.lt_succ_of_lt zz; clear hb)
  refine bodyPost_ret (v := .tuple #[.agg #[.int .u8 uk, .slice up un uc, .int .i64 ud, .slice uq um ucq], .bool true]) (by simp [results, Tryd.results16, go_sem, *]) rfl ⟨⟨uk, up, un, uc, ud, uq, um, ucq⟩, rfl, ?_, ?_⟩
  · exact (HU.out.kept (by repeat (first | with_reducible exact Kept.refl _ _ | with_reducible refine Kept.alloc ?_ _ | with_reducible refine Kept.drew ?_ | with_reducible refine Kept.set ?_ (by simp) _ _))).mono (by simp)
  · (repeat (first | with_reducible exact Below.refl _ _ | with_reducible exact B1.out | with_reducible exact B2.out | with_reducible exact B3.out | with_reducible exact B4.out | with_reducible refine below_alloc ?_ _ | with_reducible refine below_set ?_ _ _ | with_reducible refine Below.drew ?_))
theorem spec_of (l : List UInt8) (w : World) (hl : l.length ≤ maxLen) : match whole l with
    | some t => Calls Tryd.prog 16 #[.string ⟨l.toArray⟩] w (OYes w t)
    | none => Calls Tryd.prog 16 #[.string ⟨l.toArray⟩] w (ONo w) := by
  by_cases h : 40 < l.length
  · rw [show whole l = none by simp [whole, h]]
    exact of_long w _ (by show ((l.length : Nat) : Int) ≤ _; omega) (by show (40 : Int) < ((l.length : Nat) : Int); omega)
  · have hz : (⟨l.toArray⟩ : ByteArray).size = l.length := rfl
    have hs : (((⟨l.toArray⟩ : ByteArray).size : Nat) : Int) ≤ 40 := by rw [hz]; omega
    have hR := srd_ok (l.length + 1)
    have hd : (⟨l.toArray⟩ : ByteArray).data.toList.drop 0 = l := rfl
    cases e : rd (l.length + 1) l with
    | none =>
      rw [show whole l = none by simp [whole, h, e]]
      refine of_no w _ hs fun w => ?_
      have := hR ⟨l.toArray⟩ 0 l w hd (Nat.zero_le _) (by rw [hz]; omega) (by omega)
      rw [e, srq_none] at this
      exact this
    | some x =>
      obtain ⟨t, r⟩ := x
      have hlt := (rd_len _ l t r e).1
      have hc : ∀ w, Calls Tryd.prog 23 #[.string ⟨l.toArray⟩, .int .i64 0] w (SYes w t (l.length - r.length)) := fun w => by
        have := hR ⟨l.toArray⟩ 0 l w hd (Nat.zero_le _) (by rw [hz]; omega) (by omega)
        rw [e, srq_some] at this
        exact this
      cases r with
      | nil =>
        rw [show whole l = some t by simp [whole, h, e]]
        exact of_yes w _ hs t (by rw [hz]; simp at hlt; omega) hc
      | cons c r =>
        rw [show whole l = none by simp [whole, h, e]]
        simp only [List.length_cons] at hlt hc
        exact of_rest w _ hs t _ (by omega) (by rw [hz, beq_eq_false_iff_ne]; omega) (by omega) hc
theorem sin_yes (w : World) (S : ByteArray) (t : Tm) (hc : Calls Tryd.prog 16 #[.string S] w (OYes w t)) : Calls Tryd.prog 8 #[.string S] w fun e w' => e = .returned (.bool true) ∧ Below w.heap.size w w' := by
  go_enter Tryd.func8, Tryd.ntmps8
  go_wp2_with (go_at_call 16; (with_reducible refine hc.mono ?_); rintro e w1 ⟨s, rfl, hx, hb⟩; have HX := Lib.hid hx; clear hx)
  go_ret
  exact ⟨rfl, below_alloc hb _⟩
theorem sin_no (w : World) (S : ByteArray) (hc : Calls Tryd.prog 16 #[.string S] w (ONo w)) : Calls Tryd.prog 8 #[.string S] w fun e w' => e = .returned (.bool false) ∧ Below w.heap.size w w' := by
  go_enter Tryd.func8, Tryd.ntmps8
  go_wp2_with (go_at_call 16; (with_reducible refine hc.mono ?_); rintro e w1 ⟨s, rfl, hb⟩)
  go_ret
  exact ⟨rfl, below_alloc hb _⟩
theorem spec_in (l : List UInt8) (w : World) (hl : l.length ≤ maxLen) : Calls Tryd.prog 8 #[.string ⟨l.toArray⟩] w fun e w' => e = .returned (.bool (whole l).isSome) ∧ Below w.heap.size w w' := by
  have h := spec_of l w hl
  cases e : whole l with
  | none => rw [e] at h; exact sin_no w _ h
  | some t => rw [e] at h; exact sin_yes w _ t h
theorem sdg_yes (w : World) (S : ByteArray) (t : Tm) (hc : Calls Tryd.prog 16 #[.string S] w (OYes w t)) : Calls Tryd.prog 10 #[.string S] w fun e w' => e = .returned (.tuple #[.int .i64 (t.deg : Nat), .bool true]) ∧ Below w.heap.size w w' := by
  go_enter Tryd.func10, Tryd.ntmps10
  go_wp2_with (go_at_call 16; (with_reducible refine hc.mono ?_); rintro e w1 ⟨⟨uk, up, un, uc, ud, uq, um, ucq⟩, rfl, hx, hb⟩; have hud : ud = t.deg := hx.deg; subst hud; have HX := Lib.hid hx; clear hx)
  go_ret2
  exact ⟨rfl, below_alloc hb _⟩
theorem sdg_no (w : World) (S : ByteArray) (hc : Calls Tryd.prog 16 #[.string S] w (ONo w)) : Calls Tryd.prog 10 #[.string S] w fun e w' => e = .returned (.tuple #[.int .i64 0, .bool false]) ∧ Below w.heap.size w w' := by
  go_enter Tryd.func10, Tryd.ntmps10
  go_wp2_with (go_at_call 16; (with_reducible refine hc.mono ?_); rintro e w1 ⟨s, rfl, hb⟩)
  go_ret2
  exact ⟨rfl, below_alloc hb _⟩
theorem spec_degree (l : List UInt8) (w : World) (hl : l.length ≤ maxLen) : Calls Tryd.prog 10 #[.string ⟨l.toArray⟩] w fun e w' => e = .returned (degV l) ∧ Below w.heap.size w w' := by
  have h := spec_of l w hl
  unfold degV
  cases e : whole l with
  | none => rw [e] at h; exact sdg_no w _ h
  | some t => rw [e] at h; exact sdg_yes w _ t h
end Go.Proofs.YtbpemgpbmabnbaaDoor.tm
