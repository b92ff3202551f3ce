/- The model reads a letter and digits. -/
import Derived.Test.YtbpemgpbmabnbaaDoorTmL
namespace Go.Proofs.YtbpemgpbmabnbaaDoor.tm
open Go.ChangeShapes Go.WideShapes Go.ChangeAt Go.RowKit Go.Tm
set_option linter.unusedVariables false
set_option linter.unusedSimpArgs false
set_option maxRecDepth 10000
set_option maxHeartbeats 2000000

structure DR (w0 wr : World) (d : List UInt8) (v : Value) (j : Nat) : Prop where
  own : wr.ownsRow w0.heap.size 3 1 v j (nums (d.take j))
  below : Below w0.heap.size w0 wr
  nn : v ≠ .slice none 0 0
theorem DR.start (w0 : World) (d : List UInt8) : DR w0 (w0.alloc (.cells #[] 3)) d (.slice (some ⟨w0.heap.size, 0, none⟩) 0 0) 0 :=
  ⟨⟨by simp [nums], .inr ⟨w0.heap.size, 0, #[], rfl, Nat.le_refl _, heap_new _ _, Nat.le_refl _, by unfold maxLen; omega, by simp, by simp [nums]⟩⟩, (Below.refl _ _).alloc (Nat.le_refl _) _, by simp⟩
theorem DR.start' (w0 : World) (d : List UInt8) (n : Nat) (h : n = w0.heap.size) : DR w0 (w0.alloc (.cells #[] 3)) d (.slice (some ⟨n, 0, none⟩) 0 0) 0 := by
  subst h; exact DR.start w0 d
theorem DR.step {w0 wr w1 : World} {d : List UInt8} {v v' : Value} {j : Nat} (h : DR w0 wr d v j) (hj : j < d.length) {o : Obj}
    (hown : w1.ownsRow w0.heap.size 3 1 v' (j + 1) (nums (d.take j) ++ [.int .i64 ((dec d[j] : Nat) : Int)]))
    (hg : (wr.alloc o).grownBy w1 v.ownBlock) (hn : v' = .slice none 0 0 ↔ v = .slice none 0 0 ∧ 1 = 0) : DR w0 w1 d v' (j + 1) := by
  refine ⟨by rw [nums_snoc d j hj]; exact hown, ?_, fun e => by have := (hn.1 e).2; omega⟩
  refine (h.below.alloc h.below.size o).grown hg (by simp; have := h.below.size; omega) fun k hk => ?_
  have := (h.own.lt k hk).1; omega
theorem DR.row {w0 wr : World} {d : List UInt8} {v : Value} (h : DR w0 wr d v d.length) : RowB w0.heap.size wr v (d.map dec) := by
  have hc := fun g => h.own.cells (g := g)
  obtain ⟨_, h2⟩ := h.own
  rcases h2 with ⟨h2, _⟩ | ⟨g, cap, cur, e1, e2, e3, e4⟩
  · exact absurd h2 h.nn
  · subst e1
    refine ⟨g, 0, cap, by simp, e2, (Array.getElem?_eq_some_iff.1 e3).1, fun i hi => ?_⟩
    have hi' : i < d.length := by simpa using hi
    have := hc g (by simp [Value.ownBlock]) i (.int .i64 ((dec d[i] : Nat) : Int)) (by simp [nums, hi'])
    have e : (⟨g, 0, none⟩ : Addr).add i = ⟨g, 0 + i, none⟩ := by cases i <;> simp [Addr.add]
    rw [e] at this
    rw [this]; simp [gn, hi']
theorem sread_leaf0_no (w : World) (S : ByteArray) (k : Nat) (hS : (S.size : Int) ≤ 40) (c : UInt8) (d : List UInt8) (a : List Nat) (ha : a = d.map dec) (hk : (k : Int) < S.size) (hc : ∀ h, S[k]'h = c) (hL : ∀ w, Calls Tryd.prog 33 #[.int .u8 c.toNat] w fun e w' => e = .returned (.bool true) ∧ w = w') (hG : ∀ j (hj : j < d.length) h, S[k + 1 + j]'h = d[j]) (hDG : ∀ c ∈ d, isD c = true) (hlen : (k : Int) + 1 + d.length ≤ S.size) (hE : (S.size : Int) = (k : Int) + 1 + d.length) (hA : isShare a = false) :
    Calls Tryd.prog 23 #[.string S, .int .i64 k] w (SNo w) := by
  obtain ⟨i0, hi, hz0, hz1, hz2⟩ := info_parts info3
  have HG := Lib.hid hG
  have HDG := Lib.hid hDG
  have HA9 : Hid (∀ i, gn a i ≤ 9) := Lib.hid fun i => gn_digit d a ha hDG i
  have HAL : Hid (a.length ≤ 40) := Lib.hid (by rw [ha]; simp; omega)
  have HSI : ∀ w sl, RowAt w sl a → Calls Tryd.prog 34 #[sl] w fun e w' => e = .returned (.bool false) ∧ Below w.heap.size w w' := fun w sl h => by
    have := spec_share w sl a h HA9.out HAL.out
    rw [hA] at this; exact this
  have HA := Lib.hid ha
  clear hG hDG ha hA
  have HE := Lib.hid hE
  clear hE
  go_enter Tryd.func23, Tryd.ntmps23
  go_wp2_with (first | (go_at_call 22; refine (leaf_m _ _ _ ?_).mono ?_; (simp); rintro e w1 ⟨q, cq, rfl, hb⟩; have B1 := Lib.hid (below_next (w := w) (by (repeat (first | with_reducible exact Below.refl _ _ | with_reducible exact B1.out | with_reducible exact B2.out | with_reducible exact B3.out | with_reducible exact B4.out | with_reducible refine below_alloc ?_ _ | with_reducible refine below_set ?_ _ _ | with_reducible refine Below.drew ?_))) hb); have K0 := Lib.hid (((Keep.zero w).alloc _).below hb); obtain ⟨_, _, _, _, _, _, _, _, _⟩ := K0.out.facts; clear hb) | (go_at_call 33; (with_reducible refine (hL _).mono ?_); rintro e w' ⟨rfl, rfl⟩))
  go_loopw [8, 9] (fun v e wr => ∃ j : Nat, j ≤ d.length ∧ e = .int .i64 ((k : Int) + 1 + j) ∧ Hid (DR (w1.alloc (.cells #[.int .u8 109, .slice (some ⟨w.heap.size + 1, 0, none⟩) 0 0, .int .i64 0, .slice q 0 cq] 33)) wr d v j)) (fun _ e _ => S.size - (intOf e).toNat)
  case atStart => exact ⟨0, Nat.zero_le _, by simp, Lib.hid (DR.start' (w1.alloc (.cells #[.int .u8 109, .slice (some ⟨w.heap.size + 1, 0, none⟩) 0 0, .int .i64 0, .slice q 0 cq] 33)) d _ (by simp))⟩
  case round =>
    obtain ⟨j, hj, rfl, HD⟩ := hrel
    by_cases hlt : j < d.length
    · obtain ⟨x, hx⟩ : ∃ x, x = d[j] := ⟨_, rfl⟩
      have hxi : ∀ h, S[k + 1 + j]'h = x := fun h => by rw [hx]; exact HG.out j hlt h
      have hdx := HDG.out d[j] (List.getElem_mem hlt)
      rw [← hx] at hdx
      have hlo : (48 : Int) ≤ (x.toNat : Int) := by have : 48 ≤ x.toNat ∧ x.toNat ≤ 57 := by simpa [isD] using hdx
                                                    omega
      have hhi : (x.toNat : Int) ≤ 57 := by have : 48 ≤ x.toNat ∧ x.toNat ≤ 57 := by simpa [isD] using hdx
                                            omega
      have hin : (k : Int) + 1 + j < S.size := by omega
      have HZ : Hid ((x.toNat : Int) - 48 = ((dec d[j] : Nat) : Int)) := Lib.hid (by rw [← hx]; unfold dec; omega)
      have hbs : ((w1.alloc (.cells #[.int .u8 109, .slice (some ⟨w.heap.size + 1, 0, none⟩) 0 0, .int .i64 0, .slice q 0 cq] 33))).heap.size ≤ wr.heap.size := HD.out.below.size
      have hj0 : 0 ≤ (j : Int) := Int.natCast_nonneg _
      have hk0 : 0 ≤ (k : Int) := Int.natCast_nonneg _
      clear hx hdx
      go_wp2_with (at_builtin; refine wpList_append_own _ rfl _ _ 30 rfl ((w1.alloc (.cells #[.int .u8 109, .slice (some ⟨w.heap.size + 1, 0, none⟩) 0 0, .int .i64 0, .slice q 0 cq] 33))).heap.size 3 i0 (.int .i64 0) 1 8 Tryd.underlying30 hi hz0 hz1 hz2 rfl (by decide) _ _ _ rfl (HD.out.own.alloc _) ⟨wr.heap.size, 0, none⟩ 1 1 [.int .i64 ((x.toNat : Int) - 48)] rfl rfl (cell_one_new _ _ _) (by simp [Value.oneCell']) (by unfold maxLen; omega) (by omega) (Nat.le_trans hbs (by simp)) ?_; intro v' wn hown' hgrow hnil)
      rw [HZ.out] at hown'
      have HI := Lib.hid (HD.out.step hlt hown' hgrow hnil)
      clear hown' hgrow hnil
      go_wp2
      go_roundw
      case rel => exact ⟨j + 1, by omega, by go_num, HI⟩
      case measure => simp [intOf]; omega
    · have hjd : j = d.length := by omega
      subst hjd
      have hr0 := HD.out.row
      rw [← HA.out] at hr0
      have HR := Lib.hid hr0
      clear hr0
      have HB := Lib.hid HD.out.below
      have K1 := Lib.hid (Keep.below (b := w.heap.size) (s := zero4) (by exact K0.out.alloc _) HB.out)
      have K2 := Lib.hid (Keep.below (b := w1.heap.size) (s := ⟨109, some ⟨w.heap.size + 1, 0, none⟩, 0, 0, 0, q, 0, cq⟩) (by exact Keep.new w1 ⟨109, some ⟨w.heap.size + 1, 0, none⟩, 0, 0, 0, q, 0, cq⟩) HB.out)
      have B2 := Lib.hid (below_next (w := w) (by (repeat (first | with_reducible exact Below.refl _ _ | with_reducible exact B1.out | with_reducible exact B2.out | with_reducible exact B3.out | with_reducible exact B4.out | with_reducible refine below_alloc ?_ _ | with_reducible refine below_set ?_ _ _ | with_reducible refine Below.drew ?_))) HB.out)
      obtain ⟨_, _, _, _, _, _, _, _, _⟩ := K1.out.facts
      obtain ⟨_, _, _, _, _, _, _, _, _⟩ := K2.out.facts
      obtain ⟨rb, ro, rc, hv, hr1, hr2, hr3⟩ := HR.out
      clear hr3 hr1 HD
      subst hv
      have hj0 : 0 ≤ (d.length : Int) := Int.natCast_nonneg _
      have hk0 : 0 ≤ (k : Int) := Int.natCast_nonneg _
      have hwk : w.heap.size ≤ w1.heap.size + 1 := by have := B1.out.size; omega
      have hq : ¬ (k : Int) + 1 + d.length < S.size := by have := HE.out; omega
      go_wp2_with (go_at_call 34; refine (HSI _ _ HR.out.at).mono ?_; rintro e w3 ⟨rfl, hb⟩; have B3 := Lib.hid (below_next (w := w) (by (repeat (first | with_reducible exact Below.refl _ _ | with_reducible exact B1.out | with_reducible exact B2.out | with_reducible exact B3.out | with_reducible exact B4.out | with_reducible refine below_alloc ?_ _ | with_reducible refine below_set ?_ _ _ | with_reducible refine Below.drew ?_))) hb); have K1' := Lib.hid (Keep.below K1.out hb); have K2' := Lib.hid (Keep.below K2.out hb); have HR' := Lib.hid (HR.out.kept ((Kept.refl _ _).below hb)); obtain ⟨_, _, _, _, _, _, _, _, _⟩ := K1'.out.facts; obtain ⟨_, _, _, _, _, _, _, _, _⟩ := K2'.out.facts; clear hb)
      refine bodyPost_ret (v := .tuple #[.agg #[.int .u8 109, .slice (some ⟨w.heap.size + 1, 0, none⟩) 0 0, .int .i64 0, .slice q 0 cq], .int .i64 0]) (by simp [results, Tryd.results23, go_sem, *]) rfl ⟨⟨109, some ⟨w.heap.size + 1, 0, none⟩, 0, 0, 0, q, 0, cq⟩, rfl, ?_⟩
      (repeat (first | with_reducible exact Below.refl _ _ | with_reducible exact B1.out | with_reducible exact B2.out | with_reducible exact B3.out | with_reducible exact B4.out | with_reducible refine below_alloc ?_ _ | with_reducible refine below_set ?_ _ _ | with_reducible refine Below.drew ?_))
theorem sread_leaf0_yes (w : World) (S : ByteArray) (k : Nat) (hS : (S.size : Int) ≤ 40) (c : UInt8) (d : List UInt8) (a : List Nat) (ha : a = d.map dec) (hk : (k : Int) < S.size) (hc : ∀ h, S[k]'h = c) (hL : ∀ w, Calls Tryd.prog 33 #[.int .u8 c.toNat] w fun e w' => e = .returned (.bool true) ∧ w = w') (hG : ∀ j (hj : j < d.length) h, S[k + 1 + j]'h = d[j]) (hDG : ∀ c ∈ d, isD c = true) (hlen : (k : Int) + 1 + d.length ≤ S.size) (hE : (S.size : Int) = (k : Int) + 1 + d.length) (hA : isShare a = true) :
    Calls Tryd.prog 23 #[.string S, .int .i64 k] w (SYes w (.leaf c a) (k + 1 + d.length)) := by
  obtain ⟨i0, hi, hz0, hz1, hz2⟩ := info_parts info3
  have HG := Lib.hid hG
  have HDG := Lib.hid hDG
  have HA9 : Hid (∀ i, gn a i ≤ 9) := Lib.hid fun i => gn_digit d a ha hDG i
  have HAL : Hid (a.length ≤ 40) := Lib.hid (by rw [ha]; simp; omega)
  have HSI : ∀ w sl, RowAt w sl a → Calls Tryd.prog 34 #[sl] w fun e w' => e = .returned (.bool true) ∧ Below w.heap.size w w' := fun w sl h => by
    have := spec_share w sl a h HA9.out HAL.out
    rw [hA] at this; exact this
  have HA := Lib.hid ha
  clear hG hDG ha hA
  have HE := Lib.hid hE
  clear hE
  go_enter Tryd.func23, Tryd.ntmps23
  go_wp2_with (first | (go_at_call 22; refine (leaf_m _ _ _ ?_).mono ?_; (simp); rintro e w1 ⟨q, cq, rfl, hb⟩; have B1 := Lib.hid (below_next (w := w) (by (repeat (first | with_reducible exact Below.refl _ _ | with_reducible exact B1.out | with_reducible exact B2.out | with_reducible exact B3.out | with_reducible exact B4.out | with_reducible refine below_alloc ?_ _ | with_reducible refine below_set ?_ _ _ | with_reducible refine Below.drew ?_))) hb); have K0 := Lib.hid (((Keep.zero w).alloc _).below hb); obtain ⟨_, _, _, _, _, _, _, _, _⟩ := K0.out.facts; clear hb) | (go_at_call 33; (with_reducible refine (hL _).mono ?_); rintro e w' ⟨rfl, rfl⟩))
  go_loopw [8, 9] (fun v e wr => ∃ j : Nat, j ≤ d.length ∧ e = .int .i64 ((k : Int) + 1 + j) ∧ Hid (DR (w1.alloc (.cells #[.int .u8 109, .slice (some ⟨w.heap.size + 1, 0, none⟩) 0 0, .int .i64 0, .slice q 0 cq] 33)) wr d v j)) (fun _ e _ => S.size - (intOf e).toNat)
  case atStart => exact ⟨0, Nat.zero_le _, by simp, Lib.hid (DR.start' (w1.alloc (.cells #[.int .u8 109, .slice (some ⟨w.heap.size + 1, 0, none⟩) 0 0, .int .i64 0, .slice q 0 cq] 33)) d _ (by simp))⟩
  case round =>
    obtain ⟨j, hj, rfl, HD⟩ := hrel
    by_cases hlt : j < d.length
    · obtain ⟨x, hx⟩ : ∃ x, x = d[j] := ⟨_, rfl⟩
      have hxi : ∀ h, S[k + 1 + j]'h = x := fun h => by rw [hx]; exact HG.out j hlt h
      have hdx := HDG.out d[j] (List.getElem_mem hlt)
      rw [← hx] at hdx
      have hlo : (48 : Int) ≤ (x.toNat : Int) := by have : 48 ≤ x.toNat ∧ x.toNat ≤ 57 := by simpa [isD] using hdx
                                                    omega
      have hhi : (x.toNat : Int) ≤ 57 := by have : 48 ≤ x.toNat ∧ x.toNat ≤ 57 := by simpa [isD] using hdx
                                            omega
      have hin : (k : Int) + 1 + j < S.size := by omega
      have HZ : Hid ((x.toNat : Int) - 48 = ((dec d[j] : Nat) : Int)) := Lib.hid (by rw [← hx]; unfold dec; omega)
      have hbs : ((w1.alloc (.cells #[.int .u8 109, .slice (some ⟨w.heap.size + 1, 0, none⟩) 0 0, .int .i64 0, .slice q 0 cq] 33))).heap.size ≤ wr.heap.size := HD.out.below.size
      have hj0 : 0 ≤ (j : Int) := Int.natCast_nonneg _
      have hk0 : 0 ≤ (k : Int) := Int.natCast_nonneg _
      clear hx hdx
      go_wp2_with (at_builtin; refine wpList_append_own _ rfl _ _ 30 rfl ((w1.alloc (.cells #[.int .u8 109, .slice (some ⟨w.heap.size + 1, 0, none⟩) 0 0, .int .i64 0, .slice q 0 cq] 33))).heap.size 3 i0 (.int .i64 0) 1 8 Tryd.underlying30 hi hz0 hz1 hz2 rfl (by decide) _ _ _ rfl (HD.out.own.alloc _) ⟨wr.heap.size, 0, none⟩ 1 1 [.int .i64 ((x.toNat : Int) - 48)] rfl rfl (cell_one_new _ _ _) (by simp [Value.oneCell']) (by unfold maxLen; omega) (by omega) (Nat.le_trans hbs (by simp)) ?_; intro v' wn hown' hgrow hnil)
      rw [HZ.out] at hown'
      have HI := Lib.hid (HD.out.step hlt hown' hgrow hnil)
      clear hown' hgrow hnil
      go_wp2
      go_roundw
      case rel => exact ⟨j + 1, by omega, by go_num, HI⟩
      case measure => simp [intOf]; omega
    · have hjd : j = d.length := by omega
      subst hjd
      have hr0 := HD.out.row
      rw [← HA.out] at hr0
      have HR := Lib.hid hr0
      clear hr0
      have HB := Lib.hid HD.out.below
      have K1 := Lib.hid (Keep.below (b := w.heap.size) (s := zero4) (by exact K0.out.alloc _) HB.out)
      have K2 := Lib.hid (Keep.below (b := w1.heap.size) (s := ⟨109, some ⟨w.heap.size + 1, 0, none⟩, 0, 0, 0, q, 0, cq⟩) (by exact Keep.new w1 ⟨109, some ⟨w.heap.size + 1, 0, none⟩, 0, 0, 0, q, 0, cq⟩) HB.out)
      have B2 := Lib.hid (below_next (w := w) (by (repeat (first | with_reducible exact Below.refl _ _ | with_reducible exact B1.out | with_reducible exact B2.out | with_reducible exact B3.out | with_reducible exact B4.out | with_reducible refine below_alloc ?_ _ | with_reducible refine below_set ?_ _ _ | with_reducible refine Below.drew ?_))) HB.out)
      obtain ⟨_, _, _, _, _, _, _, _, _⟩ := K1.out.facts
      obtain ⟨_, _, _, _, _, _, _, _, _⟩ := K2.out.facts
      obtain ⟨rb, ro, rc, hv, hr1, hr2, hr3⟩ := HR.out
      clear hr3 hr1 HD
      subst hv
      have hj0 : 0 ≤ (d.length : Int) := Int.natCast_nonneg _
      have hk0 : 0 ≤ (k : Int) := Int.natCast_nonneg _
      have hwk : w.heap.size ≤ w1.heap.size + 1 := by have := B1.out.size; omega
      have hq : ¬ (k : Int) + 1 + d.length < S.size := by have := HE.out; omega
      go_wp2_with (first | (go_at_call 34; refine (HSI _ _ HR.out.at).mono ?_; rintro e w3 ⟨rfl, hb⟩; have B3 := Lib.hid (below_next (w := w) (by (repeat (first | with_reducible exact Below.refl _ _ | with_reducible exact B1.out | with_reducible exact B2.out | with_reducible exact B3.out | with_reducible exact B4.out | with_reducible refine below_alloc ?_ _ | with_reducible refine below_set ?_ _ _ | with_reducible refine Below.drew ?_))) hb); have K1' := Lib.hid (Keep.below K1.out hb); have K2' := Lib.hid (Keep.below K2.out hb); have HR' := Lib.hid (HR.out.kept ((Kept.refl _ _).below hb)); obtain ⟨_, _, _, _, _, _, _, _, _⟩ := K1'.out.facts; obtain ⟨_, _, _, _, _, _, _, _, _⟩ := K2'.out.facts; clear hb) | (go_at_call 22; refine (spec_leaf _ c.toNat _ _ _ a (HR'.out.at) HA9.out HAL.out).mono ?_; rintro e w4 ⟨q2, cq2, rfl, hb⟩; have B4 := Lib.hid (below_next (w := w) (by (repeat (first | with_reducible exact Below.refl _ _ | with_reducible exact B1.out | with_reducible exact B2.out | with_reducible exact B3.out | with_reducible exact B4.out | with_reducible refine below_alloc ?_ _ | with_reducible refine below_set ?_ _ _ | with_reducible refine Below.drew ?_))) hb); have K3 := Lib.hid (Keep.below K1'.out hb); have HR2 := Lib.hid (HR'.out.kept ((Kept.refl _ _).below hb)); obtain ⟨zz, _, _, _, _, _, _, _, _⟩ := K3.out.facts; clear hb))
      refine bodyPost_ret (v := .tuple #[.agg #[.int .u8 c.toNat, .slice (some ⟨rb, ro, none⟩) a.length rc, .int .i64 (sumL a : Nat), .slice q2 0 cq2], .int .i64 ((k : Int) + 1 + d.length)]) (by simp [results, Tryd.results23, go_sem, *]) rfl ⟨⟨c.toNat, some ⟨rb, ro, none⟩, a.length, rc, sumL a, q2, 0, cq2⟩, rfl, ⟨rfl, rfl, rfl, ?_⟩, ?_⟩
      · exact (HR2.out.kept (by repeat (first | with_reducible exact Kept.refl _ _ | with_reducible refine Kept.alloc ?_ _ | with_reducible refine Kept.drew ?_ | with_reducible refine Kept.set ?_ (by simp; omega) _ _))).mono (by simp; omega)
      · (repeat (first | with_reducible exact Below.refl _ _ | with_reducible exact B1.out | with_reducible exact B2.out | with_reducible exact B3.out | with_reducible exact B4.out | with_reducible refine below_alloc ?_ _ | with_reducible refine below_set ?_ _ _ | with_reducible refine Below.drew ?_))
theorem sread_leaf1_no (w : World) (S : ByteArray) (k : Nat) (hS : (S.size : Int) ≤ 40) (c : UInt8) (d : List UInt8) (a : List Nat) (ha : a = d.map dec) (hk : (k : Int) < S.size) (hc : ∀ h, S[k]'h = c) (hL : ∀ w, Calls Tryd.prog 33 #[.int .u8 c.toNat] w fun e w' => e = .returned (.bool true) ∧ w = w') (hG : ∀ j (hj : j < d.length) h, S[k + 1 + j]'h = d[j]) (hDG : ∀ c ∈ d, isD c = true) (hlen : (k : Int) + 1 + d.length ≤ S.size) (y : UInt8) (hin : (k : Int) + 1 + d.length < S.size) (hy : ∀ h, S[k + 1 + d.length]'h = y) (hE : (y.toNat : Int) < 48) (hA : isShare a = false) :
    Calls Tryd.prog 23 #[.string S, .int .i64 k] w (SNo w) := by
  obtain ⟨i0, hi, hz0, hz1, hz2⟩ := info_parts info3
  have HG := Lib.hid hG
  have HDG := Lib.hid hDG
  have HA9 : Hid (∀ i, gn a i ≤ 9) := Lib.hid fun i => gn_digit d a ha hDG i
  have HAL : Hid (a.length ≤ 40) := Lib.hid (by rw [ha]; simp; omega)
  have HSI : ∀ w sl, RowAt w sl a → Calls Tryd.prog 34 #[sl] w fun e w' => e = .returned (.bool false) ∧ Below w.heap.size w w' := fun w sl h => by
    have := spec_share w sl a h HA9.out HAL.out
    rw [hA] at this; exact this
  have HA := Lib.hid ha
  clear hG hDG ha hA
  go_enter Tryd.func23, Tryd.ntmps23
  go_wp2_with (first | (go_at_call 22; refine (leaf_m _ _ _ ?_).mono ?_; (simp); rintro e w1 ⟨q, cq, rfl, hb⟩; have B1 := Lib.hid (below_next (w := w) (by (repeat (first | with_reducible exact Below.refl _ _ | with_reducible exact B1.out | with_reducible exact B2.out | with_reducible exact B3.out | with_reducible exact B4.out | with_reducible refine below_alloc ?_ _ | with_reducible refine below_set ?_ _ _ | with_reducible refine Below.drew ?_))) hb); have K0 := Lib.hid (((Keep.zero w).alloc _).below hb); obtain ⟨_, _, _, _, _, _, _, _, _⟩ := K0.out.facts; clear hb) | (go_at_call 33; (with_reducible refine (hL _).mono ?_); rintro e w' ⟨rfl, rfl⟩))
  go_loopw [8, 9] (fun v e wr => ∃ j : Nat, j ≤ d.length ∧ e = .int .i64 ((k : Int) + 1 + j) ∧ Hid (DR (w1.alloc (.cells #[.int .u8 109, .slice (some ⟨w.heap.size + 1, 0, none⟩) 0 0, .int .i64 0, .slice q 0 cq] 33)) wr d v j)) (fun _ e _ => S.size - (intOf e).toNat)
  case atStart => exact ⟨0, Nat.zero_le _, by simp, Lib.hid (DR.start' (w1.alloc (.cells #[.int .u8 109, .slice (some ⟨w.heap.size + 1, 0, none⟩) 0 0, .int .i64 0, .slice q 0 cq] 33)) d _ (by simp))⟩
  case round =>
    obtain ⟨j, hj, rfl, HD⟩ := hrel
    by_cases hlt : j < d.length
    · obtain ⟨x, hx⟩ : ∃ x, x = d[j] := ⟨_, rfl⟩
      have hxi : ∀ h, S[k + 1 + j]'h = x := fun h => by rw [hx]; exact HG.out j hlt h
      have hdx := HDG.out d[j] (List.getElem_mem hlt)
      rw [← hx] at hdx
      have hlo : (48 : Int) ≤ (x.toNat : Int) := by have : 48 ≤ x.toNat ∧ x.toNat ≤ 57 := by simpa [isD] using hdx
                                                    omega
      have hhi : (x.toNat : Int) ≤ 57 := by have : 48 ≤ x.toNat ∧ x.toNat ≤ 57 := by simpa [isD] using hdx
                                            omega
      have hin : (k : Int) + 1 + j < S.size := by omega
      have HZ : Hid ((x.toNat : Int) - 48 = ((dec d[j] : Nat) : Int)) := Lib.hid (by rw [← hx]; unfold dec; omega)
      have hbs : ((w1.alloc (.cells #[.int .u8 109, .slice (some ⟨w.heap.size + 1, 0, none⟩) 0 0, .int .i64 0, .slice q 0 cq] 33))).heap.size ≤ wr.heap.size := HD.out.below.size
      have hj0 : 0 ≤ (j : Int) := Int.natCast_nonneg _
      have hk0 : 0 ≤ (k : Int) := Int.natCast_nonneg _
      clear hx hdx
      go_wp2_with (at_builtin; refine wpList_append_own _ rfl _ _ 30 rfl ((w1.alloc (.cells #[.int .u8 109, .slice (some ⟨w.heap.size + 1, 0, none⟩) 0 0, .int .i64 0, .slice q 0 cq] 33))).heap.size 3 i0 (.int .i64 0) 1 8 Tryd.underlying30 hi hz0 hz1 hz2 rfl (by decide) _ _ _ rfl (HD.out.own.alloc _) ⟨wr.heap.size, 0, none⟩ 1 1 [.int .i64 ((x.toNat : Int) - 48)] rfl rfl (cell_one_new _ _ _) (by simp [Value.oneCell']) (by unfold maxLen; omega) (by omega) (Nat.le_trans hbs (by simp)) ?_; intro v' wn hown' hgrow hnil)
      rw [HZ.out] at hown'
      have HI := Lib.hid (HD.out.step hlt hown' hgrow hnil)
      clear hown' hgrow hnil
      go_wp2
      go_roundw
      case rel => exact ⟨j + 1, by omega, by go_num, HI⟩
      case measure => simp [intOf]; omega
    · have hjd : j = d.length := by omega
      subst hjd
      have hr0 := HD.out.row
      rw [← HA.out] at hr0
      have HR := Lib.hid hr0
      clear hr0
      have HB := Lib.hid HD.out.below
      have K1 := Lib.hid (Keep.below (b := w.heap.size) (s := zero4) (by exact K0.out.alloc _) HB.out)
      have K2 := Lib.hid (Keep.below (b := w1.heap.size) (s := ⟨109, some ⟨w.heap.size + 1, 0, none⟩, 0, 0, 0, q, 0, cq⟩) (by exact Keep.new w1 ⟨109, some ⟨w.heap.size + 1, 0, none⟩, 0, 0, 0, q, 0, cq⟩) HB.out)
      have B2 := Lib.hid (below_next (w := w) (by (repeat (first | with_reducible exact Below.refl _ _ | with_reducible exact B1.out | with_reducible exact B2.out | with_reducible exact B3.out | with_reducible exact B4.out | with_reducible refine below_alloc ?_ _ | with_reducible refine below_set ?_ _ _ | with_reducible refine Below.drew ?_))) HB.out)
      obtain ⟨_, _, _, _, _, _, _, _, _⟩ := K1.out.facts
      obtain ⟨_, _, _, _, _, _, _, _, _⟩ := K2.out.facts
      obtain ⟨rb, ro, rc, hv, hr1, hr2, hr3⟩ := HR.out
      clear hr3 hr1 HD
      subst hv
      have hj0 : 0 ≤ (d.length : Int) := Int.natCast_nonneg _
      have hk0 : 0 ≤ (k : Int) := Int.natCast_nonneg _
      have hwk : w.heap.size ≤ w1.heap.size + 1 := by have := B1.out.size; omega
      go_wp2_with (go_at_call 34; refine (HSI _ _ HR.out.at).mono ?_; rintro e w3 ⟨rfl, hb⟩; have B3 := Lib.hid (below_next (w := w) (by (repeat (first | with_reducible exact Below.refl _ _ | with_reducible exact B1.out | with_reducible exact B2.out | with_reducible exact B3.out | with_reducible exact B4.out | with_reducible refine below_alloc ?_ _ | with_reducible refine below_set ?_ _ _ | with_reducible refine Below.drew ?_))) hb); have K1' := Lib.hid (Keep.below K1.out hb); have K2' := Lib.hid (Keep.below K2.out hb); have HR' := Lib.hid (HR.out.kept ((Kept.refl _ _).below hb)); obtain ⟨_, _, _, _, _, _, _, _, _⟩ := K1'.out.facts; obtain ⟨_, _, _, _, _, _, _, _, _⟩ := K2'.out.facts; clear hb)
      refine bodyPost_ret (v := .tuple #[.agg #[.int .u8 109, .slice (some ⟨w.heap.size + 1, 0, none⟩) 0 0, .int .i64 0, .slice q 0 cq], .int .i64 0]) (by simp [results, Tryd.results23, go_sem, *]) rfl ⟨⟨109, some ⟨w.heap.size + 1, 0, none⟩, 0, 0, 0, q, 0, cq⟩, rfl, ?_⟩
      (repeat (first | with_reducible exact Below.refl _ _ | with_reducible exact B1.out | with_reducible exact B2.out | with_reducible exact B3.out | with_reducible exact B4.out | with_reducible refine below_alloc ?_ _ | with_reducible refine below_set ?_ _ _ | with_reducible refine Below.drew ?_))
theorem sread_leaf1_yes (w : World) (S : ByteArray) (k : Nat) (hS : (S.size : Int) ≤ 40) (c : UInt8) (d : List UInt8) (a : List Nat) (ha : a = d.map dec) (hk : (k : Int) < S.size) (hc : ∀ h, S[k]'h = c) (hL : ∀ w, Calls Tryd.prog 33 #[.int .u8 c.toNat] w fun e w' => e = .returned (.bool true) ∧ w = w') (hG : ∀ j (hj : j < d.length) h, S[k + 1 + j]'h = d[j]) (hDG : ∀ c ∈ d, isD c = true) (hlen : (k : Int) + 1 + d.length ≤ S.size) (y : UInt8) (hin : (k : Int) + 1 + d.length < S.size) (hy : ∀ h, S[k + 1 + d.length]'h = y) (hE : (y.toNat : Int) < 48) (hA : isShare a = true) :
    Calls Tryd.prog 23 #[.string S, .int .i64 k] w (SYes w (.leaf c a) (k + 1 + d.length)) := by
  obtain ⟨i0, hi, hz0, hz1, hz2⟩ := info_parts info3
  have HG := Lib.hid hG
  have HDG := Lib.hid hDG
  have HA9 : Hid (∀ i, gn a i ≤ 9) := Lib.hid fun i => gn_digit d a ha hDG i
  have HAL : Hid (a.length ≤ 40) := Lib.hid (by rw [ha]; simp; omega)
  have HSI : ∀ w sl, RowAt w sl a → Calls Tryd.prog 34 #[sl] w fun e w' => e = .returned (.bool true) ∧ Below w.heap.size w w' := fun w sl h => by
    have := spec_share w sl a h HA9.out HAL.out
    rw [hA] at this; exact this
  have HA := Lib.hid ha
  clear hG hDG ha hA
  go_enter Tryd.func23, Tryd.ntmps23
  go_wp2_with (first | (go_at_call 22; refine (leaf_m _ _ _ ?_).mono ?_; (simp); rintro e w1 ⟨q, cq, rfl, hb⟩; have B1 := Lib.hid (below_next (w := w) (by (repeat (first | with_reducible exact Below.refl _ _ | with_reducible exact B1.out | with_reducible exact B2.out | with_reducible exact B3.out | with_reducible exact B4.out | with_reducible refine below_alloc ?_ _ | with_reducible refine below_set ?_ _ _ | with_reducible refine Below.drew ?_))) hb); have K0 := Lib.hid (((Keep.zero w).alloc _).below hb); obtain ⟨_, _, _, _, _, _, _, _, _⟩ := K0.out.facts; clear hb) | (go_at_call 33; (with_reducible refine (hL _).mono ?_); rintro e w' ⟨rfl, rfl⟩))
  go_loopw [8, 9] (fun v e wr => ∃ j : Nat, j ≤ d.length ∧ e = .int .i64 ((k : Int) + 1 + j) ∧ Hid (DR (w1.alloc (.cells #[.int .u8 109, .slice (some ⟨w.heap.size + 1, 0, none⟩) 0 0, .int .i64 0, .slice q 0 cq] 33)) wr d v j)) (fun _ e _ => S.size - (intOf e).toNat)
  case atStart => exact ⟨0, Nat.zero_le _, by simp, Lib.hid (DR.start' (w1.alloc (.cells #[.int .u8 109, .slice (some ⟨w.heap.size + 1, 0, none⟩) 0 0, .int .i64 0, .slice q 0 cq] 33)) d _ (by simp))⟩
  case round =>
    obtain ⟨j, hj, rfl, HD⟩ := hrel
    by_cases hlt : j < d.length
    · obtain ⟨x, hx⟩ : ∃ x, x = d[j] := ⟨_, rfl⟩
      have hxi : ∀ h, S[k + 1 + j]'h = x := fun h => by rw [hx]; exact HG.out j hlt h
      have hdx := HDG.out d[j] (List.getElem_mem hlt)
      rw [← hx] at hdx
      have hlo : (48 : Int) ≤ (x.toNat : Int) := by have : 48 ≤ x.toNat ∧ x.toNat ≤ 57 := by simpa [isD] using hdx
                                                    omega
      have hhi : (x.toNat : Int) ≤ 57 := by have : 48 ≤ x.toNat ∧ x.toNat ≤ 57 := by simpa [isD] using hdx
                                            omega
      have hin : (k : Int) + 1 + j < S.size := by omega
      have HZ : Hid ((x.toNat : Int) - 48 = ((dec d[j] : Nat) : Int)) := Lib.hid (by rw [← hx]; unfold dec; omega)
      have hbs : ((w1.alloc (.cells #[.int .u8 109, .slice (some ⟨w.heap.size + 1, 0, none⟩) 0 0, .int .i64 0, .slice q 0 cq] 33))).heap.size ≤ wr.heap.size := HD.out.below.size
      have hj0 : 0 ≤ (j : Int) := Int.natCast_nonneg _
      have hk0 : 0 ≤ (k : Int) := Int.natCast_nonneg _
      clear hx hdx
      go_wp2_with (at_builtin; refine wpList_append_own _ rfl _ _ 30 rfl ((w1.alloc (.cells #[.int .u8 109, .slice (some ⟨w.heap.size + 1, 0, none⟩) 0 0, .int .i64 0, .slice q 0 cq] 33))).heap.size 3 i0 (.int .i64 0) 1 8 Tryd.underlying30 hi hz0 hz1 hz2 rfl (by decide) _ _ _ rfl (HD.out.own.alloc _) ⟨wr.heap.size, 0, none⟩ 1 1 [.int .i64 ((x.toNat : Int) - 48)] rfl rfl (cell_one_new _ _ _) (by simp [Value.oneCell']) (by unfold maxLen; omega) (by omega) (Nat.le_trans hbs (by simp)) ?_; intro v' wn hown' hgrow hnil)
      rw [HZ.out] at hown'
      have HI := Lib.hid (HD.out.step hlt hown' hgrow hnil)
      clear hown' hgrow hnil
      go_wp2
      go_roundw
      case rel => exact ⟨j + 1, by omega, by go_num, HI⟩
      case measure => simp [intOf]; omega
    · have hjd : j = d.length := by omega
      subst hjd
      have hr0 := HD.out.row
      rw [← HA.out] at hr0
      have HR := Lib.hid hr0
      clear hr0
      have HB := Lib.hid HD.out.below
      have K1 := Lib.hid (Keep.below (b := w.heap.size) (s := zero4) (by exact K0.out.alloc _) HB.out)
      have K2 := Lib.hid (Keep.below (b := w1.heap.size) (s := ⟨109, some ⟨w.heap.size + 1, 0, none⟩, 0, 0, 0, q, 0, cq⟩) (by exact Keep.new w1 ⟨109, some ⟨w.heap.size + 1, 0, none⟩, 0, 0, 0, q, 0, cq⟩) HB.out)
      have B2 := Lib.hid (below_next (w := w) (by (repeat (first | with_reducible exact Below.refl _ _ | with_reducible exact B1.out | with_reducible exact B2.out | with_reducible exact B3.out | with_reducible exact B4.out | with_reducible refine below_alloc ?_ _ | with_reducible refine below_set ?_ _ _ | with_reducible refine Below.drew ?_))) HB.out)
      obtain ⟨_, _, _, _, _, _, _, _, _⟩ := K1.out.facts
      obtain ⟨_, _, _, _, _, _, _, _, _⟩ := K2.out.facts
      obtain ⟨rb, ro, rc, hv, hr1, hr2, hr3⟩ := HR.out
      clear hr3 hr1 HD
      subst hv
      have hj0 : 0 ≤ (d.length : Int) := Int.natCast_nonneg _
      have hk0 : 0 ≤ (k : Int) := Int.natCast_nonneg _
      have hwk : w.heap.size ≤ w1.heap.size + 1 := by have := B1.out.size; omega
      go_wp2_with (first | (go_at_call 34; refine (HSI _ _ HR.out.at).mono ?_; rintro e w3 ⟨rfl, hb⟩; have B3 := Lib.hid (below_next (w := w) (by (repeat (first | with_reducible exact Below.refl _ _ | with_reducible exact B1.out | with_reducible exact B2.out | with_reducible exact B3.out | with_reducible exact B4.out | with_reducible refine below_alloc ?_ _ | with_reducible refine below_set ?_ _ _ | with_reducible refine Below.drew ?_))) hb); have K1' := Lib.hid (Keep.below K1.out hb); have K2' := Lib.hid (Keep.below K2.out hb); have HR' := Lib.hid (HR.out.kept ((Kept.refl _ _).below hb)); obtain ⟨_, _, _, _, _, _, _, _, _⟩ := K1'.out.facts; obtain ⟨_, _, _, _, _, _, _, _, _⟩ := K2'.out.facts; clear hb) | (go_at_call 22; refine (spec_leaf _ c.toNat _ _ _ a (HR'.out.at) HA9.out HAL.out).mono ?_; rintro e w4 ⟨q2, cq2, rfl, hb⟩; have B4 := Lib.hid (below_next (w := w) (by (repeat (first | with_reducible exact Below.refl _ _ | with_reducible exact B1.out | with_reducible exact B2.out | with_reducible exact B3.out | with_reducible exact B4.out | with_reducible refine below_alloc ?_ _ | with_reducible refine below_set ?_ _ _ | with_reducible refine Below.drew ?_))) hb); have K3 := Lib.hid (Keep.below K1'.out hb); have HR2 := Lib.hid (HR'.out.kept ((Kept.refl _ _).below hb)); obtain ⟨zz, _, _, _, _, _, _, _, _⟩ := K3.out.facts; clear hb))
      refine bodyPost_ret (v := .tuple #[.agg #[.int .u8 c.toNat, .slice (some ⟨rb, ro, none⟩) a.length rc, .int .i64 (sumL a : Nat), .slice q2 0 cq2], .int .i64 ((k : Int) + 1 + d.length)]) (by simp [results, Tryd.results23, go_sem, *]) rfl ⟨⟨c.toNat, some ⟨rb, ro, none⟩, a.length, rc, sumL a, q2, 0, cq2⟩, rfl, ⟨rfl, rfl, rfl, ?_⟩, ?_⟩
      · exact (HR2.out.kept (by repeat (first | with_reducible exact Kept.refl _ _ | with_reducible refine Kept.alloc ?_ _ | with_reducible refine Kept.drew ?_ | with_reducible refine Kept.set ?_ (by simp; omega) _ _))).mono (by simp; omega)
      · (repeat (first | with_reducible exact Below.refl _ _ | with_reducible exact B1.out | with_reducible exact B2.out | with_reducible exact B3.out | with_reducible exact B4.out | with_reducible refine below_alloc ?_ _ | with_reducible refine below_set ?_ _ _ | with_reducible refine Below.drew ?_))
theorem sread_leaf2_no (w : World) (S : ByteArray) (k : Nat) (hS : (S.size : Int) ≤ 40) (c : UInt8) (d : List UInt8) (a : List Nat) (ha : a = d.map dec) (hk : (k : Int) < S.size) (hc : ∀ h, S[k]'h = c) (hL : ∀ w, Calls Tryd.prog 33 #[.int .u8 c.toNat] w fun e w' => e = .returned (.bool true) ∧ w = w') (hG : ∀ j (hj : j < d.length) h, S[k + 1 + j]'h = d[j]) (hDG : ∀ c ∈ d, isD c = true) (hlen : (k : Int) + 1 + d.length ≤ S.size) (y : UInt8) (hin : (k : Int) + 1 + d.length < S.size) (hy : ∀ h, S[k + 1 + d.length]'h = y) (hE : 57 < (y.toNat : Int)) (hA : isShare a = false) :
    Calls Tryd.prog 23 #[.string S, .int .i64 k] w (SNo w) := by
  obtain ⟨i0, hi, hz0, hz1, hz2⟩ := info_parts info3
  have HG := Lib.hid hG
  have HDG := Lib.hid hDG
  have HA9 : Hid (∀ i, gn a i ≤ 9) := Lib.hid fun i => gn_digit d a ha hDG i
  have HAL : Hid (a.length ≤ 40) := Lib.hid (by rw [ha]; simp; omega)
  have HSI : ∀ w sl, RowAt w sl a → Calls Tryd.prog 34 #[sl] w fun e w' => e = .returned (.bool false) ∧ Below w.heap.size w w' := fun w sl h => by
    have := spec_share w sl a h HA9.out HAL.out
    rw [hA] at this; exact this
  have HA := Lib.hid ha
  clear hG hDG ha hA
  go_enter Tryd.func23, Tryd.ntmps23
  go_wp2_with (first | (go_at_call 22; refine (leaf_m _ _ _ ?_).mono ?_; (simp); rintro e w1 ⟨q, cq, rfl, hb⟩; have B1 := Lib.hid (below_next (w := w) (by (repeat (first | with_reducible exact Below.refl _ _ | with_reducible exact B1.out | with_reducible exact B2.out | with_reducible exact B3.out | with_reducible exact B4.out | with_reducible refine below_alloc ?_ _ | with_reducible refine below_set ?_ _ _ | with_reducible refine Below.drew ?_))) hb); have K0 := Lib.hid (((Keep.zero w).alloc _).below hb); obtain ⟨_, _, _, _, _, _, _, _, _⟩ := K0.out.facts; clear hb) | (go_at_call 33; (with_reducible refine (hL _).mono ?_); rintro e w' ⟨rfl, rfl⟩))
  go_loopw [8, 9] (fun v e wr => ∃ j : Nat, j ≤ d.length ∧ e = .int .i64 ((k : Int) + 1 + j) ∧ Hid (DR (w1.alloc (.cells #[.int .u8 109, .slice (some ⟨w.heap.size + 1, 0, none⟩) 0 0, .int .i64 0, .slice q 0 cq] 33)) wr d v j)) (fun _ e _ => S.size - (intOf e).toNat)
  case atStart => exact ⟨0, Nat.zero_le _, by simp, Lib.hid (DR.start' (w1.alloc (.cells #[.int .u8 109, .slice (some ⟨w.heap.size + 1, 0, none⟩) 0 0, .int .i64 0, .slice q 0 cq] 33)) d _ (by simp))⟩
  case round =>
    obtain ⟨j, hj, rfl, HD⟩ := hrel
    by_cases hlt : j < d.length
    · obtain ⟨x, hx⟩ : ∃ x, x = d[j] := ⟨_, rfl⟩
      have hxi : ∀ h, S[k + 1 + j]'h = x := fun h => by rw [hx]; exact HG.out j hlt h
      have hdx := HDG.out d[j] (List.getElem_mem hlt)
      rw [← hx] at hdx
      have hlo : (48 : Int) ≤ (x.toNat : Int) := by have : 48 ≤ x.toNat ∧ x.toNat ≤ 57 := by simpa [isD] using hdx
                                                    omega
      have hhi : (x.toNat : Int) ≤ 57 := by have : 48 ≤ x.toNat ∧ x.toNat ≤ 57 := by simpa [isD] using hdx
                                            omega
      have hin : (k : Int) + 1 + j < S.size := by omega
      have HZ : Hid ((x.toNat : Int) - 48 = ((dec d[j] : Nat) : Int)) := Lib.hid (by rw [← hx]; unfold dec; omega)
      have hbs : ((w1.alloc (.cells #[.int .u8 109, .slice (some ⟨w.heap.size + 1, 0, none⟩) 0 0, .int .i64 0, .slice q 0 cq] 33))).heap.size ≤ wr.heap.size := HD.out.below.size
      have hj0 : 0 ≤ (j : Int) := Int.natCast_nonneg _
      have hk0 : 0 ≤ (k : Int) := Int.natCast_nonneg _
      clear hx hdx
      go_wp2_with (at_builtin; refine wpList_append_own _ rfl _ _ 30 rfl ((w1.alloc (.cells #[.int .u8 109, .slice (some ⟨w.heap.size + 1, 0, none⟩) 0 0, .int .i64 0, .slice q 0 cq] 33))).heap.size 3 i0 (.int .i64 0) 1 8 Tryd.underlying30 hi hz0 hz1 hz2 rfl (by decide) _ _ _ rfl (HD.out.own.alloc _) ⟨wr.heap.size, 0, none⟩ 1 1 [.int .i64 ((x.toNat : Int) - 48)] rfl rfl (cell_one_new _ _ _) (by simp [Value.oneCell']) (by unfold maxLen; omega) (by omega) (Nat.le_trans hbs (by simp)) ?_; intro v' wn hown' hgrow hnil)
      rw [HZ.out] at hown'
      have HI := Lib.hid (HD.out.step hlt hown' hgrow hnil)
      clear hown' hgrow hnil
      go_wp2
      go_roundw
      case rel => exact ⟨j + 1, by omega, by go_num, HI⟩
      case measure => simp [intOf]; omega
    · have hjd : j = d.length := by omega
      subst hjd
      have hr0 := HD.out.row
      rw [← HA.out] at hr0
      have HR := Lib.hid hr0
      clear hr0
      have HB := Lib.hid HD.out.below
      have K1 := Lib.hid (Keep.below (b := w.heap.size) (s := zero4) (by exact K0.out.alloc _) HB.out)
      have K2 := Lib.hid (Keep.below (b := w1.heap.size) (s := ⟨109, some ⟨w.heap.size + 1, 0, none⟩, 0, 0, 0, q, 0, cq⟩) (by exact Keep.new w1 ⟨109, some ⟨w.heap.size + 1, 0, none⟩, 0, 0, 0, q, 0, cq⟩) HB.out)
      have B2 := Lib.hid (below_next (w := w) (by (repeat (first | with_reducible exact Below.refl _ _ | with_reducible exact B1.out | with_reducible exact B2.out | with_reducible exact B3.out | with_reducible exact B4.out | with_reducible refine below_alloc ?_ _ | with_reducible refine below_set ?_ _ _ | with_reducible refine Below.drew ?_))) HB.out)
      obtain ⟨_, _, _, _, _, _, _, _, _⟩ := K1.out.facts
      obtain ⟨_, _, _, _, _, _, _, _, _⟩ := K2.out.facts
      obtain ⟨rb, ro, rc, hv, hr1, hr2, hr3⟩ := HR.out
      clear hr3 hr1 HD
      subst hv
      have hj0 : 0 ≤ (d.length : Int) := Int.natCast_nonneg _
      have hk0 : 0 ≤ (k : Int) := Int.natCast_nonneg _
      have hwk : w.heap.size ≤ w1.heap.size + 1 := by have := B1.out.size; omega
      go_wp2_with (go_at_call 34; refine (HSI _ _ HR.out.at).mono ?_; rintro e w3 ⟨rfl, hb⟩; have B3 := Lib.hid (below_next (w := w) (by (repeat (first | with_reducible exact Below.refl _ _ | with_reducible exact B1.out | with_reducible exact B2.out | with_reducible exact B3.out | with_reducible exact B4.out | with_reducible refine below_alloc ?_ _ | with_reducible refine below_set ?_ _ _ | with_reducible refine Below.drew ?_))) hb); have K1' := Lib.hid (Keep.below K1.out hb); have K2' := Lib.hid (Keep.below K2.out hb); have HR' := Lib.hid (HR.out.kept ((Kept.refl _ _).below hb)); obtain ⟨_, _, _, _, _, _, _, _, _⟩ := K1'.out.facts; obtain ⟨_, _, _, _, _, _, _, _, _⟩ := K2'.out.facts; clear hb)
      refine bodyPost_ret (v := .tuple #[.agg #[.int .u8 109, .slice (some ⟨w.heap.size + 1, 0, none⟩) 0 0, .int .i64 0, .slice q 0 cq], .int .i64 0]) (by simp [results, Tryd.results23, go_sem, *]) rfl ⟨⟨109, some ⟨w.heap.size + 1, 0, none⟩, 0, 0, 0, q, 0, cq⟩, rfl, ?_⟩
      (repeat (first | with_reducible exact Below.refl _ _ | with_reducible exact B1.out | with_reducible exact B2.out | with_reducible exact B3.out | with_reducible exact B4.out | with_reducible refine below_alloc ?_ _ | with_reducible refine below_set ?_ _ _ | with_reducible refine Below.drew ?_))
theorem sread_leaf2_yes (w : World) (S : ByteArray) (k : Nat) (hS : (S.size : Int) ≤ 40) (c : UInt8) (d : List UInt8) (a : List Nat) (ha : a = d.map dec) (hk : (k : Int) < S.size) (hc : ∀ h, S[k]'h = c) (hL : ∀ w, Calls Tryd.prog 33 #[.int .u8 c.toNat] w fun e w' => e = .returned (.bool true) ∧ w = w') (hG : ∀ j (hj : j < d.length) h, S[k + 1 + j]'h = d[j]) (hDG : ∀ c ∈ d, isD c = true) (hlen : (k : Int) + 1 + d.length ≤ S.size) (y : UInt8) (hin : (k : Int) + 1 + d.length < S.size) (hy : ∀ h, S[k + 1 + d.length]'h = y) (hE : 57 < (y.toNat : Int)) (hA : isShare a = true) :
    Calls Tryd.prog 23 #[.string S, .int .i64 k] w (SYes w (.leaf c a) (k + 1 + d.length)) := by
  obtain ⟨i0, hi, hz0, hz1, hz2⟩ := info_parts info3
  have HG := Lib.hid hG
  have HDG := Lib.hid hDG
  have HA9 : Hid (∀ i, gn a i ≤ 9) := Lib.hid fun i => gn_digit d a ha hDG i
  have HAL : Hid (a.length ≤ 40) := Lib.hid (by rw [ha]; simp; omega)
  have HSI : ∀ w sl, RowAt w sl a → Calls Tryd.prog 34 #[sl] w fun e w' => e = .returned (.bool true) ∧ Below w.heap.size w w' := fun w sl h => by
    have := spec_share w sl a h HA9.out HAL.out
    rw [hA] at this; exact this
  have HA := Lib.hid ha
  clear hG hDG ha hA
  go_enter Tryd.func23, Tryd.ntmps23
  go_wp2_with (first | (go_at_call 22; refine (leaf_m _ _ _ ?_).mono ?_; (simp); rintro e w1 ⟨q, cq, rfl, hb⟩; have B1 := Lib.hid (below_next (w := w) (by (repeat (first | with_reducible exact Below.refl _ _ | with_reducible exact B1.out | with_reducible exact B2.out | with_reducible exact B3.out | with_reducible exact B4.out | with_reducible refine below_alloc ?_ _ | with_reducible refine below_set ?_ _ _ | with_reducible refine Below.drew ?_))) hb); have K0 := Lib.hid (((Keep.zero w).alloc _).below hb); obtain ⟨_, _, _, _, _, _, _, _, _⟩ := K0.out.facts; clear hb) | (go_at_call 33; (with_reducible refine (hL _).mono ?_); rintro e w' ⟨rfl, rfl⟩))
  go_loopw [8, 9] (fun v e wr => ∃ j : Nat, j ≤ d.length ∧ e = .int .i64 ((k : Int) + 1 + j) ∧ Hid (DR (w1.alloc (.cells #[.int .u8 109, .slice (some ⟨w.heap.size + 1, 0, none⟩) 0 0, .int .i64 0, .slice q 0 cq] 33)) wr d v j)) (fun _ e _ => S.size - (intOf e).toNat)
  case atStart => exact ⟨0, Nat.zero_le _, by simp, Lib.hid (DR.start' (w1.alloc (.cells #[.int .u8 109, .slice (some ⟨w.heap.size + 1, 0, none⟩) 0 0, .int .i64 0, .slice q 0 cq] 33)) d _ (by simp))⟩
  case round =>
    obtain ⟨j, hj, rfl, HD⟩ := hrel
    by_cases hlt : j < d.length
    · obtain ⟨x, hx⟩ : ∃ x, x = d[j] := ⟨_, rfl⟩
      have hxi : ∀ h, S[k + 1 + j]'h = x := fun h => by rw [hx]; exact HG.out j hlt h
      have hdx := HDG.out d[j] (List.getElem_mem hlt)
      rw [← hx] at hdx
      have hlo : (48 : Int) ≤ (x.toNat : Int) := by have : 48 ≤ x.toNat ∧ x.toNat ≤ 57 := by simpa [isD] using hdx
                                                    omega
      have hhi : (x.toNat : Int) ≤ 57 := by have : 48 ≤ x.toNat ∧ x.toNat ≤ 57 := by simpa [isD] using hdx
                                            omega
      have hin : (k : Int) + 1 + j < S.size := by omega
      have HZ : Hid ((x.toNat : Int) - 48 = ((dec d[j] : Nat) : Int)) := Lib.hid (by rw [← hx]; unfold dec; omega)
      have hbs : ((w1.alloc (.cells #[.int .u8 109, .slice (some ⟨w.heap.size + 1, 0, none⟩) 0 0, .int .i64 0, .slice q 0 cq] 33))).heap.size ≤ wr.heap.size := HD.out.below.size
      have hj0 : 0 ≤ (j : Int) := Int.natCast_nonneg _
      have hk0 : 0 ≤ (k : Int) := Int.natCast_nonneg _
      clear hx hdx
      go_wp2_with (at_builtin; refine wpList_append_own _ rfl _ _ 30 rfl ((w1.alloc (.cells #[.int .u8 109, .slice (some ⟨w.heap.size + 1, 0, none⟩) 0 0, .int .i64 0, .slice q 0 cq] 33))).heap.size 3 i0 (.int .i64 0) 1 8 Tryd.underlying30 hi hz0 hz1 hz2 rfl (by decide) _ _ _ rfl (HD.out.own.alloc _) ⟨wr.heap.size, 0, none⟩ 1 1 [.int .i64 ((x.toNat : Int) - 48)] rfl rfl (cell_one_new _ _ _) (by simp [Value.oneCell']) (by unfold maxLen; omega) (by omega) (Nat.le_trans hbs (by simp)) ?_; intro v' wn hown' hgrow hnil)
      rw [HZ.out] at hown'
      have HI := Lib.hid (HD.out.step hlt hown' hgrow hnil)
      clear hown' hgrow hnil
      go_wp2
      go_roundw
      case rel => exact ⟨j + 1, by omega, by go_num, HI⟩
      case measure => simp [intOf]; omega
    · have hjd : j = d.length := by omega
      subst hjd
      have hr0 := HD.out.row
      rw [← HA.out] at hr0
      have HR := Lib.hid hr0
      clear hr0
      have HB := Lib.hid HD.out.below
      have K1 := Lib.hid (Keep.below (b := w.heap.size) (s := zero4) (by exact K0.out.alloc _) HB.out)
      have K2 := Lib.hid (Keep.below (b := w1.heap.size) (s := ⟨109, some ⟨w.heap.size + 1, 0, none⟩, 0, 0, 0, q, 0, cq⟩) (by exact Keep.new w1 ⟨109, some ⟨w.heap.size + 1, 0, none⟩, 0, 0, 0, q, 0, cq⟩) HB.out)
      have B2 := Lib.hid (below_next (w := w) (by (repeat (first | with_reducible exact Below.refl _ _ | with_reducible exact B1.out | with_reducible exact B2.out | with_reducible exact B3.out | with_reducible exact B4.out | with_reducible refine below_alloc ?_ _ | with_reducible refine below_set ?_ _ _ | with_reducible refine Below.drew ?_))) HB.out)
      obtain ⟨_, _, _, _, _, _, _, _, _⟩ := K1.out.facts
      obtain ⟨_, _, _, _, _, _, _, _, _⟩ := K2.out.facts
      obtain ⟨rb, ro, rc, hv, hr1, hr2, hr3⟩ := HR.out
      clear hr3 hr1 HD
      subst hv
      have hj0 : 0 ≤ (d.length : Int) := Int.natCast_nonneg _
      have hk0 : 0 ≤ (k : Int) := Int.natCast_nonneg _
      have hwk : w.heap.size ≤ w1.heap.size + 1 := by have := B1.out.size; omega
      go_wp2_with (first | (go_at_call 34; refine (HSI _ _ HR.out.at).mono ?_; rintro e w3 ⟨rfl, hb⟩; have B3 := Lib.hid (below_next (w := w) (by (repeat (first | with_reducible exact Below.refl _ _ | with_reducible exact B1.out | with_reducible exact B2.out | with_reducible exact B3.out | with_reducible exact B4.out | with_reducible refine below_alloc ?_ _ | with_reducible refine below_set ?_ _ _ | with_reducible refine Below.drew ?_))) hb); have K1' := Lib.hid (Keep.below K1.out hb); have K2' := Lib.hid (Keep.below K2.out hb); have HR' := Lib.hid (HR.out.kept ((Kept.refl _ _).below hb)); obtain ⟨_, _, _, _, _, _, _, _, _⟩ := K1'.out.facts; obtain ⟨_, _, _, _, _, _, _, _, _⟩ := K2'.out.facts; clear hb) | (go_at_call 22; refine (spec_leaf _ c.toNat _ _ _ a (HR'.out.at) HA9.out HAL.out).mono ?_; rintro e w4 ⟨q2, cq2, rfl, hb⟩; have B4 := Lib.hid (below_next (w := w) (by (repeat (first | with_reducible exact Below.refl _ _ | with_reducible exact B1.out | with_reducible exact B2.out | with_reducible exact B3.out | with_reducible exact B4.out | with_reducible refine below_alloc ?_ _ | with_reducible refine below_set ?_ _ _ | with_reducible refine Below.drew ?_))) hb); have K3 := Lib.hid (Keep.below K1'.out hb); have HR2 := Lib.hid (HR'.out.kept ((Kept.refl _ _).below hb)); obtain ⟨zz, _, _, _, _, _, _, _, _⟩ := K3.out.facts; clear hb))
      refine bodyPost_ret (v := .tuple #[.agg #[.int .u8 c.toNat, .slice (some ⟨rb, ro, none⟩) a.length rc, .int .i64 (sumL a : Nat), .slice q2 0 cq2], .int .i64 ((k : Int) + 1 + d.length)]) (by simp [results, Tryd.results23, go_sem, *]) rfl ⟨⟨c.toNat, some ⟨rb, ro, none⟩, a.length, rc, sumL a, q2, 0, cq2⟩, rfl, ⟨rfl, rfl, rfl, ?_⟩, ?_⟩
      · exact (HR2.out.kept (by repeat (first | with_reducible exact Kept.refl _ _ | with_reducible refine Kept.alloc ?_ _ | with_reducible refine Kept.drew ?_ | with_reducible refine Kept.set ?_ (by simp; omega) _ _))).mono (by simp; omega)
      · (repeat (first | with_reducible exact Below.refl _ _ | with_reducible exact B1.out | with_reducible exact B2.out | with_reducible exact B3.out | with_reducible exact B4.out | with_reducible refine below_alloc ?_ _ | with_reducible refine below_set ?_ _ _ | with_reducible refine Below.drew ?_))
end Go.Proofs.YtbpemgpbmabnbaaDoor.tm
