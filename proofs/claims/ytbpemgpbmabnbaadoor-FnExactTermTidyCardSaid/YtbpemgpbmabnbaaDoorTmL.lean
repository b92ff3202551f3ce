/- What the model reads. -/
import Derived.Test.YtbpemgpbmabnbaaDoorTmK
namespace Go.Proofs.YtbpemgpbmabnbaaDoor.tm
open Go.ChangeShapes Go.WideShapes Go.ChangeAt Go.RowKit Go.Tm
set_option linter.unusedVariables false
set_option linter.unusedSimpArgs false
set_option maxRecDepth 10000
set_option maxHeartbeats 1000000

theorem sread_end (w : World) (S : ByteArray) (k : Nat) (hS : (S.size : Int) ≤ 40) (h : (S.size : Int) ≤ k) (hk : k ≤ 40) :
    Calls Tryd.prog 23 #[.string S, .int .i64 k] w (SNo w) := by
  go_enter Tryd.func23, Tryd.ntmps23
  go_wp2_with (go_at_call 22; refine (leaf_m _ _ _ ?_).mono ?_; (simp); rintro e w1 ⟨q, cq, rfl, hb⟩; have B1 := Lib.hid (below_next (w := w) (by (repeat (first | with_reducible exact Below.refl _ _ | with_reducible exact B1.out | with_reducible exact B2.out | with_reducible exact B3.out | with_reducible exact B4.out | with_reducible refine below_alloc ?_ _ | with_reducible refine below_set ?_ _ _ | with_reducible refine Below.drew ?_))) hb); have K0 := Lib.hid (((Keep.zero w).alloc _).below hb); obtain ⟨_, _, _, _, _, _, _, _, _⟩ := K0.out.facts; clear hb)
  refine bodyPost_ret (v := .tuple #[.agg #[.int .u8 109, .slice (some ⟨w.heap.size + 1, 0, none⟩) 0 0, .int .i64 0, .slice q 0 cq], .int .i64 0]) (by simp [results, Tryd.results23, go_sem, *]) rfl ⟨⟨109, some ⟨w.heap.size + 1, 0, none⟩, 0, 0, 0, q, 0, cq⟩, rfl, ?_⟩
  (repeat (first | with_reducible exact Below.refl _ _ | with_reducible exact B1.out | with_reducible exact B2.out | with_reducible exact B3.out | with_reducible exact B4.out | with_reducible refine below_alloc ?_ _ | with_reducible refine below_set ?_ _ _ | with_reducible refine Below.drew ?_))
theorem sread_other (w : World) (S : ByteArray) (k : Nat) (hS : (S.size : Int) ≤ 40) (c : UInt8) (hk : (k : Int) < S.size) (hc : ∀ h, S[k]'h = c) (hL : ∀ w, Calls Tryd.prog 33 #[.int .u8 c.toNat] w fun e w' => e = .returned (.bool false) ∧ w = w') (h1 : ¬ (c.toNat : Int) = 45) (h2 : ¬ (c.toNat : Int) = 40) :
    Calls Tryd.prog 23 #[.string S, .int .i64 k] w (SNo w) := by
  go_enter Tryd.func23, Tryd.ntmps23
  go_wp2_with (first | (go_at_call 22; refine (leaf_m _ _ _ ?_).mono ?_; (simp); rintro e w1 ⟨q, cq, rfl, hb⟩; have B1 := Lib.hid (below_next (w := w) (by (repeat (first | with_reducible exact Below.refl _ _ | with_reducible exact B1.out | with_reducible exact B2.out | with_reducible exact B3.out | with_reducible exact B4.out | with_reducible refine below_alloc ?_ _ | with_reducible refine below_set ?_ _ _ | with_reducible refine Below.drew ?_))) hb); have K0 := Lib.hid (((Keep.zero w).alloc _).below hb); obtain ⟨_, _, _, _, _, _, _, _, _⟩ := K0.out.facts; clear hb) | (go_at_call 33; (with_reducible refine (hL _).mono ?_); rintro e w' ⟨rfl, rfl⟩))
  refine bodyPost_ret (v := .tuple #[.agg #[.int .u8 109, .slice (some ⟨w.heap.size + 1, 0, none⟩) 0 0, .int .i64 0, .slice q 0 cq], .int .i64 0]) (by simp [results, Tryd.results23, go_sem, *]) rfl ⟨⟨109, some ⟨w.heap.size + 1, 0, none⟩, 0, 0, 0, q, 0, cq⟩, rfl, ?_⟩
  (repeat (first | with_reducible exact Below.refl _ _ | with_reducible exact B1.out | with_reducible exact B2.out | with_reducible exact B3.out | with_reducible exact B4.out | with_reducible refine below_alloc ?_ _ | with_reducible refine below_set ?_ _ _ | with_reducible refine Below.drew ?_))
end Go.Proofs.YtbpemgpbmabnbaaDoor.tm
