/- What a seat's program says of the functions that meet a list as a whole. -/
import Derived.Test.YtennigkljnfjmaaEngZb
import Derived.Test.YtennigkljnfjmaaProg
import Derived.WalkKit
import Derived.ProofKit
import Derived.OpenShut
import Derived.Below
import Derived.BigQuiet
import Derived.Deep.QuietTactic
import Derived.IntWalk
import Derived.Deep.OwnRows
import Derived.LoopTactic
namespace Go.Proofs.Ytennigkljnfjmaa.list
open Go.ChangeShapes Go.WideShapes Go.ChangeAt Go.RowKit Go.Eng
set_option linter.unusedVariables false
set_option linter.unusedSimpArgs false
theorem info3 : (Try.prog.info? 3).map (fun i => (i.zero, i.size, i.bytes)) = some (some (.int .i64 0), 1, 8) := by kernel_rfl
/-- the copy, k cells of it made -/
structure Copy (w wr : World) (len k : Nat) (z : Nat → Int) : Prop where
  since : w.Since w.heap.size wr
  size : wr.heap.size = w.heap.size + 1
  row : wr.rowIs w.heap.size 3 len (fun i => if i < k then .int .i64 (z i) else .int .i64 0)
theorem copy_start (w : World) (len : Nat) (z : Nat → Int) : Copy w (w.alloc (.cells (madeCells #[.int .i64 0] len) 3)) len 0 z :=
  ⟨(World.Since.refl _ _).alloc (Nat.le_refl _) _, by simp, (World.rowIs_made w _ len 3).congr (fun j _ => by simp)⟩
theorem copy_step {w wr : World} {len k : Nat} {z : Nat → Int} (h : Copy w wr len k z) : Copy w (wr.setCell ⟨w.heap.size, k, none⟩ (.int .i64 (z k))) len (k + 1) z := by
  refine ⟨h.since.setCell (Nat.le_refl _) _, by simp [h.size], (h.row.set k _).congr (fun i _ => ?_)⟩
  by_cases e : i = k
  · subst e; simp
  · rw [if_neg e]
    by_cases hlt : i < k
    · rw [if_pos hlt, if_pos (by omega)]
    · rw [if_neg hlt, if_neg (by omega)]
set_option maxHeartbeats 1000000 in
theorem to_calls (w : World) (rb d len cap : Nat) (z : Nat → Int) (hlen : len ≤ 4194304) (hrow : ∀ r, r < len → w.cell? ⟨rb, d + r, none⟩ = some (.int .i64 (z r))) :
    Calls Try.prog 9 #[.slice (some ⟨rb, d, none⟩) len cap] w fun e w' => e = .returned (.slice (some ⟨w.heap.size, 0, none⟩) len len) ∧ Copy w w' len len z := by
  have hmk := run_make_row' (P := Try.prog) 22 3 (.int .i64 0) 8 Try.underlying22 info3 rfl .i64 .i64 len (by omega) (by omega)
  go_enter Try.func9, Try.ntmps9
  go_wp2
  clear hmk
  go_loopw [4] (fun i wr => ∃ k : Nat, k ≤ len ∧ i = .int .i64 k ∧ Copy w wr len k z) (fun i _ => len - (intOf i).toNat)
  case atStart => exact ⟨0, Nat.zero_le _, rfl, copy_start w len z⟩
  case round =>
    obtain ⟨k, hk, rfl, hC⟩ := hrel
    by_cases hlt : k < len
    · have hrb : rb < w.heap.size := World.block_lt_of_cell? _ _ (hrow k hlt)
      have g0 : wr.cell? ⟨rb, d + k, none⟩ = some (.int .i64 (z k)) := by rw [hC.since.cell (a := ⟨rb, d + k, none⟩) hrb]; exact hrow k hlt
      have g1 := hC.row.cell hlt
      have g2 := hC.row.frozen k
      have hI := copy_step hC
      clear hC
      go_wp2
      go_roundw
      case rel => exact ⟨k + 1, by omega, by go_num, hI⟩
      case measure => simp [intOf]; omega
    · have : k = len := by omega
      subst this
      go_wp2
      go_ret
      exact ⟨rfl, hC⟩

theorem drewN_drewN (w : World) (a b : Nat) : (w.drewN a).drewN b = w.drewN (a + b) := by simp [World.drewN, Nat.add_assoc]
set_option maxHeartbeats 1000000 in
theorem eq_calls (w : World) (rb d rb2 d2 len cap cap2 : Nat) (z : Nat → Int) (hlen : len ≤ 4194304) (hrow : ∀ r, r < len → w.cell? ⟨rb, d + r, none⟩ = some (.int .i64 (z r)))
    (hrow2 : ∀ r, r < len → w.cell? ⟨rb2, d2 + r, none⟩ = some (.int .i64 (z r))) :
    Calls Try.prog 11 #[.slice (some ⟨rb, d, none⟩) len cap, .slice (some ⟨rb2, d2, none⟩) len cap2] w fun e w' => e = .returned (.bool true) ∧ ∃ m, w' = w.drewN m := by
  go_enter Try.func11, Try.ntmps11
  go_wp2
  go_loopw [5] (fun i wr => ∃ k : Nat, k ≤ len ∧ i = .int .i64 k ∧ ∃ m, wr = w.drewN m) (fun i _ => len - (intOf i).toNat)
  case atStart => exact ⟨0, Nat.zero_le _, rfl, 0, rfl⟩
  case round =>
    obtain ⟨k, hk, rfl, m, rfl⟩ := hrel
    by_cases hlt : k < len
    · have g0 := hrow k hlt
      have g1 := hrow2 k hlt
      clear hrow hrow2
      go_wp2
      go_quiet (fail)
      go_wp2
      go_roundw
      case rel => exact ⟨k + 1, by omega, by go_num, _, rfl⟩
      case measure => simp [intOf]; omega
    · have : k = len := by omega
      subst this
      go_wp2
      go_ret
      exact ⟨rfl, m, rfl⟩
structure Marked (w wr : World) (rb d len : Nat) : Prop where
  size : wr.heap.size = w.heap.size
  other : ∀ b, b ≠ rb → wr.heap[b]? = w.heap[b]?
  os : wr.os = w.os
  tape : wr.tape = w.tape
  output : wr.output = w.output
  cell : ∀ r, r < len → ∃ v, wr.cell? ⟨rb, d + r, none⟩ = some v
  free : ∀ r, r < len → wr.frozen? ⟨rb, d + r, none⟩ = false
theorem Marked.step {w wr : World} {rb d len : Nat} (h : Marked w wr rb d len) (i : Nat) (v : Value) : Marked w (wr.setCell ⟨rb, d + i, none⟩ v) rb d len :=
  ⟨by simp [h.size], fun b hb => by rw [Below.heap_setCell _ _ _ _ hb]; exact h.other b hb, h.os, h.tape, h.output, fun r hr => by
    obtain ⟨u, hu⟩ := h.cell r hr
    exact cell?_setCell_some hu, fun r hr => by simpa using h.free r hr⟩
set_option maxHeartbeats 1000000 in
theorem mark_calls (w : World) (rb d len cap k0 : Nat) (hk1 : k0 ≤ 1099511627776) (hlen : len ≤ 4194304) (h0 : Marked w w rb d len) :
    Calls Try.prog 12 #[.slice (some ⟨rb, d, none⟩) len cap, .int .i64 k0] w fun e w' => e = .returned (.int .i64 ((k0 + len : Nat) : Int)) ∧ Marked w w' rb d len := by
  go_enter Try.func12, Try.ntmps12
  go_wp2
  go_loopw [1, 5] (fun q i wr => ∃ k : Nat, k ≤ len ∧ i = .int .i64 k ∧ q = .int .i64 ((k0 + k : Nat) : Int) ∧ Marked w wr rb d len) (fun _ i _ => len - (intOf i).toNat)
  case atStart => exact ⟨0, Nat.zero_le _, rfl, rfl, h0⟩
  case round =>
    obtain ⟨k, hk, rfl, rfl, hM⟩ := hrel
    by_cases hlt : k < len
    · obtain ⟨u, g0⟩ := hM.cell k hlt
      have g1 := hM.free k hlt
      have hI := hM.step k (.int .i64 ((k0 + k : Nat) : Int))
      clear hM h0
      go_wp2
      go_roundw
      case rel => exact ⟨k + 1, by omega, by go_num, by go_num, hI⟩
      case measure => simp [intOf]; omega
    · have : k = len := by omega
      subst this
      go_wp2
      go_ret
      exact ⟨rfl, hM⟩
theorem listK : ListK Try.prog 9 11 12 11 11 3 :=
  { kTo := ⟨Try.f9, Try.func9, by kernel_rfl, by decide⟩
    kEq := ⟨Try.f11, Try.func11, by kernel_rfl, by decide⟩
    kMark := fun _ => ⟨Try.f12, Try.func12, by kernel_rfl, by decide⟩
    kIn := fun h => absurd rfl h
    kOf := fun h => absurd rfl h
    to := fun w rb d len cap z h1 h2 => (to_calls w rb d len cap z h1 h2).mono fun e w' ⟨he, hC⟩ => by
      refine ⟨he, ?_⟩
      obtain ⟨cs, h3, h4, h5⟩ := hC.row
      have hlt : w.heap.size < w'.heap.size := by rw [hC.size]; omega
      refine ⟨cs, ?_, h4, fun i hi => by rw [h5 i hi]; simp [hi], hC.since.os, hC.since.tape, hC.since.output⟩
      apply Array.ext_getElem?
      intro i
      rw [Array.getElem?_push]
      split
      · rename_i hi; rw [hi]; exact h3
      · rename_i hi
        by_cases hlt : i < w.heap.size
        · exact hC.since.block i hlt
        · rw [Array.getElem?_eq_none (by rw [hC.size]; omega), Array.getElem?_eq_none (by omega)]
    eq := fun w rb d rb2 d2 len cap cap2 z h1 h2 h3 => eq_calls w rb d rb2 d2 len cap cap2 z h1 h2 h3
    mark := fun _ w rb d len cap k0 h1 h2 h3 h4 => (mark_calls w rb d len cap k0 h1 h2 ⟨rfl, fun _ _ => rfl, rfl, rfl, rfl, h3, h4⟩).mono fun e w' ⟨he, hM⟩ => ⟨he, hM.size, hM.other, hM.os, hM.tape, hM.output⟩
    inn := fun h => absurd rfl h
    off := fun h => absurd rfl h }
end Go.Proofs.Ytennigkljnfjmaa.list
