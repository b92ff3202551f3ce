/- What a seat's program says of the functions that meet a list as a whole. -/
import Derived.Test.YtnglbchhlpbgkaaSEngZb
import Derived.Test.YtnglbchhlpbgkaaProg
import Derived.WalkKit
import Derived.ProofKit
import Derived.OpenShut
import Derived.Below
import Derived.BigQuiet
import Derived.Deep.QuietTactic
import Derived.IntWalk
import Derived.Deep.OwnRows
import Derived.LoopTactic
namespace Go.Proofs.Ytnglbchhlpbgkaa.list
open Go.ChangeShapes Go.WideShapes Go.ChangeAt Go.RowKit Go.Eng
set_option linter.unusedVariables false
set_option linter.unusedSimpArgs false
theorem info3 : (Try.prog.info? 3).map (fun i => (i.zero, i.size, i.bytes)) = some (some (.int .i64 0), 1, 8) := by kernel_rfl
/-- the copy, k cells of it made -/
structure Copy (w wr : World) (len k : Nat) (z : Nat → Int) : Prop where
  since : w.Since w.heap.size wr
  size : wr.heap.size = w.heap.size + 1
  row : wr.rowIs w.heap.size 3 len (fun i => if i < k then .int .i64 (z i) else .int .i64 0)
theorem copy_start (w : World) (len : Nat) (z : Nat → Int) : Copy w (w.alloc (.cells (madeCells #[.int .i64 0] len) 3)) len 0 z :=
  ⟨(World.Since.refl _ _).alloc (Nat.le_refl _) _, by simp, (World.rowIs_made w _ len 3).congr (fun j _ => by simp)⟩
theorem copy_step {w wr : World} {len k : Nat} {z : Nat → Int} (h : Copy w wr len k z) : Copy w (wr.setCell ⟨w.heap.size, k, none⟩ (.int .i64 (z k))) len (k + 1) z := by
  refine ⟨h.since.setCell (Nat.le_refl _) _, by simp [h.size], (h.row.set k _).congr (fun i _ => ?_)⟩
  by_cases e : i = k
  · subst e; simp
  · rw [if_neg e]
    by_cases hlt : i < k
    · rw [if_pos hlt, if_pos (by omega)]
    · rw [if_neg hlt, if_neg (by omega)]
set_option maxHeartbeats 1000000 in
theorem to_calls (w : World) (rb d len cap : Nat) (z : Nat → Int) (hlen : len ≤ 4194304) (hrow : ∀ r, r < len → w.cell? ⟨rb, d + r, none⟩ = some (.int .i64 (z r))) :
    Calls Try.prog 14 #[.slice (some ⟨rb, d, none⟩) len cap] w fun e w' => e = .returned (.slice (some ⟨w.heap.size, 0, none⟩) len len) ∧ Copy w w' len len z := by
  have hmk := run_make_row' (P := Try.prog) 22 3 (.int .i64 0) 8 Try.underlying22 info3 rfl .i64 .i64 len (by omega) (by omega)
  go_enter Try.func14, Try.ntmps14
  go_wp2
  clear hmk
  go_loopw [4] (fun i wr => ∃ k : Nat, k ≤ len ∧ i = .int .i64 k ∧ Copy w wr len k z) (fun i _ => len - (intOf i).toNat)
  case atStart => exact ⟨0, Nat.zero_le _, rfl, copy_start w len z⟩
  case round =>
    obtain ⟨k, hk, rfl, hC⟩ := hrel
    by_cases hlt : k < len
    · have hrb : rb < w.heap.size := World.block_lt_of_cell? _ _ (hrow k hlt)
      have g0 : wr.cell? ⟨rb, d + k, none⟩ = some (.int .i64 (z k)) := by rw [hC.since.cell (a := ⟨rb, d + k, none⟩) hrb]; exact hrow k hlt
      have g1 := hC.row.cell hlt
      have g2 := hC.row.frozen k
      have hI := copy_step hC
      clear hC
      go_wp2
      go_roundw
      case rel => exact ⟨k + 1, by omega, by go_num, hI⟩
      case measure => simp [intOf]; omega
    · have : k = len := by omega
      subst this
      go_wp2
      go_ret
      exact ⟨rfl, hC⟩

theorem drewN_drewN (w : World) (a b : Nat) : (w.drewN a).drewN b = w.drewN (a + b) := by simp [World.drewN, Nat.add_assoc]
set_option maxHeartbeats 1000000 in
theorem eq_calls (w : World) (rb d rb2 d2 len cap cap2 : Nat) (z : Nat → Int) (hlen : len ≤ 4194304) (hrow : ∀ r, r < len → w.cell? ⟨rb, d + r, none⟩ = some (.int .i64 (z r)))
    (hrow2 : ∀ r, r < len → w.cell? ⟨rb2, d2 + r, none⟩ = some (.int .i64 (z r))) :
    Calls Try.prog 16 #[.slice (some ⟨rb, d, none⟩) len cap, .slice (some ⟨rb2, d2, none⟩) len cap2] w fun e w' => e = .returned (.bool true) ∧ ∃ m, w' = w.drewN m := by
  go_enter Try.func16, Try.ntmps16
  go_wp2
  go_loopw [5] (fun i wr => ∃ k : Nat, k ≤ len ∧ i = .int .i64 k ∧ ∃ m, wr = w.drewN m) (fun i _ => len - (intOf i).toNat)
  case atStart => exact ⟨0, Nat.zero_le _, rfl, 0, rfl⟩
  case round =>
    obtain ⟨k, hk, rfl, m, rfl⟩ := hrel
    by_cases hlt : k < len
    · have g0 := hrow k hlt
      have g1 := hrow2 k hlt
      clear hrow hrow2
      go_wp2
      go_quiet (fail)
      go_wp2
      go_roundw
      case rel => exact ⟨k + 1, by omega, by go_num, _, rfl⟩
      case measure => simp [intOf]; omega
    · have : k = len := by omega
      subst this
      go_wp2
      go_ret
      exact ⟨rfl, m, rfl⟩
structure Marked (w wr : World) (rb d len : Nat) : Prop where
  size : wr.heap.size = w.heap.size
  other : ∀ b, b ≠ rb → wr.heap[b]? = w.heap[b]?
  os : wr.os = w.os
  tape : wr.tape = w.tape
  output : wr.output = w.output
  cell : ∀ r, r < len → ∃ v, wr.cell? ⟨rb, d + r, none⟩ = some v
  free : ∀ r, r < len → wr.frozen? ⟨rb, d + r, none⟩ = false
theorem Marked.step {w wr : World} {rb d len : Nat} (h : Marked w wr rb d len) (i : Nat) (v : Value) : Marked w (wr.setCell ⟨rb, d + i, none⟩ v) rb d len :=
  ⟨by simp [h.size], fun b hb => by rw [Below.heap_setCell _ _ _ _ hb]; exact h.other b hb, h.os, h.tape, h.output, fun r hr => by
    obtain ⟨u, hu⟩ := h.cell r hr
    exact cell?_setCell_some hu, fun r hr => by simpa using h.free r hr⟩
set_option maxHeartbeats 1000000 in
theorem mark_calls (w : World) (rb d len cap k0 : Nat) (hk1 : k0 ≤ 1099511627776) (hlen : len ≤ 4194304) (h0 : Marked w w rb d len) :
    Calls Try.prog 31 #[.slice (some ⟨rb, d, none⟩) len cap, .int .i64 k0] w fun e w' => e = .returned (.int .i64 ((k0 + len : Nat) : Int)) ∧ Marked w w' rb d len := by
  go_enter Try.func31, Try.ntmps31
  go_wp2
  go_loopw [1, 5] (fun q i wr => ∃ k : Nat, k ≤ len ∧ i = .int .i64 k ∧ q = .int .i64 ((k0 + k : Nat) : Int) ∧ Marked w wr rb d len) (fun _ i _ => len - (intOf i).toNat)
  case atStart => exact ⟨0, Nat.zero_le _, rfl, rfl, h0⟩
  case round =>
    obtain ⟨k, hk, rfl, rfl, hM⟩ := hrel
    by_cases hlt : k < len
    · obtain ⟨u, g0⟩ := hM.cell k hlt
      have g1 := hM.free k hlt
      have hI := hM.step k (.int .i64 ((k0 + k : Nat) : Int))
      clear hM h0
      go_wp2
      go_roundw
      case rel => exact ⟨k + 1, by omega, by go_num, by go_num, hI⟩
      case measure => simp [intOf]; omega
    · have : k = len := by omega
      subst this
      go_wp2
      go_ret
      exact ⟨rfl, hM⟩
theorem lft_range {z : Nat → Int} : ∀ {k : Nat}, ShareZ z k → 0 ≤ lft z k ∧ lft z k ≤ 6
  | 0, _ => by simp [lft]
  | k + 1, h => by
    have h1 := lft_range (k := k) fun i hi => h i (by omega)
    obtain ⟨a, b, _⟩ := h k (by omega)
    simp only [lft]; omega
set_option maxHeartbeats 1000000 in
theorem of_calls (w : World) (rb d len cap : Nat) (z : Nat → Int) (hlen : len ≤ 4194304) (hrow : ∀ r, r < len → w.cell? ⟨rb, d + r, none⟩ = some (.int .i64 (z r))) (hz : ∀ r, -9223372036854775808 ≤ z r ∧ z r < 9223372036854775808) (hno : ¬ ShareZ z len) :
    Calls Try.prog 40 #[.slice (some ⟨rb, d, none⟩) len cap] w fun e w' => e = .returned (.tuple #[.slice none 0 0, .bool false]) ∧ w' = w := by
  go_enter Try.func40, Try.ntmps40
  go_wp2
  go_loop [4, 9] (fun q i => ∃ k : Nat, k ≤ len ∧ i = .int .i64 k ∧ q = .int .i64 (lft z k) ∧ ShareZ z k) (fun _ i => len - (intOf i).toNat)
  case atStart => exact ⟨0, Nat.zero_le _, rfl, rfl, fun k hk => by omega⟩
  case round =>
    obtain ⟨k, hk, rfl, rfl, hS⟩ := hrel
    by_cases hlt : k < len
    · have g0 := hrow k hlt
      obtain ⟨l0, l1⟩ := lft_range hS
      obtain ⟨z0, z1⟩ := hz k
      by_cases c1 : z k < 1
      · clear hrow hz hS hno
        go_wp2
        go_ret2
        exact ⟨rfl, rfl⟩
      · by_cases c2 : lft z k < z k
        · clear hrow hz hS hno
          go_wp2
          go_ret2
          exact ⟨rfl, rfl⟩
        · by_cases c3 : k = 0
          · subst c3
            have g0 : w.cell? ⟨rb, d, none⟩ = some (.int .i64 (z 0)) := by simpa using g0
            have hN : ShareZ z 1 := fun i hi => by
              obtain rfl : i = 0 := by omega
              exact ⟨by omega, by omega, fun h => by omega⟩
            have HL : Hid (lft z (0 + 1) = lft z 0 - z 0) := by exact rfl
            clear hrow hz hno hS
            go_wp2
            go_round
            case rel => exact ⟨1, by omega, by go_num, by rw [← HL.out], hN⟩
            case measure => simp [intOf]; omega
          · have hk0 : (0 : Int) < (k : Int) := by omega
            have g1 := hrow (k - 1) (by omega)
            have e1 : ((k : Int) - 1).toNat = k - 1 := by omega
            have b1 : (k : Int) - 1 < (len : Int) := by omega
            have b0 : 0 ≤ (k : Int) - 1 := by omega
            by_cases c4 : z (k - 1) < z k
            · clear hrow hz hS hno
              go_wp2
              go_ret2
              exact ⟨rfl, rfl⟩
            · have hN : ShareZ z (k + 1) := fun i hi => by
                by_cases hik : i = k
                · subst hik; exact ⟨by omega, by omega, fun _ => by omega⟩
                · exact hS i (by omega)
              have HL : Hid (lft z (k + 1) = lft z k - z k) := by exact rfl
              clear hrow hz hno hS
              go_wp2
              go_round
              case rel => exact ⟨k + 1, by omega, by go_num, by rw [HL.out], hN⟩
              case measure => simp [intOf]; omega
    · have : k = len := by omega
      subst this
      exact absurd hS hno
theorem in_yes (x : Int) (w : World) (h1 : 1 ≤ x) (h2 : x ≤ 6) : Calls Try.prog 38 #[.int .i64 x, .int .i64 1, .int .i64 6] w fun e w' => e = .returned (.bool true) ∧ w = w' := by
  go_enter Try.func38, Try.ntmps38
  go_wp2
  go_ret
  exact ⟨rfl, rfl⟩
theorem in_low (x : Int) (w : World) (h1 : x < 1) : Calls Try.prog 38 #[.int .i64 x, .int .i64 1, .int .i64 6] w fun e w' => e = .returned (.bool false) ∧ w = w' := by
  go_enter Try.func38, Try.ntmps38
  go_wp2
  go_ret
  exact ⟨rfl, rfl⟩
theorem in_high (x : Int) (w : World) (h1 : 6 < x) : Calls Try.prog 38 #[.int .i64 x, .int .i64 1, .int .i64 6] w fun e w' => e = .returned (.bool false) ∧ w = w' := by
  have h2 : 1 ≤ x := by omega
  have h3 : decide (x ≤ 6) = false := by simp; omega
  go_enter Try.func38, Try.ntmps38
  go_wp2
  go_ret
  exact ⟨rfl, rfl⟩
def OkS (z : Nat → Int) (k : Nat) : Prop := 1 ≤ z k ∧ z k ≤ 6 ∧ (0 < k → z k ≤ z (k - 1))
def AllS (z : Nat → Int) (n : Nat) : Prop := ∀ k, k < n → OkS z k
theorem lft_mono {z : Nat → Int} {n : Nat} (h : AllS z n) : ∀ k, k ≤ n → lft z n ≤ lft z k := by
  induction n with
  | zero =>
    intro k hk
    have : k = 0 := by omega
    subst this
    exact Int.le_refl _
  | succ n ih =>
    intro k hk
    by_cases e : k = n + 1
    · subst e; exact Int.le_refl _
    · have h1 := ih (fun i hi => h i (by omega)) k (by omega)
      have := (h n (by omega)).1
      simp only [lft]; omega
theorem lft_low {z : Nat → Int} : ∀ {n : Nat}, AllS z n → 6 - 6 * (n : Int) ≤ lft z n ∧ lft z n ≤ 6
  | 0, _ => by simp [lft]
  | n + 1, h => by
    have h1 := lft_low (n := n) fun i hi => h i (by omega)
    have h2 := h n (by omega)
    simp only [lft]; have := h2.1; have := h2.2.1; omega
theorem neg_of {z : Nat → Int} {n : Nat} (h : AllS z n) (hno : ¬ ShareZ z n) : lft z n < 0 := by
  by_cases hl : lft z n < 0
  · exact hl
  · exfalso
    apply hno
    intro k hk
    obtain ⟨a, b, c⟩ := h k hk
    have := lft_mono h (k + 1) (by omega)
    simp only [lft] at this
    exact ⟨a, by omega, c⟩
set_option maxHeartbeats 1000000 in
theorem sum_calls (w : World) (rb d len cap : Nat) (z : Nat → Int) (hlen : len ≤ 6) (hS : AllS z len) (hrow : ∀ r, r < len → w.cell? ⟨rb, d + r, none⟩ = some (.int .i64 (z r))) :
    Calls Try.prog 61 #[.slice (some ⟨rb, d, none⟩) len cap] w fun e w' => e = .returned (.int .i64 (6 - lft z len)) ∧ w = w' := by
  go_enter Try.func61, Try.ntmps61
  go_wp2
  go_loop [3, 4] (fun q i => ∃ k : Nat, k ≤ len ∧ i = .int .i64 k ∧ q = .int .i64 (6 - lft z k)) (fun _ i => len - (intOf i).toNat)
  case atStart => exact ⟨0, Nat.zero_le _, rfl, rfl⟩
  case round =>
    obtain ⟨k, hk, rfl, rfl⟩ := hrel
    by_cases hlt : k < len
    · have g0 := hrow k hlt
      obtain ⟨a, b⟩ := lft_low (n := k) fun i hi => hS i (by omega)
      obtain ⟨z0, z1, _⟩ := hS k hlt
      have HL : Hid (6 - lft z (k + 1) = 6 - lft z k + z k) := by show _ = _; simp only [lft]; omega
      clear hrow hS
      go_wp2
      go_round
      case rel => exact ⟨k + 1, by omega, by go_num, by rw [HL.out]⟩
      case measure => simp [intOf]; omega
    · have : k = len := by omega
      subst this
      go_wp2
      go_ret
      exact ⟨rfl, rfl⟩

set_option maxHeartbeats 2000000 in
theorem share_calls (w : World) (rb d len cap : Nat) (z : Nat → Int) (hlen : len ≤ 4194304) (hrow : ∀ r, r < len → w.cell? ⟨rb, d + r, none⟩ = some (.int .i64 (z r))) (hno : ¬ ShareZ z len) :
    Calls Try.prog 37 #[.slice (some ⟨rb, d, none⟩) len cap] w fun e w' => e = .returned (.bool false) ∧ ∃ m, w' = w.drewN m := by
  go_enter Try.func37, Try.ntmps37
  go_wp2
  go_loopw [3] (fun i wr => ∃ k : Nat, k ≤ len ∧ i = .int .i64 k ∧ AllS z k ∧ ∃ m, wr = w.drewN m) (fun i _ => len - (intOf i).toNat)
  case atStart => exact ⟨0, Nat.zero_le _, rfl, fun k hk => by omega, 0, rfl⟩
  case round =>
    obtain ⟨k, hk, rfl, hS, m, rfl⟩ := hrel
    by_cases hlt : k < len
    · have g0 := hrow k hlt
      by_cases c1 : z k < 1
      · clear hrow hS hno
        go_wp2
        go_quiet ((go_at_call 38; refine (in_low _ _ (by omega)).mono ?_; rintro e w' ⟨rfl, rfl⟩; exact ⟨rfl, _, rfl⟩))
        go_wp2
        go_ret
        exact ⟨rfl, _, drewN_drewN _ _ _⟩
      · by_cases c2 : 6 < z k
        · clear hrow hS hno
          go_wp2
          go_quiet ((go_at_call 38; refine (in_high _ _ (by omega)).mono ?_; rintro e w' ⟨rfl, rfl⟩; exact ⟨rfl, _, rfl⟩))
          go_wp2
          go_ret
          exact ⟨rfl, _, drewN_drewN _ _ _⟩
        · by_cases c3 : k = 0
          · subst c3
            have g0 : w.cell? ⟨rb, d, none⟩ = some (.int .i64 (z 0)) := by simpa using g0
            have hN : AllS z 1 := fun i hi => by
              obtain rfl : i = 0 := by omega
              exact ⟨by omega, by omega, fun h => by omega⟩
            clear hrow hno hS
            go_wp2
            go_quiet ((go_at_call 38; refine (in_yes _ _ (by omega) (by omega)).mono ?_; rintro e w' ⟨rfl, rfl⟩; exact ⟨rfl, _, rfl⟩))
            go_wp2
            go_roundw
            case rel => exact ⟨1, by omega, by go_num, hN, _, rfl⟩
            case measure => simp [intOf]; omega
          · have hk0 : (0 : Int) < (k : Int) := by omega
            have g1 := hrow (k - 1) (by omega)
            have e1 : ((k : Int) - 1).toNat = k - 1 := by omega
            have b1 : (k : Int) - 1 < (len : Int) := by omega
            have b0 : 0 ≤ (k : Int) - 1 := by omega
            have hk1 : 0 < k := by omega
            have hk2 : decide (0 < k) = true := by simp; omega
            by_cases c4 : z (k - 1) < z k
            · clear hrow hS hno
              go_wp2
              go_quiet ((go_at_call 38; refine (in_yes _ _ (by omega) (by omega)).mono ?_; rintro e w' ⟨rfl, rfl⟩; exact ⟨rfl, _, rfl⟩))
              go_wp2
              go_ret
              exact ⟨rfl, _, drewN_drewN _ _ _⟩
            · have hN : AllS z (k + 1) := fun i hi => by
                by_cases hik : i = k
                · subst hik; exact ⟨by omega, by omega, fun _ => by omega⟩
                · exact hS i (by omega)
              clear hrow hno hS
              go_wp2
              go_quiet ((go_at_call 38; refine (in_yes _ _ (by omega) (by omega)).mono ?_; rintro e w' ⟨rfl, rfl⟩; exact ⟨rfl, _, rfl⟩))
              go_wp2
              go_roundw
              case rel => exact ⟨k + 1, by omega, by go_num, hN, _, rfl⟩
              case measure => simp [intOf]; omega
    · have : k = len := by omega
      subst this
      have hneg := neg_of hS hno
      by_cases h6 : k ≤ 6
      · have hrow' : ∀ r, r < k → (w.drewN m).cell? ⟨rb, d + r, none⟩ = some (.int .i64 (z r)) := fun r hr => hrow r hr
        have HC := sum_calls (w.drewN m) rb d k cap z h6 hS hrow'
        have h7 : (k : Int) ≤ 6 := by omega
        have h8 : decide (6 - lft z k ≤ 6) = false := by simp; omega
        clear hrow hrow' hS hno
        go_wp2_with (go_at_call 61; refine HC.mono ?_; rintro e w' ⟨rfl, rfl⟩)
        go_ret
        exact ⟨rfl, m, rfl⟩
      · clear hrow hS hno
        go_wp2
        go_ret
        exact ⟨rfl, m, rfl⟩

theorem listK : ListK Try.prog 14 16 31 37 40 3 :=
  { kTo := ⟨Try.f14, Try.func14, by kernel_rfl, by decide⟩
    kEq := ⟨Try.f16, Try.func16, by kernel_rfl, by decide⟩
    kMark := fun _ => ⟨Try.f31, Try.func31, by kernel_rfl, by decide⟩
    kIn := fun _ => ⟨Try.f37, Try.func37, by kernel_rfl, by decide⟩
    kOf := fun _ => ⟨Try.f40, Try.func40, by kernel_rfl, by decide⟩
    to := fun w rb d len cap z h1 h2 => (to_calls w rb d len cap z h1 h2).mono fun e w' ⟨he, hC⟩ => by
      refine ⟨he, ?_⟩
      obtain ⟨cs, h3, h4, h5⟩ := hC.row
      have hlt : w.heap.size < w'.heap.size := by rw [hC.size]; omega
      refine ⟨cs, ?_, h4, fun i hi => by rw [h5 i hi]; simp [hi], hC.since.os, hC.since.tape, hC.since.output⟩
      apply Array.ext_getElem?
      intro i
      rw [Array.getElem?_push]
      split
      · rename_i hi; rw [hi]; exact h3
      · rename_i hi
        by_cases hlt : i < w.heap.size
        · exact hC.since.block i hlt
        · rw [Array.getElem?_eq_none (by rw [hC.size]; omega), Array.getElem?_eq_none (by omega)]
    eq := fun w rb d rb2 d2 len cap cap2 z h1 h2 h3 => eq_calls w rb d rb2 d2 len cap cap2 z h1 h2 h3
    mark := fun _ w rb d len cap k0 h1 h2 h3 h4 => (mark_calls w rb d len cap k0 h1 h2 ⟨rfl, fun _ _ => rfl, rfl, rfl, rfl, h3, h4⟩).mono fun e w' ⟨he, hM⟩ => ⟨he, hM.size, hM.other, hM.os, hM.tape, hM.output⟩
    inn := fun _ w rb d len cap z h1 h2 h3 => share_calls w rb d len cap z h1 h2 h3
    off := fun _ w rb d len cap z h1 h2 h3 h4 => of_calls w rb d len cap z h1 h2 h3 h4 }
end Go.Proofs.Ytnglbchhlpbgkaa.list
