/- What a seat's program says of the functions that count a sum's numbers. -/
import Derived.Test.YthggbkoccgigaabEngZj
import Derived.Test.YthggbkoccgigaabProg
import Derived.WalkKit
import Derived.ProofKit
import Derived.OpenShut
import Derived.Below
import Derived.BigQuiet
import Derived.Deep.QuietTactic
import Derived.IntWalk
import Derived.Deep.OwnRows
import Derived.LoopTactic
namespace Go.Proofs.Ythggbkoccgigaab.count
open Go.ChangeShapes Go.WideShapes Go.ChangeAt Go.RowKit Go.Eng
set_option linter.unusedVariables false
set_option linter.unusedSimpArgs false
theorem made (w : World) (o : Obj) : Below w.heap.size w (w.alloc o) := (Below.refl _ _).alloc (Nat.le_refl _) _
set_option maxHeartbeats 1000000 in
theorem spec_count (w : World) (s : ByteArray) (d0 : Int) (rb d len cap : Nat) (l : List Int) (h2 : len ≤ 11) (hb : rb < w.heap.size) (hc : ∀ i, i < len → w.cell? ⟨rb, d + i, none⟩ = some (.int .i64 (nth l i)))
    (HIn : ∀ w1, Below w.heap.size w w1 → Calls Try.prog 33 #[.agg #[.string s, .int .i64 d0, .slice (some ⟨rb, d, none⟩) len cap]] w1 fun e w2 => e = .returned (.bool true) ∧ Below w1.heap.size w1 w2) :
    Calls Try.prog 16 #[.agg #[.string s, .int .i64 d0, .slice (some ⟨rb, d, none⟩) len cap]] w fun e w' => e = .returned (.tuple #[.int .i64 ((nzc l len : Nat) : Int), .bool true]) ∧ Below w.heap.size w w' := by
  have hm := made w (.cells #[.string s, .int .i64 d0, .slice (some ⟨rb, d, none⟩) len cap] 28)
  have HC := HIn _ hm
  go_enter Try.func16, Try.ntmps16
  go_wp2_with (go_at_call 33; refine HC.mono ?_; rintro e w1 ⟨rfl, hB⟩)
  have hw1 : Below w.heap.size w w1 := hm.trans (hB.mono (by simp))
  have g1 : w1.cell? ⟨w.heap.size, 2, none⟩ = some (.slice (some ⟨rb, d, none⟩) len cap) := by
    rw [hB.cell (p := ⟨w.heap.size, 2, none⟩) (by simp)]
    simp
  have hc1 : ∀ i, i < len → w1.cell? ⟨rb, d + i, none⟩ = some (.int .i64 (nth l i)) := fun i hi => by rw [hw1.cell (p := ⟨rb, d + i, none⟩) hb]; exact hc i hi
  clear HIn HC hm hB hc
  go_wp2
  go_loop [4, 5] (fun q i => ∃ k : Nat, k ≤ len ∧ i = .int .i64 k ∧ q = .int .i64 ((nzc l k : Nat) : Int)) (fun _ i => len - (intOf i).toNat)
  case atStart => exact ⟨0, Nat.zero_le _, rfl, rfl⟩
  case round =>
    obtain ⟨k, hk, rfl, rfl⟩ := hrel
    by_cases hlt : k < len
    · have g0 := hc1 k hlt
      have hcl := nzc_le l k
      by_cases hz : nth l k = 0
      · have e := nzc_zero hz
        rw [hz] at g0
        clear hc1
        go_wp2
        go_round
        case rel => exact ⟨k + 1, by omega, by go_num, by rw [e]⟩
        case measure => simp [intOf]; omega
      · have HL : Hid (nzc l (k + 1) = nzc l k + 1) := by exact nzc_one hz
        clear hc1
        go_wp2
        go_round
        case rel => exact ⟨k + 1, by omega, by go_num, by rw [HL.out]; go_num⟩
        case measure => simp [intOf]; omega
    · have : k = len := by omega
      subst this
      go_wp2
      go_ret2
      exact ⟨rfl, hw1⟩
theorem box_cell {w w1 : World} {x y z : Value} {t : TypeId} (hB : Below (w.alloc (.cells #[x, y, z] t)).heap.size (w.alloc (.cells #[x, y, z] t)) w1) : w1.cell? ⟨w.heap.size, 2, none⟩ = some z := by
  rw [hB.cell (p := ⟨w.heap.size, 2, none⟩) (by simp)]
  simp
set_option maxHeartbeats 1000000 in
theorem impl_count (w : World) (s : ByteArray) (d0 : Int) (rb d len cap : Nat) (l : List Int) (h2 : len ≤ 11) (hb : rb < w.heap.size) (hc : ∀ i, i < len → w.cell? ⟨rb, d + i, none⟩ = some (.int .i64 (nth l i)))
    (HIn : ∀ w1, Below w.heap.size w w1 → Calls Try.prog 42 #[.agg #[.string s, .int .i64 d0, .slice (some ⟨rb, d, none⟩) len cap]] w1 fun e w2 => e = .returned (.bool true) ∧ Below w1.heap.size w1 w2) :
    Calls Try.prog 17 #[.agg #[.string s, .int .i64 d0, .slice (some ⟨rb, d, none⟩) len cap]] w fun e w' => e = .returned (.tuple #[.int .i64 ((nzc l len : Nat) : Int), .bool true]) ∧ Below w.heap.size w w' := by
  have hm := made w (.cells #[.string s, .int .i64 d0, .slice (some ⟨rb, d, none⟩) len cap] 28)
  have HC := HIn _ hm
  go_enter Try.func17, Try.ntmps17
  go_wp2_with (go_at_call 42; refine HC.mono ?_; rintro e w1 ⟨rfl, hB⟩; have g1 := box_cell hB)
  have hw1 : Below w.heap.size w w1 := hm.trans (hB.mono (by simp))
  have hc1 : ∀ i, i < len → w1.cell? ⟨rb, d + i, none⟩ = some (.int .i64 (nth l i)) := fun i hi => by rw [hw1.cell (p := ⟨rb, d + i, none⟩) hb]; exact hc i hi
  clear HIn HC hm hB hc
  go_loop [4, 13] (fun q i => ∃ k : Nat, k ≤ len ∧ i = .int .i64 k ∧ q = .int .i64 ((nzc l k : Nat) : Int)) (fun _ i => len - (intOf i).toNat)
  case atStart => exact ⟨0, Nat.zero_le _, rfl, rfl⟩
  case round =>
    obtain ⟨k, hk, rfl, rfl⟩ := hrel
    by_cases hlt : k < len
    · have g0 := hc1 k hlt
      have hcl := nzc_le l k
      by_cases hz : nth l k = 0
      · have e := nzc_zero hz
        rw [hz] at g0
        clear hc1
        go_wp2
        go_round
        case rel => exact ⟨k + 1, by omega, by go_num, by rw [e]⟩
        case measure => simp [intOf]; omega
      · have HL : Hid (nzc l (k + 1) = nzc l k + 1) := by exact nzc_one hz
        clear hc1
        go_wp2
        go_round
        case rel => exact ⟨k + 1, by omega, by go_num, by rw [HL.out]; go_num⟩
        case measure => simp [intOf]; omega
    · have : k = len := by omega
      subst this
      go_wp2
      go_ret2
      exact ⟨rfl, hw1⟩
end Go.Proofs.Ythggbkoccgigaab.count
