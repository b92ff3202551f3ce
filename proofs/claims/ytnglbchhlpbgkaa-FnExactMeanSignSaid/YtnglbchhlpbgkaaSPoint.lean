/- What a seat's program says of the functions that meet a list as a point. -/
import Derived.Test.YtnglbchhlpbgkaaSEngZd
import Derived.Test.YtnglbchhlpbgkaaProg
import Derived.WalkKit
import Derived.ProofKit
import Derived.OpenShut
import Derived.Below
import Derived.BigQuiet
import Derived.Deep.QuietTactic
import Derived.IntWalk
import Derived.Deep.OwnRows
import Derived.LoopTactic
namespace Go.Proofs.Ytnglbchhlpbgkaa.point
open Go.ChangeShapes Go.WideShapes Go.ChangeAt Go.RowKit Go.Eng
set_option linter.unusedVariables false
set_option linter.unusedSimpArgs false
theorem drewN_drewN (w : World) (a b : Nat) : (w.drewN a).drewN b = w.drewN (a + b) := by simp [World.drewN, Nat.add_assoc]
theorem in_yes (x : Int) (w : World) (h1 : -5 ≤ x) (h2 : x ≤ 5) : Calls Try.prog 38 #[.int .i64 x, .int .i64 (-5), .int .i64 5] w fun e w' => e = .returned (.bool true) ∧ w = w' := by
  go_enter Try.func38, Try.ntmps38
  go_wp2
  go_ret
  exact ⟨rfl, rfl⟩
theorem in_low (x : Int) (w : World) (h1 : x < -5) : Calls Try.prog 38 #[.int .i64 x, .int .i64 (-5), .int .i64 5] w fun e w' => e = .returned (.bool false) ∧ w = w' := by
  go_enter Try.func38, Try.ntmps38
  go_wp2
  go_ret
  exact ⟨rfl, rfl⟩
theorem in_high (x : Int) (w : World) (h1 : 5 < x) : Calls Try.prog 38 #[.int .i64 x, .int .i64 (-5), .int .i64 5] w fun e w' => e = .returned (.bool false) ∧ w = w' := by
  have h2 : -5 ≤ x := by omega
  have h3 : decide (x ≤ 5) = false := by simp; omega
  go_enter Try.func38, Try.ntmps38
  go_wp2
  go_ret
  exact ⟨rfl, rfl⟩
def AllP (z : Nat → Int) (n : Nat) : Prop := ∀ k, k < n → -5 ≤ z k ∧ z k ≤ 5
set_option maxHeartbeats 2000000 in
theorem pin_calls (w : World) (rb d len cap : Nat) (z : Nat → Int) (hlen : len ≤ 4194304) (hrow : ∀ r, r < len → w.cell? ⟨rb, d + r, none⟩ = some (.int .i64 (z r))) (hno : ¬ PtZ z len) :
    Calls Try.prog 43 #[.slice (some ⟨rb, d, none⟩) len cap] w fun e w' => e = .returned (.bool false) ∧ ∃ m, w' = w.drewN m := by
  go_enter Try.func43, Try.ntmps43
  go_wp2
  go_loopw [3] (fun i wr => ∃ k : Nat, k ≤ len ∧ i = .int .i64 k ∧ AllP z k ∧ ∃ m, wr = w.drewN m) (fun i _ => len - (intOf i).toNat)
  case atStart => exact ⟨0, Nat.zero_le _, rfl, fun k hk => by omega, 0, rfl⟩
  case round =>
    obtain ⟨k, hk, rfl, hS, m, rfl⟩ := hrel
    by_cases hlt : k < len
    · have g0 := hrow k hlt
      by_cases c1 : z k < -5
      · clear hrow hS hno
        go_wp2
        go_ret
        exact ⟨rfl, m, rfl⟩
      · have c1' : -5 ≤ z k := by omega
        by_cases c2 : 5 < z k
        · have c3 : decide (z k ≤ 5) = false := by simp; omega
          clear hrow hS hno
          go_wp2
          go_ret
          exact ⟨rfl, m, rfl⟩
        · have c2' : z k ≤ 5 := by omega
          have hN : AllP z (k + 1) := fun i hi => by
            by_cases hik : i = k
            · subst hik; exact ⟨by omega, by omega⟩
            · exact hS i (by omega)
          clear hrow hno hS
          go_wp2
          go_roundw
          case rel => exact ⟨k + 1, by omega, by go_num, hN, _, rfl⟩
          case measure => simp [intOf]; omega
    · have : k = len := by omega
      subst this
      have h6 : ¬ k ≤ 5 := fun h => hno ⟨h, hS⟩
      have h7 : decide ((k : Int) ≤ 5) = false := by simp; omega
      clear hrow hS hno
      go_wp2
      go_ret
      exact ⟨by simp [h7], m, rfl⟩
set_option maxHeartbeats 1000000 in
theorem pof_calls (w : World) (rb d len cap : Nat) (z : Nat → Int) (hlen : len ≤ 4194304) (hrow : ∀ r, r < len → w.cell? ⟨rb, d + r, none⟩ = some (.int .i64 (z r))) (hno : ¬ PtZ z len) :
    Calls Try.prog 45 #[.slice (some ⟨rb, d, none⟩) len cap] w fun e w' => e = .returned (.tuple #[.agg #[.slice none 0 0, .map none], .bool false]) ∧ Below w.heap.size w w' := by
  by_cases h6 : 5 < len
  · have h6 : (5 : Int) < (len : Int) := by omega
    clear hrow hno
    go_enter Try.func45, Try.ntmps45
    go_wp2
    (try simp only [Exit.inBlock, Exit.then])
    refine bodyPost_ret (v := .tuple #[.agg #[.slice none 0 0, .map none], .bool false]) ?_ rfl ⟨rfl, ?_⟩
    · rw [results_cell_tmp rfl]
      go_simp
    · (repeat' (first | exact Below.refl _ _ | refine Below.setCell ?_ (by simp <;> omega) _ | refine Below.alloc ?_ (by simp <;> omega) _))
  have h5 : ¬ (5 : Int) < (len : Int) := by omega
  go_enter Try.func45, Try.ntmps45
  go_wp2
  go_loopw [12] (fun i wr => ∃ k : Nat, k ≤ len ∧ i = .int .i64 k ∧ AllP z k ∧ wr = w.alloc (.cells #[.slice none 0 0, .map none] 48)) (fun i _ => len - (intOf i).toNat)
  case atStart => exact ⟨0, Nat.zero_le _, rfl, fun k hk => by omega, rfl⟩
  case round =>
    obtain ⟨k, hk, rfl, hS, rfl⟩ := hrel
    by_cases hlt : k < len
    · have hrb : rb < w.heap.size := World.block_lt_of_cell? _ _ (hrow k hlt)
      have g0 : (w.alloc (.cells #[.slice none 0 0, .map none] 48)).cell? ⟨rb, d + k, none⟩ = some (.int .i64 (z k)) := by
        rw [World.cell?_alloc_lt _ _ _ hrb]
        exact hrow k hlt
      by_cases c1 : z k < -5
      · clear hrow hS hno
        go_wp2
        (try simp only [Exit.inBlock, Exit.then])
        refine bodyPost_ret (v := .tuple #[.agg #[.slice none 0 0, .map none], .bool false]) ?_ rfl ⟨rfl, ?_⟩
        · rw [results_cell_tmp rfl]
          go_simp
        · (repeat' (first | exact Below.refl _ _ | refine Below.setCell ?_ (by simp <;> omega) _ | refine Below.alloc ?_ (by simp <;> omega) _))
      · by_cases c2 : 5 < z k
        · clear hrow hS hno
          go_wp2
          (try simp only [Exit.inBlock, Exit.then])
          refine bodyPost_ret (v := .tuple #[.agg #[.slice none 0 0, .map none], .bool false]) ?_ rfl ⟨rfl, ?_⟩
          · rw [results_cell_tmp rfl]
            go_simp
          · (repeat' (first | exact Below.refl _ _ | refine Below.setCell ?_ (by simp <;> omega) _ | refine Below.alloc ?_ (by simp <;> omega) _))
        · have hN : AllP z (k + 1) := fun i hi => by
            by_cases hik : i = k
            · subst hik; exact ⟨by omega, by omega⟩
            · exact hS i (by omega)
          clear hrow hno hS
          go_wp2
          go_roundw
          case rel => exact ⟨k + 1, by omega, by go_num, hN, by first | rfl | trivial⟩
          case measure => simp [intOf]; omega
    · have : k = len := by omega
      subst this
      exact absurd ⟨by omega, hS⟩ hno
theorem pointK : PointK Try.prog 43 45 :=
  { kIn := ⟨Try.f43, Try.func43, by kernel_rfl, by decide⟩
    kOf := ⟨Try.f45, Try.func45, by kernel_rfl, by decide⟩
    inn := fun w rb d len cap z h1 h2 h3 => pin_calls w rb d len cap z h1 h2 h3
    off := fun w rb d len cap z h1 h2 h3 => pof_calls w rb d len cap z h1 h2 h3 }
end Go.Proofs.Ytnglbchhlpbgkaa.point
