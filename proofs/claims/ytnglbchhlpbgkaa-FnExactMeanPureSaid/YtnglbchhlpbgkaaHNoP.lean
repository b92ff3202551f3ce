/- What a seat's program says of a function that takes short lists alone. -/
import Derived.Test.YtnglbchhlpbgkaaHEngZo
import Derived.Test.YtnglbchhlpbgkaaProg
import Derived.WalkKit
import Derived.ProofKit
import Derived.OpenShut
import Derived.Below
import Derived.BigQuiet
import Derived.Deep.QuietTactic
import Derived.IntWalk
import Derived.Deep.OwnRows
import Derived.LoopTactic
namespace Go.Proofs.Ytnglbchhlpbgkaa.nop
open Go.ChangeShapes Go.WideShapes Go.ChangeAt Go.RowKit Go.Eng
set_option linter.unusedVariables false
set_option linter.unusedSimpArgs false
theorem drewN_drewN (w : World) (a b : Nat) : (w.drewN a).drewN b = w.drewN (a + b) := by simp [World.drewN, Nat.add_assoc]
def AllP (z : Nat → Int) (n : Nat) : Prop := ∀ k, k < n → -5 ≤ z k ∧ z k ≤ 5
set_option maxHeartbeats 2000000 in
theorem pin_calls (w : World) (rb d len cap : Nat) (z : Nat → Int) (hlen : len ≤ 4194304) (hrow : ∀ r, r < len → w.cell? ⟨rb, d + r, none⟩ = some (.int .i64 (z r))) (hno : 5 < len) :
    Calls Try.prog 43 #[.slice (some ⟨rb, d, none⟩) len cap] w fun e w' => e = .returned (.bool false) ∧ ∃ m, w' = w.drewN m := by
  go_enter Try.func43, Try.ntmps43
  go_wp2
  go_loopw [3] (fun i wr => ∃ k : Nat, k ≤ len ∧ i = .int .i64 k ∧ AllP z k ∧ ∃ m, wr = w.drewN m) (fun i _ => len - (intOf i).toNat)
  case atStart => exact ⟨0, Nat.zero_le _, rfl, fun k hk => by omega, 0, rfl⟩
  case round =>
    obtain ⟨k, hk, rfl, hS, m, rfl⟩ := hrel
    by_cases hlt : k < len
    · have g0 := hrow k hlt
      by_cases c1 : z k < -5
      · clear hrow hS hno
        go_wp2
        go_ret
        exact ⟨rfl, m, rfl⟩
      · have c1' : -5 ≤ z k := by omega
        by_cases c2 : 5 < z k
        · have c3 : decide (z k ≤ 5) = false := by simp; omega
          clear hrow hS hno
          go_wp2
          go_ret
          exact ⟨rfl, m, rfl⟩
        · have c2' : z k ≤ 5 := by omega
          have hN : AllP z (k + 1) := fun i hi => by
            by_cases hik : i = k
            · subst hik; exact ⟨by omega, by omega⟩
            · exact hS i (by omega)
          clear hrow hno hS
          go_wp2
          go_roundw
          case rel => exact ⟨k + 1, by omega, by go_num, hN, _, rfl⟩
          case measure => simp [intOf]; omega
    · have : k = len := by omega
      subst this
      have h7 : decide ((k : Int) ≤ 5) = false := by simp; omega
      have h8 : (1 : Int) ≤ (k : Int) := by omega
      clear hrow hS hno
      go_wp2
      go_ret
      exact ⟨by simp [h7], m, rfl⟩
theorem noK : NoK Try.prog 43 5 :=
  { kIn := ⟨Try.f43, Try.func43, by kernel_rfl, by decide⟩
    inn := fun w rb d len cap z h1 h2 h3 => pin_calls w rb d len cap z h1 h2 h3 }
end Go.Proofs.Ytnglbchhlpbgkaa.nop
