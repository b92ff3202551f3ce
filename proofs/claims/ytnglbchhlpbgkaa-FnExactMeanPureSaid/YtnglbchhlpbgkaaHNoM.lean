/- What a seat's program says of a function that takes short lists alone, by way of another. -/
import Derived.Test.YtnglbchhlpbgkaaHNoP
import Derived.Handy
namespace Go.Proofs.Ytnglbchhlpbgkaa.nom
open Go.ChangeShapes Go.WideShapes Go.ChangeAt Go.RowKit Go.Eng
set_option linter.unusedVariables false
set_option linter.unusedSimpArgs false
theorem drewN_drewN (w : World) (a b : Nat) : (w.drewN a).drewN b = w.drewN (a + b) := by simp [World.drewN, Nat.add_assoc]
set_option maxHeartbeats 2000000 in
theorem pin_calls (w : World) (rb d len cap : Nat) (z : Nat → Int) (hlen : len ≤ 4194304) (hrow : ∀ r, r < len → w.cell? ⟨rb, d + r, none⟩ = some (.int .i64 (z r))) (hno : 5 < len) :
    Calls Try.prog 23 #[.slice (some ⟨rb, d, none⟩) len cap] w fun e w' => e = .returned (.bool false) ∧ ∃ m, w' = w.drewN m := by
  go_enter Try.func23, Try.ntmps23
  go_wp2
  go_loopw [3] (fun i wr => ∃ k : Nat, k ≤ len ∧ i = .int .i64 k ∧ ∃ m, wr = w.drewN m) (fun i _ => len - (intOf i).toNat)
  case atStart => exact ⟨0, Nat.zero_le _, rfl, 0, rfl⟩
  case round =>
    obtain ⟨k, hk, rfl, m, rfl⟩ := hrel
    by_cases hlt : k < len
    · have g0 := hrow k hlt
      by_cases c1 : z k < 0
      · clear hrow hno
        go_wp2
        go_ret
        exact ⟨rfl, m, rfl⟩
      · clear hrow hno
        go_wp2
        go_roundw
        case rel => exact ⟨k + 1, by omega, by go_num, _, rfl⟩
        case measure => simp [intOf]; omega
    · have : k = len := by omega
      subst this
      have C : ∀ m, Calls Try.prog 43 #[.slice (some ⟨rb, d, none⟩) k cap] (w.drewN m) fun e w' => e = .returned (.bool false) ∧ ∃ m, w' = w.drewN m := fun m =>
        (Go.Proofs.Ytnglbchhlpbgkaa.nop.pin_calls (w.drewN m) rb d k cap z hlen (fun r hr => hrow r hr) hno).mono (by rintro e w' ⟨rfl, q, rfl⟩; exact ⟨rfl, m + q, drewN_drewN _ _ _⟩)
      clear hrow hno
      go_wp2_with (go_at_call 43; with_reducible refine (C _).mono ?_; rintro e wq ⟨rfl, q, rfl⟩)
      go_ret
      exact ⟨rfl, q, rfl⟩
theorem noK : NoK Try.prog 23 5 :=
  { kIn := ⟨Try.f23, Try.func23, by kernel_rfl, by decide⟩
    inn := fun w rb d len cap z h1 h2 h3 => pin_calls w rb d len cap z h1 h2 h3 }
end Go.Proofs.Ytnglbchhlpbgkaa.nom
