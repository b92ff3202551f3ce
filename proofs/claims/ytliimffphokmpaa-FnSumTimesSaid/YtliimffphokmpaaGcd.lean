/- What a seat's program says of the greatest divisor in common. -/
import Derived.Test.YtliimffphokmpaaEngXj
import Derived.Test.YtliimffphokmpaaProg
import Derived.WalkKit
import Derived.ProofKit
import Derived.OpenShut
import Derived.Below
import Derived.BigQuiet
import Derived.Deep.QuietTactic
import Derived.IntWalk
import Derived.Deep.OwnRows
import Derived.LoopTactic
namespace Go.Proofs.Ytliimffphokmpaa.gcd
open Go.ChangeShapes Go.WideShapes Go.ChangeAt Go.RowKit Go.Eng
set_option linter.unusedVariables false
set_option linter.unusedSimpArgs false
theorem tmod_one {z : Int} (h : 1 < z ∨ z < -1) : Int.tmod 1 z = 1 := by
  rcases h with h | h
  · exact Int.tmod_eq_of_lt (by omega) h
  · have : Int.tmod 1 (- (-z)) = Int.tmod 1 (-z) := Int.tmod_neg _ _
    rw [Int.neg_neg] at this
    rw [this]
    exact Int.tmod_eq_of_lt (by omega) (by omega)
set_option maxHeartbeats 1000000 in
theorem gcd_calls (w : World) (z : Int) (h1 : -9223372036854775808 ≤ z) (h2 : z < 9223372036854775808) :
    Calls Try.prog 241 #[.int .i64 z, .int .i64 1] w fun e w' => e = .returned (.int .i64 1) ∧ w = w' := by
  go_enter Try.func241, Try.ntmps241
  go_wp2
  go_loop [0, 1] (fun q i => ∃ x y : Int, q = .int .i64 x ∧ i = .int .i64 y ∧ ((x = z ∧ y = 1) ∨ (x = 0 ∧ (y = 1 ∨ y = -1)) ∨ (x = 1 ∧ (1 < y ∨ y < -1) ∧ -9223372036854775808 ≤ y ∧ y < 9223372036854775808))) (fun q _ => (intOf q).natAbs)
  case atStart => exact ⟨z, 1, rfl, rfl, .inl ⟨rfl, rfl⟩⟩
  case round =>
    obtain ⟨x, y, rfl, rfl, hrel⟩ := hrel
    by_cases c0 : x = 0
    · have hy : y = 1 ∨ y = -1 := by omega
      subst c0
      clear hrel h1 h2
      rcases hy with rfl | rfl
      · go_wp2
        go_ret
        exact ⟨rfl, rfl⟩
      · go_wp2
        go_ret
        exact ⟨rfl, rfl⟩
    · by_cases c1 : x = 1 ∧ (1 < y ∨ y < -1)
      · obtain ⟨rfl, hy⟩ := c1
        have e : Int.tmod y 1 = 0 := Int.tmod_one _
        have hy1 : -9223372036854775808 ≤ y ∧ y < 9223372036854775808 := by omega
        clear hrel h1 h2 c0
        go_wp2
        go_round
        case rel => exact ⟨0, 1, by go_num, rfl, .inr (.inl ⟨rfl, .inl rfl⟩)⟩
        case measure => simp [intOf]
      · obtain ⟨rfl, rfl⟩ : x = z ∧ y = 1 := by omega
        by_cases c2 : x = 1
        · subst c2
          clear hrel h1 h2 c0 c1
          go_wp2
          go_round
          case rel => exact ⟨0, 1, by go_num, rfl, .inr (.inl ⟨rfl, .inl rfl⟩)⟩
          case measure => simp [intOf]
        · by_cases c3 : x = -1
          · subst c3
            clear hrel h1 h2 c0 c1 c2
            go_wp2
            go_round
            case rel => exact ⟨0, -1, by go_num, rfl, .inr (.inl ⟨rfl, .inr rfl⟩)⟩
            case measure => simp [intOf]
          · have hx : 1 < x ∨ x < -1 := by omega
            have e := tmod_one hx
            have hx1 : 1 < x.natAbs := by omega
            clear hrel c1 c2 c3
            go_wp2
            go_round
            case rel => exact ⟨1, x, by go_num, rfl, .inr (.inr ⟨rfl, hx, h1, h2⟩)⟩
            case measure => simp [intOf]; omega
theorem gcdK : GcdK Try.prog 241 :=
  { known := ⟨Try.f241, Try.func241, by kernel_rfl, by decide⟩
    gcd := fun w z h1 h2 => (gcd_calls w z h1 h2).mono fun e w' ⟨he, hw⟩ => ⟨he, hw ▸ Below.refl _ _⟩ }
end Go.Proofs.Ytliimffphokmpaa.gcd
