/- The model's shares, letters and leaves. -/
import Derived.Test.YtbpemgpbmabnbaaDoorTmC
namespace Go.Proofs.YtbpemgpbmabnbaaDoor.tm
open Go.ChangeShapes Go.WideShapes Go.ChangeAt Go.RowKit Go.Tm
set_option linter.unusedVariables false
set_option linter.unusedSimpArgs false
set_option maxRecDepth 10000

theorem drewN_drewN (w : World) (a b : Nat) : (w.drewN a).drewN b = w.drewN (a + b) := by simp [World.drewN, Nat.add_assoc]
theorem below_drewN {B : Nat} {a w : World} (h : Below B a w) (n : Nat) : Below B a (w.drewN n) := ⟨h.os, h.tape, h.output, h.size, h.block⟩
theorem in_yes (x : Int) (w : World) (h1 : 1 ≤ x) (h2 : x ≤ 6) : Calls Tryd.prog 43 #[.int .i64 x, .int .i64 1, .int .i64 6] w fun e w' => e = .returned (.bool true) ∧ w = w' := by
  go_enter Tryd.func43, Tryd.ntmps43
  go_wp2
  go_ret
  exact ⟨rfl, rfl⟩
theorem in_low (x : Int) (w : World) (h1 : x < 1) : Calls Tryd.prog 43 #[.int .i64 x, .int .i64 1, .int .i64 6] w fun e w' => e = .returned (.bool false) ∧ w = w' := by
  go_enter Tryd.func43, Tryd.ntmps43
  go_wp2
  go_ret
  exact ⟨rfl, rfl⟩
theorem in_high (x : Int) (w : World) (h1 : 6 < x) : Calls Tryd.prog 43 #[.int .i64 x, .int .i64 1, .int .i64 6] w fun e w' => e = .returned (.bool false) ∧ w = w' := by
  have h2 : 1 ≤ x := by omega
  have h3 : decide (x ≤ 6) = false := by simp; omega
  go_enter Tryd.func43, Tryd.ntmps43
  go_wp2
  go_ret
  exact ⟨rfl, rfl⟩
set_option maxHeartbeats 1000000 in
theorem spec_sum (w : World) (sl : Value) (a : List Nat) (hr : RowAt w sl a) (ha : ∀ i, gn a i ≤ 9) (hl : a.length ≤ 40) :
    Calls Tryd.prog 32 #[sl] w fun e w' => e = .returned (.int .i64 (sumL a)) ∧ w = w' := by
  obtain ⟨b, o, cap, rfl, h1, h2⟩ := hr
  go_enter Tryd.func32, Tryd.ntmps32
  go_wp2
  go_loop [3, 4] (fun q i => ∃ k : Nat, k ≤ a.length ∧ i = .int .i64 k ∧ q = .int .i64 ((sumL (a.take k) : Nat) : Int) ∧ sumL (a.take k) ≤ 9 * k) (fun _ i => a.length - (intOf i).toNat)
  case atStart => exact ⟨0, Nat.zero_le _, rfl, rfl, Nat.le_refl _⟩
  case round =>
    obtain ⟨k, hk, rfl, rfl, hs⟩ := hrel
    by_cases hlt : k < a.length
    · have hc := h2 k hlt
      have hx := sum_take a k hlt
      have HX := Lib.hid hx
      have hz := ha k
      clear h2 ha hx
      go_wp2
      go_round
      case rel => exact ⟨k + 1, by omega, by go_num, by rw [HX.out]; go_num, by rw [HX.out]; omega⟩
      case measure => simp [intOf]; omega
    · have : k = a.length := by omega
      subst this
      clear h2 ha
      go_wp2
      go_ret
      exact ⟨by simp, rfl⟩
set_option maxHeartbeats 2000000 in
theorem spec_share (w : World) (sl : Value) (a : List Nat) (hr : RowAt w sl a) (ha : ∀ i, gn a i ≤ 9) (hl : a.length ≤ 40) :
    Calls Tryd.prog 34 #[sl] w fun e w' => e = .returned (.bool (isShare a)) ∧ Below w.heap.size w w' := by
  obtain ⟨rb, d, cap, rfl, hb, hrow⟩ := hr
  have HR : Hid (∀ r, r < a.length → w.cell? ⟨rb, d + r, none⟩ = some (.int .i64 ((gn a r : Nat) : Int))) := Lib.hid hrow
  clear hrow
  go_enter Tryd.func34, Tryd.ntmps34
  go_wp2
  go_loopw [3] (fun i wr => ∃ k : Nat, k ≤ a.length ∧ i = .int .i64 k ∧ Hid (∀ j, j < k → OkS a j) ∧ ∃ m, wr = w.drewN m) (fun i _ => a.length - (intOf i).toNat)
  case atStart => exact ⟨0, Nat.zero_le _, rfl, Lib.hid fun k hk => by omega, 0, rfl⟩
  case round =>
    obtain ⟨k, hk, rfl, hS, m, rfl⟩ := hrel
    by_cases hlt : k < a.length
    · have g0 := HR.out k hlt
      have h9 := ha k
      have HNO : Hid (¬ OkS a k → isShare a = false) := Lib.hid fun h => by
        cases e : isShare a with
        | false => rfl
        | true => exact absurd (((isShare_iff a).1 e).1 k hlt) h
      by_cases c1 : gn a k < 1
      · have HF : Hid (isShare a = false) := Lib.hid (HNO.out fun h => by have := h.1; omega)
        clear ha HNO
        go_wp2
        go_quiet ((go_at_call 43; refine (in_low _ _ (by omega)).mono ?_; rintro e w' ⟨rfl, rfl⟩; exact ⟨rfl, _, rfl⟩))
        go_wp2
        go_ret
        exact ⟨by rw [HF.out]; rfl, below_drewN (below_drewN (Below.refl _ _) _) _⟩
      · by_cases c2 : 6 < gn a k
        · have HF : Hid (isShare a = false) := Lib.hid (HNO.out fun h => by have := h.2.1; omega)
          clear ha HNO
          go_wp2
          go_quiet ((go_at_call 43; refine (in_high _ _ (by omega)).mono ?_; rintro e w' ⟨rfl, rfl⟩; exact ⟨rfl, _, rfl⟩))
          go_wp2
          go_ret
          exact ⟨by rw [HF.out]; rfl, below_drewN (below_drewN (Below.refl _ _) _) _⟩
        · by_cases c3 : k = 0
          · subst c3
            have g0 : w.cell? ⟨rb, d, none⟩ = some (.int .i64 (gn a 0)) := by simpa only [Nat.add_zero] using g0
            have hN : Hid (∀ j, j < 1 → OkS a j) := Lib.hid fun i hi => by
              obtain rfl : i = 0 := by omega
              exact ⟨by omega, by omega, fun h => by omega⟩
            clear ha HNO
            go_wp2
            go_quiet ((go_at_call 43; refine (in_yes _ _ (by omega) (by omega)).mono ?_; rintro e w' ⟨rfl, rfl⟩; exact ⟨rfl, _, rfl⟩))
            go_wp2
            go_roundw
            case rel => exact ⟨1, by omega, by go_num, hN, _, rfl⟩
            case measure => simp [intOf]; omega
          · have hk0 : (0 : Int) < (k : Int) := by omega
            have g1 := HR.out (k - 1) (by omega)
            have e1 : ((k : Int) - 1).toNat = k - 1 := by omega
            have b1 : (k : Int) - 1 < (a.length : Int) := by omega
            have b0 : 0 ≤ (k : Int) - 1 := by omega
            have hk1 : 0 < k := by omega
            have hk2 : decide (0 < k) = true := by simp; omega
            have h9' := ha (k - 1)
            by_cases c4 : gn a (k - 1) < gn a k
            · have HF : Hid (isShare a = false) := Lib.hid (HNO.out fun h => by have := h.2.2 hk1; omega)
              clear ha HNO
              go_wp2
              go_quiet ((go_at_call 43; refine (in_yes _ _ (by omega) (by omega)).mono ?_; rintro e w' ⟨rfl, rfl⟩; exact ⟨rfl, _, rfl⟩))
              go_wp2
              go_ret
              exact ⟨by rw [HF.out]; rfl, below_drewN (below_drewN (Below.refl _ _) _) _⟩
            · have hN : Hid (∀ j, j < k + 1 → OkS a j) := Lib.hid fun i hi => by
                by_cases hik : i = k
                · subst hik; exact ⟨by omega, by omega, fun _ => by omega⟩
                · exact hS.out i (by omega)
              clear ha HNO
              go_wp2
              go_quiet ((go_at_call 43; refine (in_yes _ _ (by omega) (by omega)).mono ?_; rintro e w' ⟨rfl, rfl⟩; exact ⟨rfl, _, rfl⟩))
              go_wp2
              go_roundw
              case rel => exact ⟨k + 1, by omega, by go_num, hN, _, rfl⟩
              case measure => simp [intOf]; omega
    · have : k = a.length := by omega
      subst this
      have hls := len_le_sum a hS.out
      by_cases h6 : a.length ≤ 6
      · have HRW : RowAt (w.drewN m) (.slice (some ⟨rb, d, none⟩) a.length cap) a := ⟨rb, d, cap, rfl, hb, HR.out⟩
        have HC := spec_sum (w.drewN m) _ a HRW ha hl
        have h7 : (a.length : Int) ≤ 6 := by omega
        have h8 : Hid (isShare a = decide ((sumL a : Int) ≤ 6)) := Lib.hid (by
          rw [Bool.eq_iff_iff, isShare_iff, decide_eq_true_eq]
          exact ⟨fun h => by have := h.2; omega, fun h => ⟨hS.out, by omega⟩⟩)
        clear ha HRW
        go_wp2_with (go_at_call 32; refine HC.mono ?_; rintro e w' ⟨rfl, rfl⟩)
        go_ret
        exact ⟨by rw [h8.out]; rfl, below_drewN (Below.refl _ _) _⟩
      · have HF : Hid (isShare a = false) := Lib.hid (by
          cases e : isShare a with
          | false => rfl
          | true => exact absurd (isShare_len e) h6)
        clear ha
        go_wp2
        go_ret
        exact ⟨by rw [HF.out]; rfl, below_drewN (Below.refl _ _) _⟩
theorem isL_int (c : UInt8) : isL c = ((c.toNat : Int) == 109 || (c.toNat : Int) == 101 || (c.toNat : Int) == 104 || (c.toNat : Int) == 112 || (c.toNat : Int) == 115) := by
  have h : ∀ k : UInt8, (c == k) = ((c.toNat : Int) == ((k.toNat : Nat) : Int)) := fun k => by
    rw [Bool.eq_iff_iff]
    simp only [beq_iff_eq, ← UInt8.toNat_inj]
    exact ⟨fun h => by omega, fun h => by omega⟩
  unfold isL
  rw [h, h, h, h, h]
  rfl
theorem letter (c : UInt8) (w : World) : Calls Tryd.prog 33 #[.int .u8 c.toNat] w fun e w' => e = .returned (.bool (isL c)) ∧ w = w' := by
  go_enter Tryd.func33, Tryd.ntmps33
  go_wp2
  all_goals
    go_ret
    refine ⟨congrArg (fun b => Ending.returned (.bool b)) ?_, rfl⟩
    rw [isL_int] <;> simp [*]
end Go.Proofs.YtbpemgpbmabnbaaDoor.tm
