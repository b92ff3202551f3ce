/- The model's digits of a share. -/
import Derived.Test.YtbpemgpbmabnbaaDoorTmK
import Derived.Test.YtbpemgpbmabnbaaDoorTmU
import Derived.Laws.BytesArg
namespace Go.Proofs.YtbpemgpbmabnbaaDoor.tm
open Go.ChangeShapes Go.WideShapes Go.ChangeAt Go.RowKit Go.Tm
set_option linter.unusedVariables false
set_option linter.unusedSimpArgs false
set_option maxRecDepth 10000
set_option maxHeartbeats 1000000

/-- a text of one new byte -/
theorem one_byte (w : World) (z : Int) (c : UInt8) (hz : UInt8.ofNat z.toNat = c) (b : Nat) (hb : b = w.heap.size) : (convert 27 9 (.slice (some ⟨b, 0, none⟩) 1 1)).run Tryd.prog (w.alloc (.cells #[.int .u8 z] 5)) = .ok (.string ⟨#[c]⟩) (w.alloc (.cells #[.int .u8 z] 5)) := by
  subst hb hz
  exact run_convert_bytes_arg (P := Tryd.prog) (w := w.alloc (.cells #[.int .u8 z] 5)) 27 5 Tryd.underlying27 Tryd.underlying5 w.heap.size 0 1 1 [z] rfl (fun i hi => by
    obtain rfl : i = 0 := by omega
    simp) 9 Tryd.underlying9
theorem spec_dec (i : Nat) (h : i < 10) (w : World) : Calls Tryd.prog 40 #[.int .i64 i] w fun e w' => e = .returned (.string ⟨#[dg i]⟩) ∧ Below w.heap.size w w' := by
  have hcv := one_byte w (48 + (i : Int)) (dg i) (by unfold dg; congr 1) _ rfl
  go_enter Tryd.func40, Tryd.ntmps40
  go_wp2_with fail
  go_ret
  exact ⟨rfl, (Below.refl _ _).alloc (Nat.le_refl _) _⟩
theorem spec_digits (w : World) (sl : Value) (a : List Nat) (hr : RowAt w sl a) (ha : ∀ i, gn a i ≤ 9) (hl : a.length ≤ 40) :
    Calls Tryd.prog 26 #[sl] w fun e w' => ∃ T, Hid (T = ⟨(digitsOf a).toArray⟩) ∧ T.size ≤ a.length ∧ e = .returned (.string T) ∧ Below w.heap.size w w' := by
  have HR := Lib.hid hr
  obtain ⟨b, o, cap, rfl, h1, h2⟩ := hr
  clear h2
  go_enter Tryd.func26, Tryd.ntmps26
  go_wp2
  go_loopw [3, 4] (fun q i wr => ∃ (k : Nat) (s : ByteArray), k ≤ a.length ∧ i = .int .i64 k ∧ q = .string s ∧ Hid (s = ⟨(digitsOf (a.take k)).toArray⟩) ∧ s.size ≤ k ∧ Below w.heap.size w wr) (fun _ i _ => a.length - (intOf i).toNat)
  case atStart => exact ⟨0, _, Nat.zero_le _, rfl, rfl, Lib.hid rfl, Nat.zero_le _, Below.refl _ _⟩
  case round =>
    obtain ⟨k, s, hk, rfl, rfl, HS, hs, hB⟩ := hrel
    by_cases hlt : k < a.length
    · obtain ⟨b', o', cap', he, h1', h2'⟩ := HR.out.below hB
      have he' := he
      simp at he'
      obtain ⟨⟨e1, e2⟩, e3⟩ := he'
      subst e1 e2 e3
      have hc := h2' k hlt
      have h9 := ha k
      have HT := fun w => spec_dec (gn a k) (by omega) w
      have HN : Hid (s ++ ⟨#[dg (gn a k)]⟩ = ⟨(digitsOf (a.take (k + 1))).toArray⟩) := Lib.hid (by
        rw [digits_take a k hlt, ← app_of, ← HS.out])
      have hz : (s ++ (⟨#[dg (gn a k)]⟩ : ByteArray)).size ≤ k + 1 := by rw [ByteArray.size_append]; show s.size + 1 ≤ _; omega
      clear ha h2' he
      go_wp2_with (go_at_call 40; refine (HT _).mono ?_; rintro e w1 ⟨rfl, hb⟩)
      go_roundw
      case rel => exact ⟨k + 1, _, by omega, by go_num, rfl, HN, hz, hB.trans (hb.mono hB.size)⟩
      case measure => simp [intOf]; omega
    · have : k = a.length := by omega
      subst this
      clear ha
      go_wp2_with fail
      go_ret
      exact ⟨s, Lib.hid (by rw [HS.out]; simp), hs, rfl, hB⟩
end Go.Proofs.YtbpemgpbmabnbaaDoor.tm
