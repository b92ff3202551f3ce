/- The model tidies terms. -/
import Derived.Test.YtbpemgpbmabnbaaDoorTmY
import Derived.Test.YtbpemgpbmabnbaaDoorTmR
import Derived.Test.YtbpemgpbmabnbaaDoorTmX
import Derived.Test.YtbpemgpbmabnbaaDoorTmZz
namespace Go.Proofs.YtbpemgpbmabnbaaDoor.tm
open Go.ChangeShapes Go.WideShapes Go.ChangeAt Go.RowKit Go.Tm
set_option linter.unusedVariables false
set_option linter.unusedSimpArgs false
set_option maxRecDepth 10000
set_option maxHeartbeats 2000000


theorem stidy_neg_yes (t : Tm) (ih : STidy t) (r : List UInt8) (he : txt (tidy t) = 45 :: r) : STidy (.neg t) := by
  intro hg hl B w s hs
  obtain ⟨k, p, n, cp, d, q, m, cq⟩ := s
  obtain ⟨e1, e2, e3, b, o, u, e4, -, h4, h5⟩ := hs
  simp only at e1 e2 e3 e4
  subst e1 e3 e4
  clear e2
  have HC := ih_at ih hg (by simp [txt] at hl; omega) h5
  have HF := Lib.hid h4
  have hle := tidy_len (.neg t)
  have htx : txt (tidy (.neg t)) = r := (txt_tidyNeg (tidy t) (tidy_good (t := t) hg)).trans (by rw [he]; simp)
  have HX : Hid (∀ T : ByteArray, T = ⟨(txt (tidy t)).toArray⟩ → Hid (T.extract 1 T.size = ⟨(txt (tidy (.neg t))).toArray⟩)) := Lib.hid (fun T h => Lib.hid (by rw [h, ext_of, htx, he, size_is rfl]; simp))
  have HXs : ∀ T : ByteArray, T = ⟨(txt (tidy t)).toArray⟩ → (T.extract 1 T.size).size ≤ 40 := fun T h => by rw [size_is ((HX.out T h).out)]; omega
  obtain ⟨f0, f1, f2, f3, f4⟩ := h4.below ((Below.refl _ _).alloc (Nat.le_refl _) (.cells #[.int .u8 45, .slice p n cp, .int .i64 (d : Nat), .slice (some ⟨b, o, none⟩) 1 cq] 33))
  obtain ⟨k', p', n', cp', d', q', m', cq'⟩ := u
  have HE := Lib.hid he
  clear ih he hl h5 hg h4 htx hle
  go_enter Tryd.func18, Tryd.ntmps18
  go_wp2_with (go_at_call 18; refine (HC _ (by repeat (first | with_reducible exact Below.refl _ _ | with_reducible refine below_alloc ?_ _ | with_reducible refine Below.drew ?_))).mono ?_; rintro e w1 ⟨T, HT, hTs, rfl, hb⟩; have B1 := Lib.hid (below_next (w := w) (by repeat (first | with_reducible exact Below.refl _ _ | with_reducible refine below_alloc ?_ _ | with_reducible refine Below.drew ?_)) hb); have hT0 := head_at (HT.out.trans (by rw [HE.out])); have hTp : 0 < T.size := by rw [size_is (HT.out.trans (by rw [HE.out]))]; exact Nat.succ_pos _)
  go_ret
  exact ⟨_, HX.out _ HT.out, HXs _ HT.out, rfl, B1.out⟩
theorem stidy_neg_no (t : Tm) (ih : STidy t) (c : UInt8) (r : List UInt8) (he : txt (tidy t) = c :: r) (hc : ¬ c = 45) : STidy (.neg t) := by
  intro hg hl B w s hs
  obtain ⟨k, p, n, cp, d, q, m, cq⟩ := s
  obtain ⟨e1, e2, e3, b, o, u, e4, -, h4, h5⟩ := hs
  simp only at e1 e2 e3 e4
  subst e1 e3 e4
  clear e2
  have HC := ih_at ih hg (by simp [txt] at hl; omega) h5
  have hle := tidy_len (.neg t)
  have htx : txt (tidy (.neg t)) = 45 :: txt (tidy t) := (txt_tidyNeg (tidy t) (tidy_good (t := t) hg)).trans (by rw [he, if_neg (by simpa using hc)])
  have HX : Hid (∀ T : ByteArray, T = ⟨(txt (tidy t)).toArray⟩ → Hid ((⟨#[45]⟩ ++ T : ByteArray) = ⟨(txt (tidy (.neg t))).toArray⟩)) := Lib.hid (fun T h => Lib.hid (by rw [h, app_of, htx]; rfl))
  have HXs : ∀ T : ByteArray, T = ⟨(txt (tidy t)).toArray⟩ → (⟨#[45]⟩ ++ T : ByteArray).size ≤ 40 := fun T h => by rw [size_is ((HX.out T h).out)]; omega
  have h45 : ¬ ((c.toNat : Int) = 45) := by
    have := toNat_ne' (c := c) (k := 45) hc
    simpa using this
  have b45 : ((c.toNat : Int) == 45) = false := by simpa using h45
  obtain ⟨f0, f1, f2, f3, f4⟩ := h4.below ((Below.refl _ _).alloc (Nat.le_refl _) (.cells #[.int .u8 45, .slice p n cp, .int .i64 (d : Nat), .slice (some ⟨b, o, none⟩) 1 cq] 33))
  obtain ⟨k', p', n', cp', d', q', m', cq'⟩ := u
  have HE := Lib.hid he
  clear ih he hl h5 hg h4 htx hle hc
  go_enter Tryd.func18, Tryd.ntmps18
  go_wp2_with (go_at_call 18; refine (HC _ (by repeat (first | with_reducible exact Below.refl _ _ | with_reducible refine below_alloc ?_ _ | with_reducible refine Below.drew ?_))).mono ?_; rintro e w1 ⟨T, HT, hTs, rfl, hb⟩; have B1 := Lib.hid (below_next (w := w) (by repeat (first | with_reducible exact Below.refl _ _ | with_reducible refine below_alloc ?_ _ | with_reducible refine Below.drew ?_)) hb); have hT0 := head_at (HT.out.trans (by rw [HE.out])); have hTp : 0 < T.size := by rw [size_is (HT.out.trans (by rw [HE.out]))]; exact Nat.succ_pos _)
  go_ret
  exact ⟨_, HX.out _ HT.out, HXs _ HT.out, rfl, B1.out⟩
theorem stidy_neg (t : Tm) (ih : STidy t) : STidy (.neg t) := by
  cases he : txt (tidy t) with
  | nil => exact absurd (txt_pos (tidy t)) (by rw [he]; decide)
  | cons c r =>
    by_cases hc : c = 45
    · subst hc; exact stidy_neg_yes t ih r he
    · exact stidy_neg_no t ih c r he hc
end Go.Proofs.YtbpemgpbmabnbaaDoor.tm
