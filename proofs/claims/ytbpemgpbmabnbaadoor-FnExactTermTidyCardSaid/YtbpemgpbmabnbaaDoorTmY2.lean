/- The law on tidied terms. -/
import Derived.Test.YtbpemgpbmabnbaaDoorTmI
import Derived.Test.YtbpemgpbmabnbaaDoorTmX
import Derived.Test.YtbpemgpbmabnbaaDoorTmZb
namespace Go.Proofs.YtbpemgpbmabnbaaDoor.tm
open Go.ChangeShapes Go.WideShapes Go.ChangeAt Go.RowKit Go.Tm
set_option linter.unusedVariables false
set_option linter.unusedSimpArgs false
set_option maxRecDepth 10000
theorem stid_no (w : World) (S : ByteArray) (hc : Calls Tryd.prog 16 #[.string S] w (ONo w)) : Calls Tryd.prog 12 #[.string S] w fun e w' => e = .returned (.tuple #[.string ⟨#[]⟩, .bool false]) ∧ Below w.heap.size w w' := by
  go_enter Tryd.func12, Tryd.ntmps12
  go_wp2_with (go_at_call 16; (with_reducible refine hc.mono ?_); rintro e w1 ⟨s, rfl, hb⟩)
  go_ret2
  exact ⟨rfl, below_alloc hb _⟩
theorem stid_yes (w : World) (S : ByteArray) (t : Tm) (hg : GoodT t) (hl : (txt t).length ≤ 40) (hc : Calls Tryd.prog 16 #[.string S] w (OYes w t)) : Calls Tryd.prog 12 #[.string S] w fun e w' => ∃ T, Hid (T = ⟨(txt (tidy t)).toArray⟩) ∧ e = .returned (.tuple #[.string T, .bool true]) ∧ Below w.heap.size w w' := by
  have HI := fun B w s => stidy_ok t hg hl B w s
  have HL := Lib.hid hl
  clear hl hg
  go_enter Tryd.func12, Tryd.ntmps12
  go_wp2_with (first | (go_at_call 16; (with_reducible refine hc.mono ?_); rintro e w1 ⟨⟨uk, up, un, uc, ud, uq, um, ucq⟩, rfl, hx, hb⟩; have HC := fun W (hW : Below w1.heap.size w1 W) => HI _ W _ (hx.below hW); clear hx) | (go_at_call 18; refine (HC _ ((Below.refl _ _).alloc (Nat.le_refl _) _)).mono ?_; rintro e w2 ⟨T, HT, hTs, rfl, hb2⟩))
  go_ret2
  exact ⟨_, HT, rfl, (below_alloc hb _).trans (hb2.mono (below_alloc hb _).size)⟩
/-- the text that is written -/
def tidT (l : List UInt8) : ByteArray := match whole l with
  | some t => ⟨(txt (tidy t)).toArray⟩
  | none => ⟨#[]⟩
def tidV (l : List UInt8) : Value := .tuple #[.string (tidT l), .bool (whole l).isSome]
theorem tid_some {l : List UInt8} {t : Tm} (e : whole l = some t) : tidV l = .tuple #[.string ⟨(txt (tidy t)).toArray⟩, .bool true] := by simp [tidV, tidT, e]
theorem tid_none {l : List UInt8} (e : whole l = none) : tidV l = .tuple #[.string ⟨#[]⟩, .bool false] := by simp [tidV, tidT, e]
theorem spec_tidy (l : List UInt8) (w : World) (hl : l.length ≤ maxLen) : Calls Tryd.prog 12 #[.string ⟨l.toArray⟩] w fun e w' => e = .returned (tidV l) ∧ Below w.heap.size w w' := by
  have h := spec_of l w hl
  cases e : whole l with
  | none =>
    rw [e] at h; rw [tid_none e]; exact stid_no w _ h
  | some t =>
    rw [e] at h; rw [tid_some e]
    refine (stid_yes w _ t (whole_good e).1 (whole_good e).2 h).mono ?_
    rintro e' w' ⟨T, HT, rfl, hb⟩
    exact ⟨by rw [HT.out], hb⟩
theorem impl_tidy2 (l : List UInt8) (w : World) (hl : l.length ≤ maxLen) (hg : Laid w) : Calls Tryd.prog 13 #[.string ⟨l.toArray⟩] w fun e w' => e = .returned (tidV l) ∧ Below w.heap.size w w' := by
  have h := impl_tidy l w hl hg
  unfold TidQ at h
  cases e : whole l with
  | none =>
    rw [tid_none e]
    refine h.mono ?_
    intro e' w' hq
    rw [e] at hq
    exact hq
  | some t =>
    rw [tid_some e]
    refine h.mono ?_
    intro e' w' hq
    rw [e] at hq
    obtain ⟨T, HT, rfl, hb⟩ := hq
    exact ⟨by rw [HT.out], hb⟩
theorem law_tidy (l : List UInt8) (w : World) (hl : l.length ≤ maxLen) (hg : Laid w) : Calls Tryd.prog 5 #[.string ⟨l.toArray⟩] w fun e w' => e = .returned (.bool true) ∧ Below w.heap.size w w' := by
  obtain ⟨S, hS⟩ : ∃ S : ByteArray, S = ⟨l.toArray⟩ := ⟨_, rfl⟩
  have h1 := spec_tidy l
  have h2 := impl_tidy2 l
  have hz : (S.size : Int) ≤ 9223372036854775807 := by rw [hS]; unfold maxLen at hl; show ((l.length : Nat) : Int) ≤ _; omega
  rw [← hS] at h1 h2 ⊢
  obtain ⟨T, b, hb⟩ : ∃ (T : ByteArray) (b : Bool), tidV l = .tuple #[.string T, .bool b] := ⟨_, _, rfl⟩
  rw [hb] at h1 h2
  have HG := Lib.hid hg
  clear hS hb hg
  by_cases hbig : (1048576 : Int) < S.size
  · go_enter Tryd.func5, Tryd.ntmps5
    go_wp2_with fail
    go_ret
    exact ⟨rfl, Below.refl _ _⟩
  · go_enter Tryd.func5, Tryd.ntmps5
    go_wp2_with (first | (go_at_call 12; (with_reducible refine (h1 _ hl).mono ?_); rintro e w1 ⟨rfl, hb1⟩) | (go_at_call 13; (with_reducible refine (h2 _ hl (HG.out.below hb1)).mono ?_); rintro e w2 ⟨rfl, hb2⟩))
    go_ret
    exact ⟨rfl, hb1.trans (hb2.mono hb1.size)⟩
end Go.Proofs.YtbpemgpbmabnbaaDoor.tm
