/- The program's TermTidy. -/
import Derived.Test.YtbpemgpbmabnbaaDoorTmW
namespace Go.Proofs.YtbpemgpbmabnbaaDoor.tm
open Go.ChangeShapes Go.WideShapes Go.ChangeAt Go.RowKit Go.Tm
set_option linter.unusedVariables false
set_option linter.unusedSimpArgs false
set_option maxRecDepth 10000
set_option maxHeartbeats 1000000

theorem whole_good {l : List UInt8} {t : Tm} (h : whole l = some t) : GoodT t ∧ (txt t).length ≤ 40 := by
  unfold whole at h
  split at h
  · cases h
  · rename_i h40
    cases e : rd (l.length + 1) l with
    | none => rw [e] at h; cases h
    | some x =>
      obtain ⟨t', r⟩ := x
      rw [e] at h
      cases r with
      | nil =>
        cases h
        have := rd_good _ l _ _ e
        refine ⟨this.1, ?_⟩
        have := this.2
        simp at this; omega
      | cons c r => cases h
/-- what TermTidy comes to -/
def TidQ (l : List UInt8) (w : World) (e : Ending) (w' : World) : Prop := match whole l with
  | some t => ∃ T, Hid (T = ⟨(txt (tidy t)).toArray⟩) ∧ e = .returned (.tuple #[.string T, .bool true]) ∧ Below w.heap.size w w'
  | none => e = .returned (.tuple #[.string ⟨#[]⟩, .bool false]) ∧ Below w.heap.size w w'
theorem itidy_no (w : World) (S : ByteArray) (hc : Calls Tryd.prog 17 #[.string S] w (NoT w)) : Calls Tryd.prog 13 #[.string S] w fun e w' => e = .returned (.tuple #[.string ⟨#[]⟩, .bool false]) ∧ Below w.heap.size w w' := by
  go_enter Tryd.func13, Tryd.ntmps13
  go_wp2_with (go_at_call 17; (with_reducible refine hc.mono ?_); rintro e w1 ⟨rfl, hb⟩)
  go_ret2
  exact ⟨rfl, hb⟩
theorem itidy_yes (w : World) (S : ByteArray) (t : Tm) (hg : GoodT t) (hl : (txt t).length ≤ 40) (hc : Calls Tryd.prog 17 #[.string S] w (YesT w t)) : Calls Tryd.prog 13 #[.string S] w fun e w' => ∃ T, Hid (T = ⟨(txt (tidy t)).toArray⟩) ∧ e = .returned (.tuple #[.string T, .bool true]) ∧ Below w.heap.size w w' := by
  have hm1 := text_method (tidy t)
  have he1 := text_enters (tidy t)
  have hn1 := text_ahead (tidy t)
  have HT := text_ok (tidy t) (tidy_good hg) (Nat.le_trans (tidy_len t) hl)
  have HL := Lib.hid hl
  clear hl
  go_enter Tryd.func13, Tryd.ntmps13
  go_wp2_with (first | (go_at_call 17; (with_reducible refine hc.mono ?_); rintro e w1 ⟨x, rfl, hx, hb⟩; have HX := Lib.hid hx; clear hx) | (go_at_call 19; refine (tidy_ok t _ _ HX.out).mono ?_; rintro e w2 ⟨x2, rfl, hx2, hb2⟩; have HX2 := Lib.hid hx2; clear hx2) | (go_at_fn (ftext (tidy t)); refine (HT _ _ HX2.out).mono ?_; rintro e w3 ⟨T, HTT, hTs, rfl, hb3⟩))
  go_ret2
  exact ⟨_, HTT, rfl, hb.trans ((hb2.trans (hb3.mono hb2.size)).mono hb.size)⟩
theorem impl_tidy (l : List UInt8) (w : World) (hl : l.length ≤ maxLen) (hg : Laid w) : Calls Tryd.prog 13 #[.string ⟨l.toArray⟩] w (TidQ l w) := by
  have h := term_of l w hl hg
  unfold TidQ
  cases e : whole l with
  | none => rw [e] at h; exact itidy_no w _ h
  | some t => rw [e] at h; exact itidy_yes w _ t (whole_good e).1 (whole_good e).2 h.2
end Go.Proofs.YtbpemgpbmabnbaaDoor.tm
