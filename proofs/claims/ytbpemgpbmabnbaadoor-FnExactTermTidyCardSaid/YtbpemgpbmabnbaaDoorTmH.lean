/- A whole text is read; the program's TermIn and TermDegree. -/
import Derived.Test.YtbpemgpbmabnbaaDoorTmG
namespace Go.Proofs.YtbpemgpbmabnbaaDoor.tm
open Go.ChangeShapes Go.WideShapes Go.ChangeAt Go.RowKit Go.Tm
set_option linter.unusedVariables false
set_option linter.unusedSimpArgs false
set_option maxRecDepth 10000

def NoAll (w : World) (e : Ending) (w' : World) : Prop := ∃ v x, (v = .nilIface ∨ ∃ y, v = .iface 60 y) ∧ e = .returned (.tuple #[v, .iface 55 (.agg #[.string x])]) ∧ Below w.heap.size w w'
def YesAll (w : World) (t : Tm) (e : Ending) (w' : World) : Prop := ∃ x, e = .returned (.tuple #[.iface (ty t) x, .nilIface]) ∧ Rep w' t x ∧ Below w.heap.size w w'
theorem all_long (w : World) (S : ByteArray) (hs : (S.size : Int) ≤ maxLen) (h : (40 : Int) < S.size) : Calls Tryd.prog 24 #[.string S] w (NoAll w) := by
  unfold maxLen at hs
  go_enter Tryd.func24, Tryd.ntmps24
  go_wp2_with fail
  go_ret2
  exact ⟨_, _, .inl rfl, rfl, Below.refl _ _⟩
theorem all_yes (w : World) (S : ByteArray) (t : Tm) (h : (S.size : Int) ≤ 40) (hc : ∀ w, Calls Tryd.prog 35 #[.string S] w (YesQ w t ⟨#[]⟩)) : Calls Tryd.prog 24 #[.string S] w (YesAll w t) := by
  go_enter Tryd.func24, Tryd.ntmps24
  go_wp2_with (go_at_call 35; (with_reducible refine (hc _).mono ?_); rintro e w1 ⟨x, rfl, hx, hb⟩; have HX := Lib.hid hx; clear hx)
  go_ret2
  exact ⟨_, rfl, HX.out, hb⟩
theorem all_rest (w : World) (S R : ByteArray) (t : Tm) (h : (S.size : Int) ≤ 40) (hR : R.toList.isEmpty = false) (hc : ∀ w, Calls Tryd.prog 35 #[.string S] w (YesQ w t R)) : Calls Tryd.prog 24 #[.string S] w (NoAll w) := by
  go_enter Tryd.func24, Tryd.ntmps24
  go_wp2_with (go_at_call 35; (with_reducible refine (hc _).mono ?_); rintro e w1 ⟨x, rfl, hx, hb⟩; have HX := Lib.hid hx; clear hx)
  go_ret2
  exact ⟨_, _, .inl rfl, rfl, hb⟩
theorem all_no (w : World) (S : ByteArray) (h : (S.size : Int) ≤ 40) (hc : ∀ w, Calls Tryd.prog 35 #[.string S] w (NoQ w)) : Calls Tryd.prog 24 #[.string S] w (NoAll w) := by
  go_enter Tryd.func24, Tryd.ntmps24
  go_wp2_with (go_at_call 35; (with_reducible refine (hc _).mono ?_); rintro e w1 ⟨v, r', x, hv, rfl, hb⟩; have HV := Lib.hid hv; clear hv)
  go_ret2
  exact ⟨_, _, HV.out, rfl, hb⟩
theorem all_ok (l : List UInt8) (w : World) (hl : l.length ≤ maxLen) : (∃ t, whole l = some t ∧ Fine t ∧ Calls Tryd.prog 24 #[.string ⟨l.toArray⟩] w (YesAll w t)) ∨ (whole l = none ∧ Calls Tryd.prog 24 #[.string ⟨l.toArray⟩] w (NoAll w)) := by
  by_cases h : 40 < l.length
  · exact .inr ⟨by simp [whole, h], all_long w _ (by show ((l.length : Nat) : Int) ≤ _; omega) (by show (40 : Int) < ((l.length : Nat) : Int); omega)⟩
  · have hs : (((⟨l.toArray⟩ : ByteArray).size : Nat) : Int) ≤ 40 := by show ((l.length : Nat) : Int) ≤ 40; omega
    have hR := read_ok (l.length + 1)
    cases e : rd (l.length + 1) l with
    | none => exact .inr ⟨by simp [whole, h, e], all_no w _ hs fun w => read_none hR (by omega) (by omega) e _ rfl⟩
    | some x =>
      obtain ⟨t, r⟩ := x
      cases r with
      | nil => exact .inl ⟨t, by simp [whole, h, e], rd_fine _ l t _ e, all_yes w _ t hs fun w => read_yes hR (by omega) (by omega) e _ _ rfl rfl⟩
      | cons c r => exact .inr ⟨by simp [whole, h, e], all_rest w _ _ t hs (cons_ne c r _ rfl).1 fun w => read_yes hR (by omega) (by omega) e _ _ rfl rfl⟩

/-- what the world must hold of the library's variable -/
def Laid (w : World) : Prop := w.cell? ⟨0, 0, none⟩ = some (.iface 96 (.agg #[.pointer (some ⟨7, 51, none⟩)]))
theorem Laid.lt {w : World} (h : Laid w) : 0 < w.heap.size := World.block_lt_of_cell? _ _ h
theorem Laid.below {w w' : World} (h : Laid w) (hb : Below w.heap.size w w') : Laid w' := by
  unfold Laid
  rw [hb.cell (p := ⟨0, 0, none⟩) h.lt]; exact h
theorem as_hit' (n : Nat) (e : ByteArray) (t : Addr) (old : Value) (w : World) (hg : Laid w) (ht0 : w.cell? t = some old) (hf0 : w.frozen? t = false) (hn : n ≤ t.block) (hm : n ≤ w.heap.size) :
    Calls Tryd.prog 25 #[.iface 55 (.agg #[.string e]), .iface 57 (.pointer (some t))] w fun ev w' => ev = .returned (.bool true) ∧ Below n w w' := by
  refine (as_hit e t old w hg ht0 hf0).mono ?_
  rintro ev w' ⟨rfl, rfl⟩
  refine ⟨rfl, Below.setCell ?_ hn _⟩
  exact ((((Below.refl _ _).alloc hm _).alloc (by simp; omega) _).alloc (by simp; omega) _).alloc (by simp; omega) _
def NoT (w : World) (e : Ending) (w' : World) : Prop := e = .returned (.tuple #[.nilIface, .bool false]) ∧ Below w.heap.size w w'
def YesT (w : World) (t : Tm) (e : Ending) (w' : World) : Prop := ∃ x, e = .returned (.tuple #[.iface (ty t) x, .bool true]) ∧ Rep w' t x ∧ Below w.heap.size w w'
theorem term_of_yes (w : World) (S : ByteArray) (t : Tm) (hc : ∀ w, Calls Tryd.prog 24 #[.string S] w (YesAll w t)) : Calls Tryd.prog 17 #[.string S] w (YesT w t) := by
  go_enter Tryd.func17, Tryd.ntmps17
  go_wp2_with (first | (go_at_call 24; (with_reducible refine (hc _).mono ?_); rintro e w1 ⟨x, rfl, hx, hb⟩; have HX := Lib.hid hx; clear hx) | (go_at_call 25; refine (as_nil _ _).mono ?_; rintro e w' ⟨rfl, rfl⟩))
  go_ret2
  refine ⟨_, rfl, HX.out.below ?_, ?_⟩
  · exact (Below.refl _ _).alloc (Nat.le_refl _) _
  · exact hb.alloc hb.size _
theorem term_of_no (w : World) (S : ByteArray) (hg : Laid w) (hc : ∀ w, Calls Tryd.prog 24 #[.string S] w (NoAll w)) : Calls Tryd.prog 17 #[.string S] w (NoT w) := by
  have HG := Lib.hid hg
  clear hg
  go_enter Tryd.func17, Tryd.ntmps17
  go_wp2_with (first | (go_at_call 24; (with_reducible refine (hc _).mono ?_); rintro e w1 ⟨v, x, hv, rfl, hb⟩; have HV := Lib.hid hv; clear hv) | (go_at_call 25; refine (as_hit' w.heap.size _ _ (.string ⟨#[]⟩) _ ?_ ?_ ?_ ?_ ?_).mono ?_; (exact (HG.out.below hb).below ((Below.refl _ _).alloc (Nat.le_refl _) _)); (simp); (simp); (exact hb.size); (simp; exact Nat.le_succ_of_le hb.size); rintro e w2 ⟨rfl, hb2⟩))
  go_ret2
  exact ⟨rfl, (hb.alloc hb.size _).trans hb2⟩
theorem term_of (l : List UInt8) (w : World) (hl : l.length ≤ maxLen) (hg : Laid w) : match whole l with
    | some t => Fine t ∧ Calls Tryd.prog 17 #[.string ⟨l.toArray⟩] w (YesT w t)
    | none => Calls Tryd.prog 17 #[.string ⟨l.toArray⟩] w (NoT w) := by
  cases e : whole l with
  | none =>
    refine term_of_no w _ hg fun w => ?_
    rcases all_ok l w hl with ⟨t, h, _⟩ | ⟨_, h⟩
    · rw [e] at h; cases h
    · exact h
  | some t =>
    have hf : Fine t := by
      rcases all_ok l w hl with ⟨t', h, hf, _⟩ | ⟨h, _⟩
      · rw [e] at h; cases h; exact hf
      · rw [e] at h; cases h
    refine ⟨hf, term_of_yes w _ t fun w => ?_⟩
    rcases all_ok l w hl with ⟨t', h, _, hc⟩ | ⟨h, _⟩
    · rw [e] at h; cases h; exact hc
    · rw [e] at h; cases h
end Go.Proofs.YtbpemgpbmabnbaaDoor.tm
