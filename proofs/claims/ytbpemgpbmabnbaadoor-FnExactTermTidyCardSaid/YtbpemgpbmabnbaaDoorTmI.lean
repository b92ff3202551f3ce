/- The program's TermIn and TermDegree. -/
import Derived.Test.YtbpemgpbmabnbaaDoorTmH
namespace Go.Proofs.YtbpemgpbmabnbaaDoor.tm
open Go.ChangeShapes Go.WideShapes Go.ChangeAt Go.RowKit Go.Tm
set_option linter.unusedVariables false
set_option linter.unusedSimpArgs false
set_option maxRecDepth 10000

theorem impl_in_yes (w : World) (S : ByteArray) (t : Tm) (hc : Calls Tryd.prog 17 #[.string S] w (YesT w t)) : Calls Tryd.prog 9 #[.string S] w fun e w' => e = .returned (.bool true) ∧ Below w.heap.size w w' := by
  go_enter Tryd.func9, Tryd.ntmps9
  go_wp2_with (go_at_call 17; (with_reducible refine hc.mono ?_); rintro e w1 ⟨x, rfl, hx, hb⟩; have HX := Lib.hid hx; clear hx)
  go_ret
  exact ⟨rfl, hb⟩
theorem impl_in_no (w : World) (S : ByteArray) (hc : Calls Tryd.prog 17 #[.string S] w (NoT w)) : Calls Tryd.prog 9 #[.string S] w fun e w' => e = .returned (.bool false) ∧ Below w.heap.size w w' := by
  go_enter Tryd.func9, Tryd.ntmps9
  go_wp2_with (go_at_call 17; (with_reducible refine hc.mono ?_); rintro e w1 ⟨rfl, hb⟩)
  go_ret
  exact ⟨rfl, hb⟩
theorem impl_in (l : List UInt8) (w : World) (hl : l.length ≤ maxLen) (hg : Laid w) : Calls Tryd.prog 9 #[.string ⟨l.toArray⟩] w fun e w' => e = .returned (.bool (whole l).isSome) ∧ Below w.heap.size w w' := by
  have h := term_of l w hl hg
  cases e : whole l with
  | none => rw [e] at h; exact impl_in_no w _ h
  | some t => rw [e] at h; exact impl_in_yes w _ t h.2
theorem degree_yes (w : World) (S : ByteArray) (t : Tm) (hf : Fine t) (hc : Calls Tryd.prog 17 #[.string S] w (YesT w t)) : Calls Tryd.prog 11 #[.string S] w fun e w' => e = .returned (.tuple #[.int .i64 (t.deg : Nat), .bool true]) ∧ Below w.heap.size w w' := by
  have hm1 := deg_method t
  have he1 := deg_enters t
  have hn1 := deg_ahead t
  go_enter Tryd.func11, Tryd.ntmps11
  go_wp2_with (first | (go_at_call 17; (with_reducible refine hc.mono ?_); rintro e w1 ⟨x, rfl, hx, hb⟩; have HX := Lib.hid hx; clear hx) | (go_at_fn (fdeg t); refine (degree_ok t hf _ _ HX.out).mono ?_; rintro e w2 ⟨rfl, hb2⟩))
  go_ret2
  exact ⟨rfl, hb.trans (hb2.mono hb.size)⟩
theorem degree_no (w : World) (S : ByteArray) (hc : Calls Tryd.prog 17 #[.string S] w (NoT w)) : Calls Tryd.prog 11 #[.string S] w fun e w' => e = .returned (.tuple #[.int .i64 0, .bool false]) ∧ Below w.heap.size w w' := by
  go_enter Tryd.func11, Tryd.ntmps11
  go_wp2_with (go_at_call 17; (with_reducible refine hc.mono ?_); rintro e w1 ⟨rfl, hb⟩)
  go_ret2
  exact ⟨rfl, hb⟩
theorem impl_degree (l : List UInt8) (w : World) (hl : l.length ≤ maxLen) (hg : Laid w) : Calls Tryd.prog 11 #[.string ⟨l.toArray⟩] w fun e w' => e = .returned (degV l) ∧ Below w.heap.size w w' := by
  have h := term_of l w hl hg
  unfold degV
  cases e : whole l with
  | none => rw [e] at h; exact degree_no w _ h
  | some t => rw [e] at h; exact degree_yes w _ t h.1 h.2
end Go.Proofs.YtbpemgpbmabnbaaDoor.tm
