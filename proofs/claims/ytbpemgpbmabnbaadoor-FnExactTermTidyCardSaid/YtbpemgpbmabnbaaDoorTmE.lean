/- Two terms in brackets are read. -/
import Derived.Test.YtbpemgpbmabnbaaDoorTmD
namespace Go.Proofs.YtbpemgpbmabnbaaDoor.tm
open Go.ChangeShapes Go.WideShapes Go.ChangeAt Go.RowKit Go.Tm
set_option linter.unusedVariables false
set_option linter.unusedSimpArgs false
set_option maxRecDepth 10000

theorem cut_hit (p : UInt8) (l : List UInt8) (w : World) : Calls Tryd.prog 44 #[.string ⟨(p :: l).toArray⟩, .string ⟨#[p]⟩] w fun e w' => e = .returned (.tuple #[.string ⟨l.toArray⟩, .bool true]) ∧ w = w' := by
  refine (Tryd.strings_CutPrefix ⟨(p :: l).toArray⟩ ⟨#[p]⟩ w).mono ?_
  rintro e w' ⟨rfl, rfl⟩
  refine ⟨?_, rfl⟩
  simp [Lib.trimPrefix, Lib.hasPrefix]
theorem cut_miss (p : UInt8) (l : List UInt8) (h : ∀ m, l ≠ p :: m) (w : World) : Calls Tryd.prog 44 #[.string ⟨l.toArray⟩, .string ⟨#[p]⟩] w fun e w' => e = .returned (.tuple #[.string ⟨l.toArray⟩, .bool false]) ∧ w = w' := by
  refine (Tryd.strings_CutPrefix ⟨l.toArray⟩ ⟨#[p]⟩ w).mono ?_
  rintro e w' ⟨rfl, rfl⟩
  refine ⟨?_, rfl⟩
  cases l with
  | nil => simp [Lib.trimPrefix, Lib.hasPrefix]
  | cons c l =>
    have : ¬ c = p := fun e => h l (by rw [e])
    have this' : ¬ p = c := fun e => this e.symm
    simp [Lib.trimPrefix, Lib.hasPrefix, List.isPrefixOf, this']
def ReadOk (n : Nat) : Prop := ∀ (l : List UInt8) (w : World), l.length < n → l.length ≤ 40 → Calls Tryd.prog 35 #[.string ⟨l.toArray⟩] w (ReadQ w (rd n l))
/-- nothing is read -/
def NoQ (w : World) (e : Ending) (w' : World) : Prop := ∃ v r' x, (v = .nilIface ∨ ∃ y, v = .iface 60 y) ∧ e = .returned (.tuple #[v, .string r', .iface 55 (.agg #[.string x])]) ∧ Below w.heap.size w w'
theorem read_none {w : World} {n : Nat} {l : List UInt8} (hR : ReadOk n) (h1 : l.length < n) (h2 : l.length ≤ 40) (h : rd n l = none) (S : ByteArray) (hS : S = ⟨l.toArray⟩) : Calls Tryd.prog 35 #[.string S] w (NoQ w) := by
  subst hS
  refine (hR l w h1 h2).mono ?_
  rw [h]
  rintro e w' ⟨hb, v, r', x, hv, he⟩
  exact ⟨v, r', x, hv, he, hb⟩
def YesQ (w : World) (t : Tm) (R : ByteArray) (e : Ending) (w' : World) : Prop := ∃ x, e = .returned (.tuple #[.iface (ty t) x, .string R, .nilIface]) ∧ Rep w' t x ∧ Below w.heap.size w w'
theorem read_yes {w : World} {n : Nat} {l r : List UInt8} {t : Tm} (hR : ReadOk n) (h1 : l.length < n) (h2 : l.length ≤ 40) (h : rd n l = some (t, r)) (S R : ByteArray) (hS : S = ⟨l.toArray⟩) (hr : R = ⟨r.toArray⟩) : Calls Tryd.prog 35 #[.string S] w (YesQ w t R) := by
  subst hS hr
  refine (hR l w h1 h2).mono ?_
  rw [h]
  rintro e w' ⟨hb, hf, x, he, hx⟩
  exact ⟨x, he, hx, hb⟩

theorem two_none (w : World) (S : ByteArray) (h1 : ∀ w, Calls Tryd.prog 35 #[.string S] w (NoQ w)) :
    Calls Tryd.prog 45 #[.string S] w (NoQ w) := by
  go_enter Tryd.func45, Tryd.ntmps45
  go_wp2_with (go_at_call 35; refine (h1 _).mono ?_; rintro e w1 ⟨v, r', x, hv, rfl, hb⟩)
  go_ret3
  exact ⟨_, _, _, .inl rfl, rfl, hb⟩
theorem two_empty (w : World) (S : ByteArray) (a : Tm) (h1 : ∀ w, Calls Tryd.prog 35 #[.string S] w (YesQ w a ⟨#[]⟩)) :
    Calls Tryd.prog 45 #[.string S] w (NoQ w) := by
  go_enter Tryd.func45, Tryd.ntmps45
  go_wp2_with (go_at_call 35; refine (h1 _).mono ?_; rintro e w1 ⟨x, rfl, hx, hb⟩)
  go_ret3
  exact ⟨_, _, _, .inl rfl, rfl, hb⟩
theorem two_none2 (w : World) (S R : ByteArray) (a : Tm) (k : Nat) (hR : R.size = k + 1) (hk : k ≤ 40) (hne : R.toList.isEmpty = false) (h1 : ∀ w, Calls Tryd.prog 35 #[.string S] w (YesQ w a R))
    (h2 : ∀ w, Calls Tryd.prog 35 #[.string (R.extract 1 (k + 1))] w (NoQ w)) :
    Calls Tryd.prog 45 #[.string S] w (NoQ w) := by
  go_enter Tryd.func45, Tryd.ntmps45
  go_wp2_with (first | (go_at_call 35; (with_reducible refine (h1 _).mono ?_); rintro e w1 ⟨x, rfl, hx, hb⟩) | (go_at_call 35; (with_reducible refine (h2 _).mono ?_); rintro e w2 ⟨v, r', x', hv, rfl, hb2⟩))
  go_ret3
  exact ⟨_, _, _, .inl rfl, rfl, hb.trans (hb2.mono hb.size)⟩
theorem two_open (w : World) (S R R2 R3 : ByteArray) (a b : Tm) (k : Nat) (sg : UInt8) (hR : R.size = k + 1) (hk : k ≤ 40) (hne : R.toList.isEmpty = false) (hsg : ∀ h, R[0]'h = sg) (h1 : ∀ w, Calls Tryd.prog 35 #[.string S] w (YesQ w a R))
    (h2 : ∀ w, Calls Tryd.prog 35 #[.string (R.extract 1 (k + 1))] w (YesQ w b R2)) (h3 : ∀ w, Calls Tryd.prog 44 #[.string R2, .string ⟨#[41]⟩] w fun e w' => e = .returned (.tuple #[.string R3, .bool false]) ∧ w = w') :
    Calls Tryd.prog 45 #[.string S] w (NoQ w) := by
  go_enter Tryd.func45, Tryd.ntmps45
  go_wp2_with (first | (go_at_call 35; (with_reducible refine (h1 _).mono ?_); rintro e w1 ⟨x, rfl, hx, hb⟩; have HX := Lib.hid hx; clear hx) | (go_at_call 35; (with_reducible refine (h2 _).mono ?_); rintro e w2 ⟨x2, rfl, hx2, hb2⟩; have HX2 := Lib.hid hx2; clear hx2) | (go_at_call 44; (with_reducible refine (h3 _).mono ?_); rintro e w' ⟨rfl, rfl⟩))
  go_ret3
  exact ⟨_, _, _, .inl rfl, rfl, hb.trans (hb2.mono hb.size)⟩
theorem two_sign (w : World) (S R R2 R3 : ByteArray) (a b : Tm) (k : Nat) (sg : UInt8) (hR : R.size = k + 1) (hk : k ≤ 40) (hne : R.toList.isEmpty = false) (hsg : ∀ h, R[0]'h = sg) (h1 : ∀ w, Calls Tryd.prog 35 #[.string S] w (YesQ w a R))
    (h2 : ∀ w, Calls Tryd.prog 35 #[.string (R.extract 1 (k + 1))] w (YesQ w b R2)) (h3 : ∀ w, Calls Tryd.prog 44 #[.string R2, .string ⟨#[41]⟩] w fun e w' => e = .returned (.tuple #[.string R3, .bool true]) ∧ w = w') (hp : ¬ (sg.toNat : Int) = 43) (hq : ¬ (sg.toNat : Int) = 42) :
    Calls Tryd.prog 45 #[.string S] w (NoQ w) := by
  go_enter Tryd.func45, Tryd.ntmps45
  go_wp2_with (first | (go_at_call 35; (with_reducible refine (h1 _).mono ?_); rintro e w1 ⟨x, rfl, hx, hb⟩; have HX := Lib.hid hx; clear hx) | (go_at_call 35; (with_reducible refine (h2 _).mono ?_); rintro e w2 ⟨x2, rfl, hx2, hb2⟩; have HX2 := Lib.hid hx2; clear hx2) | (go_at_call 44; (with_reducible refine (h3 _).mono ?_); rintro e w' ⟨rfl, rfl⟩))
  go_ret3
  exact ⟨_, _, _, .inl rfl, rfl, hb.trans (hb2.mono hb.size)⟩
set_option maxHeartbeats 1000000 in
theorem two_plus (w : World) (S R R2 R3 : ByteArray) (a b : Tm) (fa : Fine a) (fb : Fine b) (k : Nat) (hR : R.size = k + 1) (hk : k ≤ 40) (hne : R.toList.isEmpty = false) (hsg : ∀ h, R[0]'h = 43) (h1 : ∀ w, Calls Tryd.prog 35 #[.string S] w (YesQ w a R))
    (h2 : ∀ w, Calls Tryd.prog 35 #[.string (R.extract 1 (k + 1))] w (YesQ w b R2)) (h3 : ∀ w, Calls Tryd.prog 44 #[.string R2, .string ⟨#[41]⟩] w fun e w' => e = .returned (.tuple #[.string R3, .bool true]) ∧ w = w') (hd : ((a.deg : Nat) : Int) = ((b.deg : Nat) : Int)) :
    Calls Tryd.prog 45 #[.string S] w (YesQ w (.two true a b) R3) := by
  have hm1 := deg_method a
  have he1 := deg_enters a
  have hn1 := deg_ahead a
  have hm2 := deg_method b
  have he2 := deg_enters b
  have hn2 := deg_ahead b
  have ha6 := fa.deg
  have hb6 := fb.deg
  go_enter Tryd.func45, Tryd.ntmps45
  go_wp2_with (first | (go_at_call 35; (with_reducible refine (h1 _).mono ?_); rintro e w1 ⟨x, rfl, hx, hb⟩; have HX := Lib.hid hx; clear hx) | (go_at_call 35; (with_reducible refine (h2 _).mono ?_); rintro e w2 ⟨x2, rfl, hx2, hb2⟩; have HX2 := Lib.hid hx2; clear hx2) | (go_at_call 44; (with_reducible refine (h3 _).mono ?_); rintro e w' ⟨rfl, rfl⟩) | (go_at_fn (fdeg a); refine (degree_ok a fa _ _ (HX.out.below hb2)).mono ?_; rintro e w3 ⟨rfl, hb3⟩) | (go_at_fn (fdeg b); refine (degree_ok b fb _ _ (HX2.out.below hb3)).mono ?_; rintro e w4 ⟨rfl, hb4⟩))
  go_ret3
  refine ⟨_, rfl, ⟨_, _, rfl, HX.out.below ?_, HX2.out.below ?_⟩, ?_⟩
  · exact hb2.trans ((hb3.trans (hb4.mono hb3.size)).mono hb2.size)
  · exact hb3.trans (hb4.mono hb3.size)
  · exact hb.trans ((hb2.trans ((hb3.trans (hb4.mono hb3.size)).mono hb2.size)).mono hb.size)
set_option maxHeartbeats 1000000 in
theorem two_plus_no (w : World) (S R R2 R3 : ByteArray) (a b : Tm) (fa : Fine a) (fb : Fine b) (k : Nat) (hR : R.size = k + 1) (hk : k ≤ 40) (hne : R.toList.isEmpty = false) (hsg : ∀ h, R[0]'h = 43) (h1 : ∀ w, Calls Tryd.prog 35 #[.string S] w (YesQ w a R))
    (h2 : ∀ w, Calls Tryd.prog 35 #[.string (R.extract 1 (k + 1))] w (YesQ w b R2)) (h3 : ∀ w, Calls Tryd.prog 44 #[.string R2, .string ⟨#[41]⟩] w fun e w' => e = .returned (.tuple #[.string R3, .bool true]) ∧ w = w') (hd : ¬ ((a.deg : Nat) : Int) = ((b.deg : Nat) : Int)) :
    Calls Tryd.prog 45 #[.string S] w (NoQ w) := by
  have hm1 := deg_method a
  have he1 := deg_enters a
  have hn1 := deg_ahead a
  have hm2 := deg_method b
  have he2 := deg_enters b
  have hn2 := deg_ahead b
  have ha6 := fa.deg
  have hb6 := fb.deg
  go_enter Tryd.func45, Tryd.ntmps45
  go_wp2_with (first | (go_at_call 35; (with_reducible refine (h1 _).mono ?_); rintro e w1 ⟨x, rfl, hx, hb⟩; have HX := Lib.hid hx; clear hx) | (go_at_call 35; (with_reducible refine (h2 _).mono ?_); rintro e w2 ⟨x2, rfl, hx2, hb2⟩; have HX2 := Lib.hid hx2; clear hx2) | (go_at_call 44; (with_reducible refine (h3 _).mono ?_); rintro e w' ⟨rfl, rfl⟩) | (go_at_fn (fdeg a); refine (degree_ok a fa _ _ (HX.out.below hb2)).mono ?_; rintro e w3 ⟨rfl, hb3⟩) | (go_at_fn (fdeg b); refine (degree_ok b fb _ _ (HX2.out.below hb3)).mono ?_; rintro e w4 ⟨rfl, hb4⟩))
  go_ret3
  exact ⟨_, _, _, .inl rfl, rfl, hb.trans ((hb2.trans ((hb3.trans (hb4.mono hb3.size)).mono hb2.size)).mono hb.size)⟩
set_option maxHeartbeats 1000000 in
theorem two_times (w : World) (S R R2 R3 : ByteArray) (a b : Tm) (fa : Fine a) (fb : Fine b) (k : Nat) (hR : R.size = k + 1) (hk : k ≤ 40) (hne : R.toList.isEmpty = false) (hsg : ∀ h, R[0]'h = 42) (h1 : ∀ w, Calls Tryd.prog 35 #[.string S] w (YesQ w a R))
    (h2 : ∀ w, Calls Tryd.prog 35 #[.string (R.extract 1 (k + 1))] w (YesQ w b R2)) (h3 : ∀ w, Calls Tryd.prog 44 #[.string R2, .string ⟨#[41]⟩] w fun e w' => e = .returned (.tuple #[.string R3, .bool true]) ∧ w = w') (hd : ((a.deg : Nat) : Int) + ((b.deg : Nat) : Int) ≤ 6) :
    Calls Tryd.prog 45 #[.string S] w (YesQ w (.two false a b) R3) := by
  have hm1 := deg_method a
  have he1 := deg_enters a
  have hn1 := deg_ahead a
  have hm2 := deg_method b
  have he2 := deg_enters b
  have hn2 := deg_ahead b
  have ha6 := fa.deg
  have hb6 := fb.deg
  go_enter Tryd.func45, Tryd.ntmps45
  go_wp2_with (first | (go_at_call 35; (with_reducible refine (h1 _).mono ?_); rintro e w1 ⟨x, rfl, hx, hb⟩; have HX := Lib.hid hx; clear hx) | (go_at_call 35; (with_reducible refine (h2 _).mono ?_); rintro e w2 ⟨x2, rfl, hx2, hb2⟩; have HX2 := Lib.hid hx2; clear hx2) | (go_at_call 44; (with_reducible refine (h3 _).mono ?_); rintro e w' ⟨rfl, rfl⟩) | (go_at_fn (fdeg a); refine (degree_ok a fa _ _ (HX.out.below hb2)).mono ?_; rintro e w3 ⟨rfl, hb3⟩) | (go_at_fn (fdeg b); refine (degree_ok b fb _ _ (HX2.out.below hb3)).mono ?_; rintro e w4 ⟨rfl, hb4⟩))
  go_ret3
  refine ⟨_, rfl, ⟨_, _, rfl, HX.out.below ?_, HX2.out.below ?_⟩, ?_⟩
  · exact hb2.trans ((hb3.trans (hb4.mono hb3.size)).mono hb2.size)
  · exact hb3.trans (hb4.mono hb3.size)
  · exact hb.trans ((hb2.trans ((hb3.trans (hb4.mono hb3.size)).mono hb2.size)).mono hb.size)
set_option maxHeartbeats 1000000 in
theorem two_times_no (w : World) (S R R2 R3 : ByteArray) (a b : Tm) (fa : Fine a) (fb : Fine b) (k : Nat) (hR : R.size = k + 1) (hk : k ≤ 40) (hne : R.toList.isEmpty = false) (hsg : ∀ h, R[0]'h = 42) (h1 : ∀ w, Calls Tryd.prog 35 #[.string S] w (YesQ w a R))
    (h2 : ∀ w, Calls Tryd.prog 35 #[.string (R.extract 1 (k + 1))] w (YesQ w b R2)) (h3 : ∀ w, Calls Tryd.prog 44 #[.string R2, .string ⟨#[41]⟩] w fun e w' => e = .returned (.tuple #[.string R3, .bool true]) ∧ w = w') (hd : ¬ ((a.deg : Nat) : Int) + ((b.deg : Nat) : Int) ≤ 6) :
    Calls Tryd.prog 45 #[.string S] w (NoQ w) := by
  have hm1 := deg_method a
  have he1 := deg_enters a
  have hn1 := deg_ahead a
  have hm2 := deg_method b
  have he2 := deg_enters b
  have hn2 := deg_ahead b
  have ha6 := fa.deg
  have hb6 := fb.deg
  go_enter Tryd.func45, Tryd.ntmps45
  go_wp2_with (first | (go_at_call 35; (with_reducible refine (h1 _).mono ?_); rintro e w1 ⟨x, rfl, hx, hb⟩; have HX := Lib.hid hx; clear hx) | (go_at_call 35; (with_reducible refine (h2 _).mono ?_); rintro e w2 ⟨x2, rfl, hx2, hb2⟩; have HX2 := Lib.hid hx2; clear hx2) | (go_at_call 44; (with_reducible refine (h3 _).mono ?_); rintro e w' ⟨rfl, rfl⟩) | (go_at_fn (fdeg a); refine (degree_ok a fa _ _ (HX.out.below hb2)).mono ?_; rintro e w3 ⟨rfl, hb3⟩) | (go_at_fn (fdeg b); refine (degree_ok b fb _ _ (HX2.out.below hb3)).mono ?_; rintro e w4 ⟨rfl, hb4⟩))
  go_ret3
  exact ⟨_, _, _, .inl rfl, rfl, hb.trans ((hb2.trans ((hb3.trans (hb4.mono hb3.size)).mono hb2.size)).mono hb.size)⟩
end Go.Proofs.YtbpemgpbmabnbaaDoor.tm
