/- A term is read. -/
import Derived.Test.YtbpemgpbmabnbaaDoorTmE
namespace Go.Proofs.YtbpemgpbmabnbaaDoor.tm
open Go.ChangeShapes Go.WideShapes Go.ChangeAt Go.RowKit Go.Tm
set_option linter.unusedVariables false
set_option linter.unusedSimpArgs false
set_option maxRecDepth 10000

theorem NoQ.read {w w' : World} {e : Ending} (h : NoQ w e w') : ReadQ w none e w' := by
  obtain ⟨v, r', x, hv, he, hb⟩ := h
  exact ⟨hb, v, r', x, hv, he⟩
theorem YesQ.read {w w' : World} {e : Ending} {t : Tm} {r : List UInt8} {R : ByteArray} (hR : R = ⟨r.toArray⟩) (hf : Fine t) (h : YesQ w t R e w') : ReadQ w (some (t, r)) e w' := by
  obtain ⟨x, he, hx, hb⟩ := h
  subst hR
  exact ⟨hb, hf, x, he, hx⟩
theorem ReadQ.no {w w' : World} {e : Ending} (h : ReadQ w none e w') : NoQ w e w' := by
  obtain ⟨hb, v, r', x, hv, he⟩ := h
  exact ⟨v, r', x, hv, he, hb⟩
theorem ReadQ.yes {w w' : World} {e : Ending} {t : Tm} {r : List UInt8} {R : ByteArray} (hR : R = ⟨r.toArray⟩) (h : ReadQ w (some (t, r)) e w') : YesQ w t R e w' := by
  obtain ⟨hb, hf, x, he, hx⟩ := h
  subst hR
  exact ⟨x, he, hx, hb⟩
theorem cons_ne (c : UInt8) (l : List UInt8) (R : ByteArray) (h : R = ⟨(c :: l).toArray⟩) : R.toList.isEmpty = false ∧ R.size = l.length + 1 ∧ (∀ g, R[0]'g = c) ∧ R.extract 1 (l.length + 1) = ⟨l.toArray⟩ := by
  subst h
  exact ⟨by rw [ByteArray.toList_eq]; rfl, rfl, fun g => rfl, by rw [ext_of]; simp⟩
theorem toNat_ne {c : UInt8} {k : UInt8} (h : ¬ c = k) : ¬ (c.toNat : Int) = ((k.toNat : Nat) : Int) := fun e => h (UInt8.toNat_inj.1 (by omega))
theorem two_ok (n : Nat) (hR : ReadOk n) (l : List UInt8) (w : World) (h1 : l.length < n) (h2 : l.length ≤ 40) :
    Calls Tryd.prog 45 #[.string ⟨l.toArray⟩] w (ReadQ w (rdTwo n l)) := by
  cases e1 : rd n l with
  | none =>
    rw [show rdTwo n l = none by simp [rdTwo, e1]]
    exact (two_none w _ fun w => read_none hR h1 h2 e1 _ rfl).mono fun _ _ h => h.read
  | some x =>
    obtain ⟨a, m⟩ := x
    have fa := rd_fine n l a m e1
    cases m with
    | nil =>
      rw [show rdTwo n l = none by simp [rdTwo, e1]]
      exact (two_empty w _ a fun w => read_yes hR h1 h2 e1 _ _ rfl rfl).mono fun _ _ h => h.read
    | cons s m =>
      have hm := (rd_len n l a _ e1).1
      simp only [List.length_cons] at hm
      obtain ⟨q1, q2, q3, q4⟩ := cons_ne s m _ rfl
      have c1 := fun w => read_yes (w := w) hR h1 h2 e1 _ _ rfl rfl
      cases e2 : rd n m with
      | none =>
        rw [show rdTwo n l = none by simp [rdTwo, e1, e2]]
        exact (two_none2 w _ _ a m.length q2 (by omega) q1 c1 fun w => by rw [q4]; exact read_none hR (by omega) (by omega) e2 _ rfl).mono fun _ _ h => h.read
      | some y =>
        obtain ⟨b, q⟩ := y
        have fb := rd_fine n m b q e2
        have c2 := fun w => read_yes (w := w) hR (by omega) (by omega) e2 (ByteArray.extract ⟨(s :: m).toArray⟩ 1 (m.length + 1)) _ q4 rfl
        cases q with
        | nil =>
          rw [show rdTwo n l = none by simp [rdTwo, e1, e2]]
          exact (two_open w _ _ _ ⟨#[]⟩ a b m.length s q2 (by omega) q1 q3 c1 c2 fun w => cut_miss 41 [] (by simp) w).mono fun _ _ h => h.read
        | cons e r =>
          by_cases he : e = 41
          · subst he
            have c3 := fun w => cut_hit 41 r w
            by_cases hs : s = 43
            · subst hs
              by_cases hd : a.deg = b.deg
              · rw [show rdTwo n l = some (.two true a b, r) by simp [rdTwo, e1, e2, hd]]
                exact (two_plus w _ _ _ _ a b fa fb m.length q2 (by omega) q1 q3 c1 c2 c3 (by omega)).mono fun _ _ h => h.read rfl ⟨fa, fb, fa.deg⟩
              · rw [show rdTwo n l = none by simp [rdTwo, e1, e2, hd]]
                exact (two_plus_no w _ _ _ _ a b fa fb m.length q2 (by omega) q1 q3 c1 c2 c3 (by omega)).mono fun _ _ h => h.read
            · by_cases hs2 : s = 42
              · subst hs2
                by_cases hd : a.deg + b.deg ≤ 6
                · rw [show rdTwo n l = some (.two false a b, r) by simp [rdTwo, e1, e2, hd]]
                  exact (two_times w _ _ _ _ a b fa fb m.length q2 (by omega) q1 q3 c1 c2 c3 (by omega)).mono fun _ _ h => h.read rfl ⟨fa, fb, hd⟩
                · rw [show rdTwo n l = none by simp [rdTwo, e1, e2, hd]]
                  exact (two_times_no w _ _ _ _ a b fa fb m.length q2 (by omega) q1 q3 c1 c2 c3 (by omega)).mono fun _ _ h => h.read
              · rw [show rdTwo n l = none by simp [rdTwo, e1, e2, hs, hs2]]
                exact (two_sign w _ _ _ _ a b m.length s q2 (by omega) q1 q3 c1 c2 c3 (toNat_ne hs) (toNat_ne hs2)).mono fun _ _ h => h.read
          · rw [show rdTwo n l = none by simp [rdTwo, e1, e2, he]]
            exact (two_open w _ _ _ _ a b m.length s q2 (by omega) q1 q3 c1 c2 fun w => cut_miss 41 (e :: r) (by rintro _ ⟨⟩; exact he rfl) w).mono fun _ _ h => h.read

theorem term_neg_yes (w : World) (S S1 R : ByteArray) (t : Tm) (h1 : ∀ w, Calls Tryd.prog 44 #[.string S, .string ⟨#[45]⟩] w fun e w' => e = .returned (.tuple #[.string S1, .bool true]) ∧ w = w')
    (h2 : ∀ w, Calls Tryd.prog 35 #[.string S1] w (YesQ w t R)) : Calls Tryd.prog 35 #[.string S] w (YesQ w (.neg t) R) := by
  go_enter Tryd.func35, Tryd.ntmps35
  go_wp2_with (first | (go_at_call 44; (with_reducible refine (h1 _).mono ?_); rintro e w' ⟨rfl, rfl⟩) | (go_at_call 35; (with_reducible refine (h2 _).mono ?_); rintro e w1 ⟨x, rfl, hx, hb⟩; have HX := Lib.hid hx; clear hx))
  go_ret3
  exact ⟨_, rfl, ⟨_, rfl, HX.out⟩, hb⟩
theorem term_neg_no (w : World) (S S1 : ByteArray) (h1 : ∀ w, Calls Tryd.prog 44 #[.string S, .string ⟨#[45]⟩] w fun e w' => e = .returned (.tuple #[.string S1, .bool true]) ∧ w = w')
    (h2 : ∀ w, Calls Tryd.prog 35 #[.string S1] w (NoQ w)) : Calls Tryd.prog 35 #[.string S] w (NoQ w) := by
  go_enter Tryd.func35, Tryd.ntmps35
  go_wp2_with (first | (go_at_call 44; (with_reducible refine (h1 _).mono ?_); rintro e w' ⟨rfl, rfl⟩) | (go_at_call 35; (with_reducible refine (h2 _).mono ?_); rintro e w1 ⟨v, r', x, hv, rfl, hb⟩; rcases hv with rfl | ⟨y, rfl⟩))
  all_goals
    go_ret3
    exact ⟨_, _, _, .inr ⟨_, rfl⟩, rfl, hb⟩
theorem term_two_yes (w : World) (S S1 R : ByteArray) (t : Tm) (h1 : ∀ w, Calls Tryd.prog 44 #[.string S, .string ⟨#[45]⟩] w fun e w' => e = .returned (.tuple #[.string S, .bool false]) ∧ w = w') (h2 : ∀ w, Calls Tryd.prog 44 #[.string S, .string ⟨#[40]⟩] w fun e w' => e = .returned (.tuple #[.string S1, .bool true]) ∧ w = w')
    (hc : ∀ w, Calls Tryd.prog 45 #[.string S1] w (YesQ w t R)) : Calls Tryd.prog 35 #[.string S] w (YesQ w t R) := by
  go_enter Tryd.func35, Tryd.ntmps35
  go_wp2_with (first | (go_at_call 44; (with_reducible refine (h1 _).mono ?_); rintro e w' ⟨rfl, rfl⟩) | (go_at_call 44; (with_reducible refine (h2 _).mono ?_); rintro e w' ⟨rfl, rfl⟩) | (go_at_call 45; (with_reducible refine (hc _).mono ?_); rintro e w1 ⟨x, rfl, hx, hb⟩; have HX := Lib.hid hx; clear hx))
  go_ret3
  exact ⟨_, rfl, HX.out, hb⟩
theorem term_two_no (w : World) (S S1 R : ByteArray) (t : Tm) (h1 : ∀ w, Calls Tryd.prog 44 #[.string S, .string ⟨#[45]⟩] w fun e w' => e = .returned (.tuple #[.string S, .bool false]) ∧ w = w') (h2 : ∀ w, Calls Tryd.prog 44 #[.string S, .string ⟨#[40]⟩] w fun e w' => e = .returned (.tuple #[.string S1, .bool true]) ∧ w = w')
    (hc : ∀ w, Calls Tryd.prog 45 #[.string S1] w (NoQ w)) : Calls Tryd.prog 35 #[.string S] w (NoQ w) := by
  go_enter Tryd.func35, Tryd.ntmps35
  go_wp2_with (first | (go_at_call 44; (with_reducible refine (h1 _).mono ?_); rintro e w' ⟨rfl, rfl⟩) | (go_at_call 44; (with_reducible refine (h2 _).mono ?_); rintro e w' ⟨rfl, rfl⟩) | (go_at_call 45; (with_reducible refine (hc _).mono ?_); rintro e w1 ⟨v, r', x, hv, rfl, hb⟩; have HV := Lib.hid hv; clear hv))
  go_ret3
  exact ⟨_, _, _, HV.out, rfl, hb⟩
theorem term_share_yes (w : World) (S S1 R : ByteArray) (t : Tm) (h1 : ∀ w, Calls Tryd.prog 44 #[.string S, .string ⟨#[45]⟩] w fun e w' => e = .returned (.tuple #[.string S, .bool false]) ∧ w = w') (h2 : ∀ w, Calls Tryd.prog 44 #[.string S, .string ⟨#[40]⟩] w fun e w' => e = .returned (.tuple #[.string S1, .bool false]) ∧ w = w')
    (hc : ∀ w, Calls Tryd.prog 46 #[.string S] w (YesQ w t R)) : Calls Tryd.prog 35 #[.string S] w (YesQ w t R) := by
  go_enter Tryd.func35, Tryd.ntmps35
  go_wp2_with (first | (go_at_call 44; (with_reducible refine (h1 _).mono ?_); rintro e w' ⟨rfl, rfl⟩) | (go_at_call 44; (with_reducible refine (h2 _).mono ?_); rintro e w' ⟨rfl, rfl⟩) | (go_at_call 46; (with_reducible refine (hc _).mono ?_); rintro e w1 ⟨x, rfl, hx, hb⟩; have HX := Lib.hid hx; clear hx))
  go_ret3
  exact ⟨_, rfl, HX.out, hb⟩
theorem term_share_no (w : World) (S S1 R : ByteArray) (t : Tm) (h1 : ∀ w, Calls Tryd.prog 44 #[.string S, .string ⟨#[45]⟩] w fun e w' => e = .returned (.tuple #[.string S, .bool false]) ∧ w = w') (h2 : ∀ w, Calls Tryd.prog 44 #[.string S, .string ⟨#[40]⟩] w fun e w' => e = .returned (.tuple #[.string S1, .bool false]) ∧ w = w')
    (hc : ∀ w, Calls Tryd.prog 46 #[.string S] w (NoQ w)) : Calls Tryd.prog 35 #[.string S] w (NoQ w) := by
  go_enter Tryd.func35, Tryd.ntmps35
  go_wp2_with (first | (go_at_call 44; (with_reducible refine (h1 _).mono ?_); rintro e w' ⟨rfl, rfl⟩) | (go_at_call 44; (with_reducible refine (h2 _).mono ?_); rintro e w' ⟨rfl, rfl⟩) | (go_at_call 46; (with_reducible refine (hc _).mono ?_); rintro e w1 ⟨v, r', x, hv, rfl, hb⟩; have HV := Lib.hid hv; clear hv))
  go_ret3
  exact ⟨_, _, _, HV.out, rfl, hb⟩
theorem share_ok (l : List UInt8) (w : World) (h2 : l.length ≤ 40) (c1 : ∀ m, l ≠ 45 :: m) (c2 : ∀ m, l ≠ 40 :: m) : Calls Tryd.prog 35 #[.string ⟨l.toArray⟩] w (ReadQ w (rdShare l)) := by
  cases e : rdShare l with
  | none => exact (term_share_no w _ ⟨l.toArray⟩ ⟨#[]⟩ (.leaf 0 []) (fun w => cut_miss 45 l c1 w) (fun w => cut_miss 40 l c2 w) fun w => (read_share w l h2).mono fun _ _ h => by rw [e] at h; exact h.no).mono fun _ _ h => h.read
  | some x =>
    obtain ⟨t, r⟩ := x
    have hf : Fine t := by
      cases l with
      | nil => cases e
      | cons c l =>
        by_cases h1 : isL c = true
        · by_cases h3 : isShare ((l.takeWhile isD).map dec) = true
          · simp only [rdShare, h1, h3, if_true, Option.some.injEq, Prod.mk.injEq] at e
            rw [← e.1]; exact ⟨h3, isShare_len h3⟩
          · simp [rdShare, h1, h3] at e
        · simp [rdShare, h1] at e
    exact (term_share_yes w _ ⟨l.toArray⟩ _ t (fun w => cut_miss 45 l c1 w) (fun w => cut_miss 40 l c2 w) fun w => (read_share w l h2).mono fun _ _ h => by rw [e] at h; exact h.yes rfl).mono fun _ _ h => h.read rfl hf
theorem read_ok : ∀ n, ReadOk n
  | 0 => fun l w h1 _ => absurd h1 (by omega)
  | n + 1 => by
    have ih := read_ok n
    intro l w h1 h2
    cases l with
    | nil => exact share_ok [] w h2 (by simp) (by simp)
    | cons c l =>
      simp only [List.length_cons] at h1 h2
      by_cases hc : c = 45
      · subst hc
        unfold rd
        simp only [if_true]
        cases e : rd n l with
        | none => exact (term_neg_no w _ _ (fun w => cut_hit 45 l w) fun w => read_none ih (by omega) (by omega) e _ rfl).mono fun _ _ h => h.read
        | some x =>
          obtain ⟨t, r⟩ := x
          exact (term_neg_yes w _ _ _ t (fun w => cut_hit 45 l w) fun w => read_yes ih (by omega) (by omega) e _ _ rfl rfl).mono fun _ _ h => h.read rfl (rd_fine n l t r e)
      · by_cases hc2 : c = 40
        · subst hc2
          have hq : rd (n + 1) (40 :: l) = rdTwo n l := rfl
          rw [hq]
          have hm : ∀ m, (40 : UInt8) :: l ≠ 45 :: m := by rintro _ ⟨⟩
          cases e : rdTwo n l with
          | none => exact (term_two_no w _ _ ⟨#[]⟩ (.leaf 0 []) (fun w => cut_miss 45 (40 :: l) hm w) (fun w => cut_hit 40 l w) fun w => (two_ok n ih l w (by omega) (by omega)).mono fun _ _ h => by rw [e] at h; exact h.no).mono fun _ _ h => h.read
          | some x =>
            obtain ⟨t, r⟩ := x
            exact (term_two_yes w _ _ _ t (fun w => cut_miss 45 (40 :: l) hm w) (fun w => cut_hit 40 l w) fun w => (two_ok n ih l w (by omega) (by omega)).mono fun _ _ h => by rw [e] at h; exact h.yes rfl).mono fun _ _ h => h.read rfl (rd_fine (n + 1) (40 :: l) t r (hq.trans e))
        · have hq : rd (n + 1) (c :: l) = rdShare (c :: l) := by
            unfold rd rdShare
            rw [if_neg hc, if_neg hc2]
          rw [hq]
          exact share_ok (c :: l) w (by simp; omega) (by rintro _ ⟨⟩; exact hc rfl) (by rintro _ ⟨⟩; exact hc2 rfl)
end Go.Proofs.YtbpemgpbmabnbaaDoor.tm
