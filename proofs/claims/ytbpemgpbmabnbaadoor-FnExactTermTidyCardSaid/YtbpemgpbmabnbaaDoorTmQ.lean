/- The model reads as the plain reader does. -/
import Derived.Test.YtbpemgpbmabnbaaDoorTmM
import Derived.Test.YtbpemgpbmabnbaaDoorTmN
import Derived.Test.YtbpemgpbmabnbaaDoorTmO
import Derived.Test.YtbpemgpbmabnbaaDoorTmP
namespace Go.Proofs.YtbpemgpbmabnbaaDoor.tm
open Go.ChangeShapes Go.WideShapes Go.ChangeAt Go.RowKit Go.Tm
set_option linter.unusedVariables false
set_option linter.unusedSimpArgs false
set_option maxRecDepth 10000

theorem at_drop {S : ByteArray} {k : Nat} {l : List UInt8} (h : S.data.toList.drop k = l) (hk : k ≤ S.size) : S.size = k + l.length := by
  have : (S.data.toList.drop k).length = S.size - k := by rw [List.length_drop]; rfl
  rw [h] at this; omega
theorem idx_drop {S : ByteArray} {k : Nat} {l : List UInt8} (h : S.data.toList.drop k = l) (j : Nat) (hj : j < l.length) (h' : k + j < S.size) : S[k + j]'h' = l[j] := by
  subst h
  rw [List.getElem_drop]
  rfl
theorem idx_zero {S : ByteArray} {k : Nat} {c : UInt8} {l : List UInt8} (h : S.data.toList.drop k = c :: l) (h' : k < S.size) : S[k]'h' = c := idx_drop h 0 (by simp) h'
theorem drop_next {S : ByteArray} {k : Nat} {c : UInt8} {l : List UInt8} (h : S.data.toList.drop k = c :: l) (m : Nat) : S.data.toList.drop (k + 1 + m) = l.drop m := by
  rw [show k + 1 + m = k + (1 + m) by omega, ← List.drop_drop, h]
  rw [Nat.add_comm 1 m]; rfl
def SRQ (w : World) (z : Nat) (r : Option (Tm × List UInt8)) (e : Ending) (w' : World) : Prop := match r with
  | none => SNo w e w'
  | some (t, r) => SYes w t (z - r.length) e w'
theorem srq_some (w : World) (z : Nat) (t : Tm) (r : List UInt8) : SRQ w z (some (t, r)) = SYes w t (z - r.length) := rfl
theorem srq_none (w : World) (z : Nat) : SRQ w z none = SNo w := rfl
def SReadOk (n : Nat) : Prop := ∀ (S : ByteArray) (k : Nat) (l : List UInt8) (w : World), S.data.toList.drop k = l → k ≤ S.size → S.size ≤ 40 → l.length < n → Calls Tryd.prog 23 #[.string S, .int .i64 k] w (SRQ w S.size (rd n l))
theorem isL_ne {c : UInt8} (h : isL c = true) : c ≠ 45 ∧ c ≠ 40 := by
  constructor <;> (rintro rfl; revert h; decide)
theorem drop_while : ∀ l : List UInt8, l.dropWhile isD = l.drop (l.takeWhile isD).length
  | [] => rfl
  | c :: l => by
    by_cases h : isD c = true
    · rw [List.dropWhile_cons_of_pos h, List.takeWhile_cons_of_pos h]; exact drop_while l
    · rw [List.dropWhile_cons_of_neg h, List.takeWhile_cons_of_neg h]; rfl
theorem rest_suffix : ∀ (n : Nat) (l : List UInt8) (t : Tm) (r : List UInt8), rd n l = some (t, r) → ∃ m, r = l.drop m
  | 0, l, t, r, h => by cases h
  | n + 1, [], t, r, h => by cases h
  | n + 1, c :: l, t, r, h => by
    unfold rd at h
    split at h
    · cases h1 : rd n l with
      | none => rw [h1] at h; cases h
      | some x =>
        rw [h1] at h
        simp only [Option.map_some, Option.some.injEq, Prod.mk.injEq] at h
        obtain ⟨rfl, rfl⟩ := h
        obtain ⟨m, hm⟩ := rest_suffix n l x.1 x.2 h1
        exact ⟨m + 1, by rw [hm]; rfl⟩
    · split at h
      · cases h1 : rd n l with
        | none => rw [h1] at h; cases h
        | some x =>
          obtain ⟨a, m⟩ := x
          rw [h1] at h
          cases m with
          | nil => cases h
          | cons s m =>
            simp only at h
            cases h2 : rd n m with
            | none => rw [h2] at h; cases h
            | some y =>
              obtain ⟨b, q⟩ := y
              rw [h2] at h
              cases q with
              | nil => cases h
              | cons e q =>
                obtain ⟨m1, g1⟩ := rest_suffix n l _ _ h1
                obtain ⟨m2, g2⟩ := rest_suffix n m _ _ h2
                have key : ∃ m, q = (c :: l).drop m := ⟨m1 + 1 + m2 + 1 + 1, by
                  have e1 : m = l.drop (m1 + 1) := by rw [← List.drop_drop, ← g1]; rfl
                  have e2 : q = m.drop (m2 + 1) := by rw [← List.drop_drop, ← g2]; rfl
                  rw [e2, e1, List.drop_drop]
                  show _ = l.drop (m1 + 1 + m2 + 1)
                  congr 1⟩
                simp only at h
                split at h
                · split at h
                  · split at h
                    · cases h; exact key
                    · cases h
                  · split at h
                    · split at h
                      · cases h; exact key
                      · cases h
                    · cases h
                · cases h
      · split at h
        · split at h
          · cases h
            refine ⟨(l.takeWhile isD).length + 1, ?_⟩
            show _ = l.drop _
            exact drop_while l
          · cases h
        · cases h

theorem letter_is (c : UInt8) (b : Bool) (h : isL c = b) : ∀ w, Calls Tryd.prog 33 #[.int .u8 c.toNat] w fun e w' => e = .returned (.bool b) ∧ w = w' := fun w => by rw [← h]; exact letter c w
theorem first_rest : ∀ (l : List UInt8) (y : UInt8) (r : List UInt8), l.dropWhile isD = y :: r → isD y = false
  | [], y, r, h => by cases h
  | c :: l, y, r, h => by
    by_cases hc : isD c = true
    · rw [List.dropWhile_cons_of_pos hc] at h; exact first_rest l y r h
    · rw [List.dropWhile_cons_of_neg hc] at h
      cases h; simpa using hc
theorem srd_letter (S : ByteArray) (k : Nat) (c : UInt8) (l : List UInt8) (w : World) (hd : S.data.toList.drop k = c :: l) (hk : k ≤ S.size) (hS : S.size ≤ 40) (hc : isL c = true) :
    Calls Tryd.prog 23 #[.string S, .int .i64 k] w (SRQ w S.size (rdShare (c :: l))) := by
  have hz := at_drop hd hk
  have hi := idx_drop hd
  simp only [List.length_cons] at hz hi
  obtain ⟨d, hdd⟩ : ∃ d, d = l.takeWhile isD := ⟨_, rfl⟩
  obtain ⟨r, hr⟩ : ∃ r, r = l.dropWhile isD := ⟨_, rfl⟩
  have hl : l = d ++ r := by rw [hdd, hr, List.takeWhile_append_dropWhile]
  have hll : l.length = d.length + r.length := by rw [hl]; simp
  have hDG : ∀ c ∈ d, isD c = true := by rw [hdd]; intro c hc; exact mem_take_while l c hc
  have hG : ∀ j (hj : j < d.length) h, S[k + 1 + j]'h = d[j] := fun j hj h => by
    have := hi (1 + j) (by omega) (by omega)
    have e : k + (1 + j) = k + 1 + j := by omega
    simp only [e] at this
    rw [this]
    have : (c :: l)[1 + j]'(by simp; omega) = l[j]'(by omega) := by simp [Nat.add_comm 1 j]
    rw [this]
    simp only [hl]
    rw [List.getElem_append_left]
  have hq : rdShare (c :: l) = if isShare (d.map dec) then some (.leaf c (d.map dec), r) else none := by simp [rdShare, hc, ← hdd, ← hr]
  have h0 : (S.size : Int) ≤ 40 := by omega
  have h1 : (k : Int) < S.size := by omega
  have h2 : ∀ h, S[k]'h = c := fun h => idx_zero hd h
  have h3 := letter_is c true hc
  have h4 : (k : Int) + 1 + d.length ≤ S.size := by omega
  cases hr2 : r with
  | nil =>
    rw [hr2] at hll hq
    have hE : (S.size : Int) = (k : Int) + 1 + d.length := by simp at hll; omega
    cases hA : isShare (d.map dec) with
    | true =>
      rw [hq, hA, if_pos rfl]
      have := sread_leaf0_yes w S k h0 c d _ rfl h1 h2 h3 hG hDG h4 hE hA
      rw [srq_some]
      rw [show S.size - ([] : List UInt8).length = k + 1 + d.length by simp; omega]
      exact this
    | false => rw [hq, hA]; exact sread_leaf0_no w S k h0 c d _ rfl h1 h2 h3 hG hDG h4 hE hA
  | cons y r' =>
    have hy := first_rest l y r' (by rw [← hr, hr2])
    rw [hr2] at hll hq
    simp only [List.length_cons] at hll
    have hin : (k : Int) + 1 + d.length < S.size := by omega
    have hyi : ∀ h, S[k + 1 + d.length]'h = y := fun h => by
      have := hi (1 + d.length) (by omega) (by omega)
      have e : k + (1 + d.length) = k + 1 + d.length := by omega
      simp only [e] at this
      rw [this]
      have : (c :: l)[1 + d.length]'(by simp; omega) = l[d.length]'(by omega) := by simp [Nat.add_comm 1 d.length]
      rw [this]
      simp only [hl, hr2]
      rw [List.getElem_append_right (Nat.le_refl _)]
      simp
    have hyn : (y.toNat : Int) < 48 ∨ 57 < (y.toNat : Int) := by
      simp only [isD, Bool.and_eq_false_iff, decide_eq_false_iff_not] at hy
      omega
    rcases hyn with hyn | hyn
    · cases hA : isShare (d.map dec) with
      | true =>
        rw [hq, hA, if_pos rfl]
        have := sread_leaf1_yes w S k h0 c d _ rfl h1 h2 h3 hG hDG h4 y hin hyi hyn hA
        rw [srq_some]
        rw [show S.size - (y :: r').length = k + 1 + d.length by simp only [List.length_cons]; omega]
        exact this
      | false => rw [hq, hA]; exact sread_leaf1_no w S k h0 c d _ rfl h1 h2 h3 hG hDG h4 y hin hyi hyn hA
    · cases hA : isShare (d.map dec) with
      | true =>
        rw [hq, hA, if_pos rfl]
        have := sread_leaf2_yes w S k h0 c d _ rfl h1 h2 h3 hG hDG h4 y hin hyi hyn hA
        rw [srq_some]
        rw [show S.size - (y :: r').length = k + 1 + d.length by simp only [List.length_cons]; omega]
        exact this
      | false => rw [hq, hA]; exact sread_leaf2_no w S k h0 c d _ rfl h1 h2 h3 hG hDG h4 y hin hyi hyn hA

theorem toNat_ne' {c k : UInt8} (h : ¬ c = k) : ¬ (c.toNat : Int) = ((k.toNat : Nat) : Int) := fun e => h (UInt8.toNat_inj.1 (by omega))
theorem srd_no {n : Nat} (hR : SReadOk n) {S : ByteArray} {k : Nat} {l : List UInt8} (hd : S.data.toList.drop (k + 1) = l) (hk : k + 1 ≤ S.size) (hS : S.size ≤ 40) (hl : l.length < n) (h : rd n l = none) (w : World) :
    Calls Tryd.prog 23 #[.string S, .int .i64 ((k : Int) + 1)] w (SNo w) := by
  have := hR S (k + 1) l w hd hk hS hl
  rw [h, srq_none] at this
  exact this
theorem srd_yes {n : Nat} (hR : SReadOk n) {S : ByteArray} {k : Nat} {l r : List UInt8} {t : Tm} (hd : S.data.toList.drop (k + 1) = l) (hk : k + 1 ≤ S.size) (hS : S.size ≤ 40) (hl : l.length < n) (h : rd n l = some (t, r)) (w : World) :
    Calls Tryd.prog 23 #[.string S, .int .i64 ((k : Int) + 1)] w (SYes w t (S.size - r.length)) := by
  have := hR S (k + 1) l w hd hk hS hl
  rw [h, srq_some] at this
  exact this
theorem drop_rest {n : Nat} {S : ByteArray} {k : Nat} {l r : List UInt8} {t : Tm} (hd : S.data.toList.drop k = l) (hk : k ≤ S.size) (h : rd n l = some (t, r)) : S.data.toList.drop (S.size - r.length) = r ∧ r.length < l.length ∧ S.size = k + l.length := by
  have hz := at_drop hd hk
  obtain ⟨m, hm⟩ := rest_suffix n l t r h
  have hlt := (rd_len n l t r h).1
  have hrl : r.length = l.length - m := by rw [hm, List.length_drop]
  refine ⟨?_, hlt, hz⟩
  rw [show S.size - r.length = k + (l.length - r.length) by omega, ← List.drop_drop, hd]
  by_cases hml : m ≤ l.length
  · rw [show l.length - r.length = m by omega, ← hm]
  · rw [show l.length - r.length = l.length by omega, List.drop_length, hm, List.drop_eq_nil_of_le (by omega)]
theorem srd_ok : ∀ n, SReadOk n
  | 0 => fun S k l w _ _ _ h => absurd h (by omega)
  | n + 1 => by
    have ih := srd_ok n
    intro S k l w hd hk hS hn
    have hz := at_drop hd hk
    have h0 : (S.size : Int) ≤ 40 := by omega
    cases l with
    | nil => 
      simp only [List.length_nil] at hz
      exact sread_end w S k h0 (by omega) (by omega)
    | cons c l =>
      simp only [List.length_cons] at hz hn
      have h1 : (k : Int) < S.size := by omega
      have h2 : ∀ h, S[k]'h = c := fun h => idx_zero hd h
      have hd1 : S.data.toList.drop (k + 1) = l := drop_next hd 0
      by_cases hL : isL c = true
      · obtain ⟨q1, q2⟩ := isL_ne hL
        have hq : rd (n + 1) (c :: l) = rdShare (c :: l) := by unfold rd rdShare; rw [if_neg q1, if_neg q2]
        rw [hq]
        exact srd_letter S k c l w hd hk hS hL
      · have hL' : isL c = false := by simpa using hL
        have h3 := letter_is c false hL'
        by_cases hc : c = 45
        · subst hc
          cases e : rd n l with
          | none =>
            rw [show rd (n + 1) (45 :: l) = none by unfold rd; simp [e], srq_none]
            exact sread_neg_no w S k h0 h1 h2 h3 fun w => srd_no ih hd1 (by omega) hS (by omega) e w
          | some x =>
            obtain ⟨t, r⟩ := x
            rw [show rd (n + 1) (45 :: l) = some (.neg t, r) by unfold rd; simp [e], srq_some]
            exact sread_neg w S k h0 t _ h1 h2 h3 fun w => srd_yes ih hd1 (by omega) hS (by omega) e w
        · by_cases hc2 : c = 40
          · subst hc2
            have hq : rd (n + 1) (40 :: l) = rdTwo n l := rfl
            rw [hq]
            cases e : rd n l with
            | none =>
              rw [show rdTwo n l = none by simp [rdTwo, e], srq_none]
              exact sbno1 w S k h0 h1 h2 h3 fun w => srd_no ih hd1 (by omega) hS (by omega) e w
            | some x =>
              obtain ⟨a, q⟩ := x
              have g1 := drop_rest hd1 (by omega) e
              have ha6 := (rd_len n l a q e).2
              have c1 := fun w => srd_yes ih hd1 (by omega) hS (by omega) e w
              cases q with
              | nil =>
                rw [show rdTwo n l = none by simp [rdTwo, e], srq_none]
                simp only [List.length_nil, Nat.sub_zero] at c1
                exact sbend1 w S k h0 h1 h2 h3 a S.size (by omega) (by rw [beq_eq_false_iff_ne]; omega) (by omega) c1 (by omega)
              | cons x m =>
                obtain ⟨M, hM⟩ : ∃ M, M = S.size - (x :: m).length := ⟨_, rfl⟩
                rw [← hM] at c1 g1
                simp only [List.length_cons] at hM g1
                have hM0 : (0 : Int) < M := by omega
                have hMb : ((M : Int) == 0) = false := by simp; omega
                have hM1 : (M : Int) ≤ 40 := by omega
                have hMS : (M : Int) < S.size := by omega
                have hx : ∀ h, S[M]'h = x := fun h => idx_zero g1.1 h
                have hd2 : S.data.toList.drop (M + 1) = m := drop_next g1.1 0
                have common : ∀ (v : UInt8) (hv : x = v), (rd n m = none → (∀ w, Calls Tryd.prog 23 #[.string S, .int .i64 ((M : Int) + 1)] w (SNo w))) := fun v hv e2 w => srd_no ih hd2 (by omega) hS (by omega) e2 w
                by_cases hp : x = 43
                · subst hp
                  cases e2 : rd n m with
                  | none =>
                    rw [show rdTwo n l = none by simp [rdTwo, e, e2], srq_none]
                    exact sbpno2 w S k h0 h1 h2 h3 a M hM0 hMb hM1 c1 43 hMS hx (common 43 rfl e2)
                  | some y =>
                    obtain ⟨b, q⟩ := y
                    have g2 := drop_rest hd2 (by omega) e2
                    have hb6 := (rd_len n m b q e2).2
                    have c2 := fun w => srd_yes ih hd2 (by omega) hS (by omega) e2 w
                    cases q with
                    | nil =>
                      rw [show rdTwo n l = none by simp [rdTwo, e, e2], srq_none]
                      simp only [List.length_nil, Nat.sub_zero] at c2
                      exact sbpend2 w S k h0 h1 h2 h3 a M hM0 hMb hM1 c1 43 hMS hx b S.size (by omega) (by rw [beq_eq_false_iff_ne]; omega) (by omega) c2 (by omega)
                    | cons y r =>
                      obtain ⟨N, hN⟩ : ∃ N, N = S.size - (y :: r).length := ⟨_, rfl⟩
                      rw [← hN] at c2 g2
                      simp only [List.length_cons] at hN g2
                      have hN0 : (0 : Int) < N := by omega
                      have hNb : ((N : Int) == 0) = false := by simp; omega
                      have hN1 : (N : Int) ≤ 40 := by omega
                      have hNS : (N : Int) < S.size := by omega
                      have hy : ∀ h, S[N]'h = y := fun h => idx_zero g2.1 h
                      by_cases hy41 : y = 41
                      · subst hy41
                        by_cases hdg : a.deg = b.deg
                        · rw [show rdTwo n l = some (.two true a b, r) by simp [rdTwo, e, e2, hdg], srq_some]
                          rw [show S.size - r.length = N + 1 by omega]
                          exact sbpyes w S k h0 h1 h2 h3 a M hM0 hMb hM1 c1 43 hMS hx b N hN0 hNb hN1 c2 hNS hy ha6 hb6 (by simp; omega)
                        · rw [show rdTwo n l = none by simp [rdTwo, e, e2, hdg], srq_none]
                          exact sbpdeg w S k h0 h1 h2 h3 a M hM0 hMb hM1 c1 43 hMS hx b N hN0 hNb hN1 c2 hNS hy ha6 hb6 (by simp; omega)
                      · rw [show rdTwo n l = none by simp [rdTwo, e, e2, hy41], srq_none]
                        exact sbpclose w S k h0 h1 h2 h3 a M hM0 hMb hM1 c1 43 hMS hx b N hN0 hNb hN1 c2 y hNS hy (by have := toNat_ne' hy41; simpa using this)
                · by_cases ht : x = 42
                  · subst ht
                    cases e2 : rd n m with
                    | none =>
                      rw [show rdTwo n l = none by simp [rdTwo, e, e2], srq_none]
                      exact sbtno2 w S k h0 h1 h2 h3 a M hM0 hMb hM1 c1 42 hMS hx (common 42 rfl e2)
                    | some y =>
                      obtain ⟨b, q⟩ := y
                      have g2 := drop_rest hd2 (by omega) e2
                      have hb6 := (rd_len n m b q e2).2
                      have c2 := fun w => srd_yes ih hd2 (by omega) hS (by omega) e2 w
                      cases q with
                      | nil =>
                        rw [show rdTwo n l = none by simp [rdTwo, e, e2], srq_none]
                        simp only [List.length_nil, Nat.sub_zero] at c2
                        exact sbtend2 w S k h0 h1 h2 h3 a M hM0 hMb hM1 c1 42 hMS hx b S.size (by omega) (by rw [beq_eq_false_iff_ne]; omega) (by omega) c2 (by omega)
                      | cons y r =>
                        obtain ⟨N, hN⟩ : ∃ N, N = S.size - (y :: r).length := ⟨_, rfl⟩
                        rw [← hN] at c2 g2
                        simp only [List.length_cons] at hN g2
                        have hN0 : (0 : Int) < N := by omega
                        have hNb : ((N : Int) == 0) = false := by simp; omega
                        have hN1 : (N : Int) ≤ 40 := by omega
                        have hNS : (N : Int) < S.size := by omega
                        have hy : ∀ h, S[N]'h = y := fun h => idx_zero g2.1 h
                        by_cases hy41 : y = 41
                        · subst hy41
                          by_cases hdg : a.deg + b.deg ≤ 6
                          · rw [show rdTwo n l = some (.two false a b, r) by simp [rdTwo, e, e2, hdg], srq_some]
                            rw [show S.size - r.length = N + 1 by omega]
                            exact sbtyes w S k h0 h1 h2 h3 a M hM0 hMb hM1 c1 42 hMS hx b N hN0 hNb hN1 c2 hNS hy ha6 hb6 (by omega)
                          · rw [show rdTwo n l = none by simp [rdTwo, e, e2, hdg], srq_none]
                            exact sbtdeg w S k h0 h1 h2 h3 a M hM0 hMb hM1 c1 42 hMS hx b N hN0 hNb hN1 c2 hNS hy ha6 hb6 (by omega)
                        · rw [show rdTwo n l = none by simp [rdTwo, e, e2, hy41], srq_none]
                          exact sbtclose w S k h0 h1 h2 h3 a M hM0 hMb hM1 c1 42 hMS hx b N hN0 hNb hN1 c2 y hNS hy (by have := toNat_ne' hy41; simpa using this)
                  · have : rdTwo n l = none := by
                      simp only [rdTwo, e]
                      cases rd n m with
                      | none => rfl
                      | some y =>
                        obtain ⟨b, q⟩ := y
                        cases q with
                        | nil => rfl
                        | cons y r => simp [hp, ht]
                    rw [this, srq_none]
                    exact sbsign w S k h0 h1 h2 h3 a M hM0 hMb hM1 c1 x hMS hx (by have := toNat_ne' hp; simpa using this) (by have := toNat_ne' ht; simpa using this)
          · rw [show rd (n + 1) (c :: l) = none by unfold rd; rw [if_neg hc, if_neg hc2]; simp [hL'], srq_none]
            exact sread_other w S k h0 c h1 h2 h3 (toNat_ne' hc) (toNat_ne' hc2)
end Go.Proofs.YtbpemgpbmabnbaaDoor.tm
