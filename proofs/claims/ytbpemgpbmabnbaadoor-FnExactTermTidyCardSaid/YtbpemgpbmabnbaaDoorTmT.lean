/- Tidy terms and their texts: plain mathematics. -/
import Derived.Test.YtbpemgpbmabnbaaDoorTmA
namespace Go.Tm
set_option linter.unusedVariables false

def isOne : Tm → Bool
  | .leaf _ [] => true
  | _ => false
def tidyNeg : Tm → Tm
  | .neg u => u
  | u => .neg u
def tidyTwo (a b : Tm) : Tm := if isOne b then a else if isOne a then b else .two false a b
def tidy : Tm → Tm
  | .leaf c a => .leaf c a
  | .neg t => tidyNeg (tidy t)
  | .two true a b => .two true (tidy a) (tidy b)
  | .two false a b => tidyTwo (tidy a) (tidy b)
def dg (p : Nat) : UInt8 := UInt8.ofNat (48 + p)
def digitsOf (a : List Nat) : List UInt8 := a.map dg
def txt : Tm → List UInt8
  | .leaf c a => c :: digitsOf a
  | .neg t => 45 :: txt t
  | .two p a b => 40 :: (txt a ++ (if p then 43 else 42) :: (txt b ++ [41]))
/-- a term that reading may give -/
def GoodT : Tm → Prop
  | .leaf c a => isL c = true ∧ isShare a = true
  | .neg t => GoodT t
  | .two p a b => GoodT a ∧ GoodT b ∧ Tm.deg (.two p a b) ≤ 6
theorem GoodT.fine : ∀ {t : Tm}, GoodT t → Fine t
  | .leaf _ _, h => ⟨h.2, isShare_len h.2⟩
  | .neg t, h => GoodT.fine (t := t) h
  | .two _ _ _, h => ⟨GoodT.fine h.1, GoodT.fine h.2.1, h.2.2⟩
theorem rd_good : ∀ (n : Nat) (l : List UInt8) (t : Tm) (r : List UInt8), rd n l = some (t, r) → GoodT t ∧ (txt t).length + r.length = l.length
  | 0, l, t, r, h => by cases h
  | n + 1, [], t, r, h => by cases h
  | n + 1, c :: l, t, r, h => by
    unfold rd at h
    split at h
    · cases h1 : rd n l with
      | none => rw [h1] at h; cases h
      | some x =>
        rw [h1] at h
        simp only [Option.map_some, Option.some.injEq, Prod.mk.injEq] at h
        obtain ⟨rfl, rfl⟩ := h
        have := rd_good n l x.1 x.2 h1
        exact ⟨this.1, by simp [txt]; omega⟩
    · split at h
      · cases h1 : rd n l with
        | none => rw [h1] at h; cases h
        | some x =>
          obtain ⟨a, m⟩ := x
          rw [h1] at h
          cases m with
          | nil => cases h
          | cons s m =>
            simp only at h
            cases h2 : rd n m with
            | none => rw [h2] at h; cases h
            | some y =>
              obtain ⟨b, q⟩ := y
              rw [h2] at h
              cases q with
              | nil => cases h
              | cons e q =>
                have g1 := rd_good n l _ _ h1
                have g2 := rd_good n m _ _ h2
                simp only [List.length_cons] at g1 g2
                simp only at h
                split at h
                · split at h
                  · split at h
                    · cases h; exact ⟨⟨g1.1, g2.1, g1.1.fine.deg⟩, by simp [txt]; omega⟩
                    · cases h
                  · split at h
                    · split at h
                      · cases h; exact ⟨⟨g1.1, g2.1, by simp [Tm.deg]; assumption⟩, by simp [txt]; omega⟩
                      · cases h
                    · cases h
                · cases h
      · split at h
        · rename_i hc
          split at h
          · rename_i hs
            cases h
            refine ⟨⟨hc, hs⟩, ?_⟩
            have : (l.takeWhile isD).length + (l.dropWhile isD).length = l.length := by rw [← List.length_append, List.takeWhile_append_dropWhile]
            simp [txt, digitsOf]; omega
          · cases h
        · cases h
theorem txt_pos : ∀ t : Tm, 1 ≤ (txt t).length
  | .leaf _ _ => by simp [txt]
  | .neg t => by simp [txt]
  | .two _ a b => by simp [txt]
theorem txt_one (t : Tm) : (txt t).length = 1 ↔ isOne t = true := by
  cases t with
  | leaf c a => cases a <;> simp [txt, digitsOf, isOne]
  | neg t =>
    have := txt_pos t
    simp only [txt, List.length_cons, isOne]
    constructor
    · intro h; omega
    · intro h; cases h
  | two p a b => simp [txt, isOne]
theorem tidyNeg_good {t : Tm} (h : GoodT t) : GoodT (tidyNeg t) := by
  cases t with
  | leaf c a => exact h
  | neg t => exact h
  | two p a b => exact h
theorem deg_tidyNeg (t : Tm) : (tidyNeg t).deg = t.deg := by cases t <;> rfl
theorem one_deg {t : Tm} (h : isOne t = true) : t.deg = 0 := by
  cases t with
  | leaf c a =>
    cases a with
    | nil => rfl
    | cons _ _ => cases h
  | neg t => cases h
  | two p a b => cases h
theorem tidy_deg : ∀ t : Tm, (tidy t).deg = t.deg
  | .leaf _ _ => rfl
  | .neg t => by show (tidyNeg (tidy t)).deg = t.deg; rw [deg_tidyNeg, tidy_deg t]
  | .two true a b => tidy_deg a
  | .two false a b => by
    show (tidyTwo (tidy a) (tidy b)).deg = a.deg + b.deg
    have ha := tidy_deg a
    have hb := tidy_deg b
    unfold tidyTwo
    split
    · rename_i h; have := one_deg h; omega
    · split
      · rename_i h; have := one_deg h; omega
      · show (tidy a).deg + (tidy b).deg = _; omega
theorem tidy_good : ∀ {t : Tm}, GoodT t → GoodT (tidy t)
  | .leaf _ _, h => h
  | .neg t, h => tidyNeg_good (tidy_good (t := t) h)
  | .two true a b, h => ⟨tidy_good h.1, tidy_good h.2.1, by show (tidy a).deg ≤ 6; rw [tidy_deg]; exact h.2.2⟩
  | .two false a b, h => by
    show GoodT (tidyTwo (tidy a) (tidy b))
    unfold tidyTwo
    split
    · exact tidy_good h.1
    · split
      · exact tidy_good h.2.1
      · exact ⟨tidy_good h.1, tidy_good h.2.1, by show (tidy a).deg + (tidy b).deg ≤ 6; rw [tidy_deg, tidy_deg]; exact h.2.2⟩
theorem txt_neg_len (t : Tm) : (txt (tidyNeg t)).length ≤ (txt t).length + 1 := by
  cases t <;> simp [tidyNeg, txt] <;> omega
theorem tidy_len : ∀ t : Tm, (txt (tidy t)).length ≤ (txt t).length
  | .leaf _ _ => Nat.le_refl _
  | .neg t => by
    have := tidy_len t
    have := txt_neg_len (tidy t)
    show (txt (tidyNeg (tidy t))).length ≤ (txt t).length + 1
    omega
  | .two true a b => by
    have ha := tidy_len a
    have hb := tidy_len b
    simp [tidy, txt]; omega
  | .two false a b => by
    have ha := tidy_len a
    have hb := tidy_len b
    show (txt (tidyTwo (tidy a) (tidy b))).length ≤ _
    unfold tidyTwo
    split
    · simp [txt]; omega
    · split
      · simp [txt]; omega
      · simp [txt]; omega
/-- what the model does at a sign -/
theorem txt_tidyNeg (t : Tm) (h : GoodT t) : txt (tidyNeg t) = if (txt t).head? = some 45 then (txt t).tail else 45 :: txt t := by
  cases t with
  | leaf c a =>
    have : ¬ c = 45 := by rintro rfl; exact absurd h.1 (by decide)
    simp [tidyNeg, txt, this]
  | neg t => simp [tidyNeg, txt]
  | two p a b => simp [tidyNeg, txt]
theorem txt_tidyTwo (a b : Tm) : txt (tidyTwo a b) = if (txt b).length = 1 then txt a else if (txt a).length = 1 then txt b else 40 :: (txt a ++ 42 :: (txt b ++ [41])) := by
  unfold tidyTwo
  by_cases hb : isOne b = true
  · rw [if_pos hb, if_pos ((txt_one b).2 hb)]
  · rw [if_neg hb, if_neg (fun e => hb ((txt_one b).1 e))]
    by_cases ha : isOne a = true
    · rw [if_pos ha, if_pos ((txt_one a).2 ha)]
    · rw [if_neg ha, if_neg (fun e => ha ((txt_one a).1 e))]
      simp [txt]
end Go.Tm
