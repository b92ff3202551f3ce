/- Texts of terms, read: plain mathematics. -/
namespace Go.Tm
set_option linter.unusedVariables false

/-- a term -/
inductive Tm where
  | leaf (c : UInt8) (a : List Nat)
  | neg (t : Tm)
  | two (plus : Bool) (a b : Tm)

def sumL (a : List Nat) : Nat := a.foldr (· + ·) 0
def Tm.deg : Tm → Nat
  | .leaf _ a => sumL a
  | .neg t => t.deg
  | .two true a _ => a.deg
  | .two false a b => a.deg + b.deg
def Tm.depth : Tm → Nat
  | .leaf _ _ => 0
  | .neg t => t.depth + 1
  | .two _ a b => max a.depth b.depth + 1

def isD (c : UInt8) : Bool := 48 ≤ c.toNat && c.toNat ≤ 57
def isL (c : UInt8) : Bool := c == 109 || c == 101 || c == 104 || c == 112 || c == 115
def dec (c : UInt8) : Nat := c.toNat - 48
/-- what is left of 6 when a list's parts are taken off, if it is the rest of a share behind a part `last` -/
def shareB : List Nat → Nat → Nat → Bool
  | [], _, _ => true
  | p :: l, last, left => decide (1 ≤ p) && decide (p ≤ left) && decide (p ≤ last) && shareB l p (left - p)
def isShare (a : List Nat) : Bool := shareB a 6 6

def rd : Nat → List UInt8 → Option (Tm × List UInt8)
  | 0, _ => none
  | _ + 1, [] => none
  | n + 1, c :: l =>
    if c = 45 then (rd n l).map fun x => (.neg x.1, x.2)
    else if c = 40 then
      match rd n l with
      | none => none
      | some (_, []) => none
      | some (a, s :: m) =>
        match rd n m with
        | none => none
        | some (_, []) => none
        | some (b, e :: r) =>
          if e = 41 then
            if s = 43 then (if a.deg = b.deg then some (.two true a b, r) else none)
            else if s = 42 then (if a.deg + b.deg ≤ 6 then some (.two false a b, r) else none)
            else none
          else none
    else if isL c then
      if isShare ((l.takeWhile isD).map dec) then some (.leaf c ((l.takeWhile isD).map dec), l.dropWhile isD) else none
    else none

/-- what the program reads of a text that begins with no sign -/
def rdShare : List UInt8 → Option (Tm × List UInt8)
  | [] => none
  | c :: l => if isL c then (if isShare ((l.takeWhile isD).map dec) then some (.leaf c ((l.takeWhile isD).map dec), l.dropWhile isD) else none) else none

/-- what the bracket's inside is read as -/
def rdTwo (n : Nat) (l : List UInt8) : Option (Tm × List UInt8) :=
  match rd n l with
  | none => none
  | some (_, []) => none
  | some (a, s :: m) =>
    match rd n m with
    | none => none
    | some (_, []) => none
    | some (b, e :: r) =>
      if e = 41 then
        if s = 43 then (if a.deg = b.deg then some (.two true a b, r) else none)
        else if s = 42 then (if a.deg + b.deg ≤ 6 then some (.two false a b, r) else none)
        else none
      else none
/-- a whole text -/
def whole (l : List UInt8) : Option Tm :=
  if 40 < l.length then none else
  match rd (l.length + 1) l with
  | some (t, []) => some t
  | _ => none

theorem shareB_sum : ∀ (a : List Nat) (last left : Nat), shareB a last left = true → sumL a ≤ left
  | [], _, _, _ => Nat.zero_le _
  | p :: l, last, left, h => by
    simp only [shareB, Bool.and_eq_true, decide_eq_true_eq] at h
    have := shareB_sum l p (left - p) h.2
    show p + sumL l ≤ left
    omega
theorem shareB_len : ∀ (a : List Nat) (last left : Nat), shareB a last left = true → a.length ≤ left
  | [], _, _, _ => Nat.zero_le _
  | p :: l, last, left, h => by
    simp only [shareB, Bool.and_eq_true, decide_eq_true_eq] at h
    have := shareB_len l p (left - p) h.2
    simp only [List.length_cons]
    omega
theorem isShare_len {a : List Nat} (h : isShare a = true) : a.length ≤ 6 := shareB_len a 6 6 h
theorem isShare_sum {a : List Nat} (h : isShare a = true) : sumL a ≤ 6 := shareB_sum a 6 6 h

theorem rd_len : ∀ (n : Nat) (l : List UInt8) (t : Tm) (r : List UInt8), rd n l = some (t, r) → r.length < l.length ∧ t.deg ≤ 6
  | 0, l, t, r, h => by cases h
  | n + 1, [], t, r, h => by cases h
  | n + 1, c :: l, t, r, h => by
    unfold rd at h
    split at h
    · cases h1 : rd n l with
      | none => rw [h1] at h; cases h
      | some x =>
        rw [h1] at h
        simp only [Option.map_some, Option.some.injEq, Prod.mk.injEq] at h
        obtain ⟨rfl, rfl⟩ := h
        have := rd_len n l x.1 x.2 h1
        exact ⟨by simp; omega, this.2⟩
    · split at h
      · cases h1 : rd n l with
        | none => rw [h1] at h; cases h
        | some x =>
          obtain ⟨a, m⟩ := x
          rw [h1] at h
          cases m with
          | nil => cases h
          | cons s m =>
            simp only at h
            cases h2 : rd n m with
            | none => rw [h2] at h; cases h
            | some y =>
              obtain ⟨b, q⟩ := y
              rw [h2] at h
              cases q with
              | nil => cases h
              | cons e q =>
                have g1 := rd_len n l _ _ h1
                have g2 := rd_len n m _ _ h2
                simp only [List.length_cons] at g1 g2
                simp only at h
                split at h
                · split at h
                  · split at h
                    · cases h; exact ⟨by simp; omega, g1.2⟩
                    · cases h
                  · split at h
                    · split at h
                      · cases h; exact ⟨by simp; omega, by simp [Tm.deg]; assumption⟩
                      · cases h
                    · cases h
                · cases h
      · split at h
        · split at h
          · rename_i hs
            cases h
            refine ⟨?_, isShare_sum hs⟩
            have : (l.dropWhile isD).length ≤ l.length := (List.dropWhile_sublist isD).length_le
            simp; omega
          · cases h
        · cases h

theorem rd_mono : ∀ (n : Nat) (l : List UInt8) (x : Tm × List UInt8) (m : Nat), rd n l = some x → n ≤ m → rd m l = some x
  | 0, l, x, m, h, _ => by cases h
  | n + 1, [], x, m, h, _ => by cases h
  | n + 1, c :: l, x, 0, h, hm => by omega
  | n + 1, c :: l, x, m + 1, h, hm => by
    have ih := fun l x h => rd_mono n l x m h (by omega)
    unfold rd at h ⊢
    split
    · rename_i hc
      rw [if_pos hc] at h
      cases h1 : rd n l with
      | none => rw [h1] at h; cases h
      | some y => rw [ih _ _ h1]; rw [h1] at h; exact h
    · rename_i hc
      rw [if_neg hc] at h
      split
      · rename_i hc2
        rw [if_pos hc2] at h
        cases h1 : rd n l with
        | none => rw [h1] at h; cases h
        | some y =>
          obtain ⟨a, q⟩ := y
          rw [ih _ _ h1]; rw [h1] at h
          cases q with
          | nil => exact h
          | cons s q =>
            simp only at h ⊢
            cases h2 : rd n q with
            | none => rw [h2] at h; cases h
            | some z => rw [ih _ _ h2]; rw [h2] at h; exact h
      · rename_i hc2
        rw [if_neg hc2] at h
        exact h
/-- a number of a list -/
def gn (a : List Nat) (k : Nat) : Nat := a.getD k 0
def OkS (a : List Nat) (i : Nat) : Prop := 1 ≤ gn a i ∧ gn a i ≤ 6 ∧ (0 < i → gn a i ≤ gn a (i - 1))
theorem shareB_iff : ∀ (a : List Nat) (last left : Nat), shareB a last left = true ↔ (∀ i, i < a.length → 1 ≤ gn a i ∧ gn a i ≤ if i = 0 then last else gn a (i - 1)) ∧ sumL a ≤ left
  | [], last, left => by simp [shareB, sumL]
  | p :: l, last, left => by
    have ih := shareB_iff l p (left - p)
    simp only [shareB, Bool.and_eq_true, decide_eq_true_eq, ih]
    have hs : sumL (p :: l) = p + sumL l := rfl
    have h0 : gn (p :: l) 0 = p := rfl
    have h1 : ∀ i, gn (p :: l) (i + 1) = gn l i := fun i => rfl
    constructor
    · rintro ⟨⟨⟨a, b⟩, c⟩, d, e⟩
      refine ⟨fun i hi => ?_, by omega⟩
      cases i with
      | zero => rw [h0]; exact ⟨a, by simpa using c⟩
      | succ i =>
        have := d i (by simpa using hi)
        rw [h1]
        refine ⟨this.1, ?_⟩
        have q := this.2
        simp only [Nat.add_one_ne_zero, if_false, Nat.add_sub_cancel]
        cases i with
        | zero => rw [h0]; simpa using q
        | succ i => rw [h1]; simpa using q
    · rintro ⟨d, e⟩
      have d0 := d 0 (by simp)
      rw [h0] at d0
      simp only [if_true] at d0
      refine ⟨⟨⟨d0.1, by omega⟩, d0.2⟩, fun i hi => ?_, by omega⟩
      have := d (i + 1) (by simpa using hi)
      rw [h1] at this
      refine ⟨this.1, ?_⟩
      have q := this.2
      simp only [Nat.add_one_ne_zero, if_false, Nat.add_sub_cancel] at q
      cases i with
      | zero => rw [h0] at q; simpa using q
      | succ i => rw [h1] at q; simpa using q
theorem part_le_sum : ∀ (a : List Nat) (i : Nat), gn a i ≤ sumL a
  | [], i => by simp [gn, sumL]
  | p :: l, 0 => by show p ≤ p + sumL l; omega
  | p :: l, i + 1 => by have := part_le_sum l i; show gn l i ≤ p + sumL l; omega
theorem isShare_iff (a : List Nat) : isShare a = true ↔ (∀ i, i < a.length → OkS a i) ∧ sumL a ≤ 6 := by
  unfold isShare
  rw [shareB_iff]
  constructor
  · rintro ⟨h, hs⟩
    refine ⟨fun i hi => ?_, hs⟩
    have := h i hi
    refine ⟨this.1, Nat.le_trans (part_le_sum a i) hs, fun h0 => ?_⟩
    rw [if_neg (by omega)] at this; exact this.2
  · rintro ⟨h, hs⟩
    refine ⟨fun i hi => ?_, hs⟩
    have := h i hi
    refine ⟨this.1, ?_⟩
    split
    · exact this.2.1
    · exact this.2.2 (by omega)
theorem len_le_sum (a : List Nat) (h : ∀ i, i < a.length → OkS a i) : a.length ≤ sumL a := by
  induction a with
  | nil => exact Nat.le_refl _
  | cons p l ih =>
    have h0 := (h 0 (by simp)).1
    have : l.length ≤ sumL l ∨ True := .inr trivial
    have q : ∀ i, i < l.length → 1 ≤ gn l i := fun i hi => (h (i + 1) (by simpa using hi)).1
    have : l.length ≤ sumL l := by
      clear ih h h0 this
      induction l with
      | nil => exact Nat.le_refl _
      | cons x l ih =>
        have q0 := q 0 (by simp)
        have := ih fun i hi => q (i + 1) (by simpa using hi)
        have e0 : gn (x :: l) 0 = x := rfl
        rw [e0] at q0
        show l.length + 1 ≤ x + sumL l
        omega
    have e0 : gn (p :: l) 0 = p := rfl
    rw [e0] at h0
    show l.length + 1 ≤ p + sumL l
    omega
/-- a term that can be -/
def Fine : Tm → Prop
  | .leaf _ a => isShare a = true ∧ a.length ≤ 6
  | .neg t => Fine t
  | .two p a b => Fine a ∧ Fine b ∧ Tm.deg (.two p a b) ≤ 6
theorem Fine.deg : ∀ {t : Tm}, Fine t → t.deg ≤ 6
  | .leaf _ _, h => isShare_sum h.1
  | .neg t, h => Fine.deg (t := t) h
  | .two _ _ _, h => h.2.2

theorem rd_fine : ∀ (n : Nat) (l : List UInt8) (t : Tm) (r : List UInt8), rd n l = some (t, r) → Fine t
  | 0, l, t, r, h => by cases h
  | n + 1, [], t, r, h => by cases h
  | n + 1, c :: l, t, r, h => by
    unfold rd at h
    split at h
    · cases h1 : rd n l with
      | none => rw [h1] at h; cases h
      | some x =>
        rw [h1] at h
        simp only [Option.map_some, Option.some.injEq, Prod.mk.injEq] at h
        obtain ⟨rfl, rfl⟩ := h
        exact rd_fine n l x.1 x.2 h1
    · split at h
      · cases h1 : rd n l with
        | none => rw [h1] at h; cases h
        | some x =>
          obtain ⟨a, m⟩ := x
          rw [h1] at h
          cases m with
          | nil => cases h
          | cons s m =>
            simp only at h
            cases h2 : rd n m with
            | none => rw [h2] at h; cases h
            | some y =>
              obtain ⟨b, q⟩ := y
              rw [h2] at h
              cases q with
              | nil => cases h
              | cons e q =>
                have g1 := rd_fine n l _ _ h1
                have g2 := rd_fine n m _ _ h2
                simp only at h
                split at h
                · split at h
                  · split at h
                    · cases h; exact ⟨g1, g2, g1.deg⟩
                    · cases h
                  · split at h
                    · split at h
                      · cases h; exact ⟨g1, g2, by simp [Tm.deg]; assumption⟩
                      · cases h
                    · cases h
                · cases h
      · split at h
        · split at h
          · rename_i hs
            cases h
            exact ⟨hs, isShare_len hs⟩
          · cases h
        · cases h
end Go.Tm
