/- Sums of products, told by one number each: plain mathematics. -/
import Derived.Test.YthcdiaahpodkoabEngB
namespace Go.Eng
set_option linter.unusedSectionVars false
set_option linter.unusedSimpArgs false
set_option linter.unusedVariables false
open Go

/-- A sum: codes of products (digits of base 8 are powers), with factors. -/
abbrev Poly := List (Nat × Int)
/-- the value at a great number -/
def pK (B : Int) : Poly → Int
  | [] => 0
  | t :: l => t.2 * B ^ t.1 + pK B l
/-- all factors without sign -/
def pS : Poly → Nat
  | [] => 0
  | t :: l => t.2.natAbs + pS l
def pE (g : Nat → Int) : Poly → Int
  | [] => 0
  | t :: l => t.2 * g t.1 + pE g l
def pLow : Poly → Int
  | [] => 0
  | t :: l => (if t.1 = 0 then t.2 else 0) + pLow l
def pTail : Poly → Poly
  | [] => []
  | t :: l => if t.1 = 0 then pTail l else (t.1 - 1, t.2) :: pTail l

theorem pK_split (B : Int) : ∀ l, pK B l = pLow l + B * pK B (pTail l)
  | [] => by simp [pK, pLow, pTail]
  | t :: l => by
    have ih := pK_split B l
    simp only [pK, pLow, pTail]
    by_cases h : t.1 = 0
    · rw [if_pos h, if_pos h, h, ih]; simp; omega
    · rw [if_neg h, if_neg h, ih]
      simp only [pK]
      obtain ⟨m, hm⟩ : ∃ m, t.1 = m + 1 := ⟨t.1 - 1, by omega⟩
      rw [hm, Nat.add_sub_cancel, Int.pow_succ, Int.mul_add]
      have : t.2 * (B ^ m * B) = B * (t.2 * B ^ m) := by rw [← Int.mul_assoc, Int.mul_comm]
      rw [this]; omega
theorem pS_split : ∀ l, (pLow l).natAbs + pS (pTail l) ≤ pS l
  | [] => by simp [pS, pLow, pTail]
  | t :: l => by
    have ih := pS_split l
    simp only [pS, pLow, pTail]
    by_cases h : t.1 = 0
    · rw [if_pos h, if_pos h]; omega
    · rw [if_neg h, if_neg h]; simp only [pS]; omega
theorem pE_split (g : Nat → Int) : ∀ l, pE g l = pLow l * g 0 + pE (fun m => g (m + 1)) (pTail l)
  | [] => by simp [pE, pLow, pTail]
  | t :: l => by
    have ih := pE_split g l
    simp only [pE, pLow, pTail]
    by_cases h : t.1 = 0
    · rw [if_pos h, if_pos h, h, ih, Int.add_mul]; omega
    · rw [if_neg h, if_neg h, ih]
      simp only [pE]
      rw [show t.1 - 1 + 1 = t.1 from by omega]; simp; omega
theorem pTail_lt {N : Nat} : ∀ l, (∀ t ∈ l, t.1 < N + 1) → ∀ t ∈ pTail l, t.1 < N
  | [], _, t, h => by simp [pTail] at h
  | u :: l, hl, t, h => by
    have ih := pTail_lt l (fun t ht => hl t (List.mem_cons_of_mem _ ht)) t
    simp only [pTail] at h
    split at h
    · exact ih h
    · rcases List.mem_cons.1 h with rfl | h
      · have := hl u List.mem_cons_self
        show u.1 - 1 < N
        omega
      · exact ih h
/-- ██ A sum whose value at a great number is nought is nought. -/
theorem pK_zero (B : Nat) (hB : 0 < B) : ∀ (N : Nat) (l : Poly) (g : Nat → Int), (∀ t ∈ l, t.1 < N) → pS l < B → pK B l = 0 → pE g l = 0
  | 0, l, g, hN, _, _ => by
    cases l with
    | nil => rfl
    | cons t l => exact absurd (hN t List.mem_cons_self) (by omega)
  | N + 1, l, g, hN, hS, hK => by
    have h1 := pK_split B l
    have h2 := pS_split l
    have h3 := pE_split g l
    rw [hK] at h1
    have hlow : pLow l = 0 := by
      have hd : (B : Int) ∣ pLow l := ⟨-(pK B (pTail l)), by rw [Int.mul_neg]; omega⟩
      have hlt : (pLow l).natAbs < B := by omega
      have hd' : B ∣ (pLow l).natAbs := by
        have := Int.natAbs_dvd_natAbs.2 hd
        simpa using this
      have := Nat.eq_zero_of_dvd_of_lt hd' hlt
      omega
    rw [hlow] at h1 h3
    have hK' : pK B (pTail l) = 0 := by
      have : (B : Int) * pK B (pTail l) = 0 := by omega
      rcases Int.mul_eq_zero.1 this with h | h
      · omega
      · exact h
    rw [h3, pK_zero B hB N (pTail l) _ (pTail_lt l hN) (by omega) hK']
    simp
theorem pK_app (B : Int) : ∀ l m, pK B (l ++ m) = pK B l + pK B m
  | [], m => by simp [pK]
  | t :: l, m => by simp only [List.cons_append, pK]; rw [pK_app B l m]; omega
theorem pS_app : ∀ l m, pS (l ++ m) = pS l + pS m
  | [], m => by simp [pS]
  | t :: l, m => by simp only [List.cons_append, pS]; rw [pS_app l m]; omega
theorem pE_app (g : Nat → Int) : ∀ l m, pE g (l ++ m) = pE g l + pE g m
  | [], m => by simp [pE]
  | t :: l, m => by simp only [List.cons_append, pE]; rw [pE_app g l m]; omega
def pNeg (l : Poly) : Poly := l.map fun t => (t.1, -t.2)
theorem pK_neg (B : Int) : ∀ l, pK B (pNeg l) = - pK B l
  | [] => rfl
  | t :: l => by
    have ih := pK_neg B l
    show -t.2 * B ^ t.1 + pK B (pNeg l) = -(t.2 * B ^ t.1 + pK B l)
    rw [ih, Int.neg_mul]; omega
theorem pS_neg : ∀ l, pS (pNeg l) = pS l
  | [] => rfl
  | t :: l => by
    have ih := pS_neg l
    show (-t.2).natAbs + pS (pNeg l) = t.2.natAbs + pS l
    rw [ih, Int.natAbs_neg]
theorem pE_neg (g : Nat → Int) : ∀ l, pE g (pNeg l) = - pE g l
  | [] => rfl
  | t :: l => by
    have ih := pE_neg g l
    show -t.2 * g t.1 + pE g (pNeg l) = -(t.2 * g t.1 + pE g l)
    rw [ih, Int.neg_mul]; omega
theorem pNeg_mem {l : Poly} {t : Nat × Int} (h : t ∈ pNeg l) : ∃ u ∈ l, u.1 = t.1 := by
  obtain ⟨u, hu, rfl⟩ := List.mem_map.1 h
  exact ⟨u, hu, rfl⟩
/-- one product times a sum -/
def pMul1 (u : Nat × Int) (l : Poly) : Poly := l.map fun t => (u.1 + t.1, u.2 * t.2)
def pMul : Poly → Poly → Poly
  | [], _ => []
  | u :: l, m => pMul1 u m ++ pMul l m
theorem pK_mul1 (B : Int) (u : Nat × Int) : ∀ l, pK B (pMul1 u l) = u.2 * B ^ u.1 * pK B l
  | [] => by simp [pMul1, pK]
  | t :: l => by
    have ih := pK_mul1 B u l
    show u.2 * t.2 * B ^ (u.1 + t.1) + pK B (pMul1 u l) = u.2 * B ^ u.1 * (t.2 * B ^ t.1 + pK B l)
    rw [ih, Int.mul_add, Int.pow_add]
    have : u.2 * t.2 * (B ^ u.1 * B ^ t.1) = u.2 * B ^ u.1 * (t.2 * B ^ t.1) := by
      rw [Int.mul_assoc, Int.mul_assoc, Int.mul_left_comm t.2]
    rw [this]
theorem pK_mul (B : Int) : ∀ l m, pK B (pMul l m) = pK B l * pK B m
  | [], m => by simp [pMul, pK]
  | u :: l, m => by
    show pK B (pMul1 u m ++ pMul l m) = (u.2 * B ^ u.1 + pK B l) * pK B m
    rw [pK_app, pK_mul1, pK_mul B l m, Int.add_mul]
theorem pS_mul1 (u : Nat × Int) : ∀ l, pS (pMul1 u l) = u.2.natAbs * pS l
  | [] => by simp [pMul1, pS]
  | t :: l => by
    have ih := pS_mul1 u l
    show (u.2 * t.2).natAbs + pS (pMul1 u l) = u.2.natAbs * (t.2.natAbs + pS l)
    rw [ih, Int.natAbs_mul, Nat.mul_add]
theorem pS_mul : ∀ l m, pS (pMul l m) = pS l * pS m
  | [], m => by simp [pMul, pS]
  | u :: l, m => by
    show pS (pMul1 u m ++ pMul l m) = (u.2.natAbs + pS l) * pS m
    rw [pS_app, pS_mul1, pS_mul l m, Nat.add_mul]
theorem pE_mul1 (g : Nat → Int) (u : Nat × Int) : ∀ l, (∀ t ∈ l, g (u.1 + t.1) = g u.1 * g t.1) → pE g (pMul1 u l) = u.2 * g u.1 * pE g l
  | [], _ => by simp [pMul1, pE]
  | t :: l, h => by
    have ih := pE_mul1 g u l (fun t ht => h t (List.mem_cons_of_mem _ ht))
    show u.2 * t.2 * g (u.1 + t.1) + pE g (pMul1 u l) = u.2 * g u.1 * (t.2 * g t.1 + pE g l)
    rw [ih, Int.mul_add, h t List.mem_cons_self]
    have : u.2 * t.2 * (g u.1 * g t.1) = u.2 * g u.1 * (t.2 * g t.1) := by
      rw [Int.mul_assoc, Int.mul_assoc, Int.mul_left_comm t.2]
    rw [this]
theorem pE_mul (g : Nat → Int) : ∀ l m, (∀ u ∈ l, ∀ t ∈ m, g (u.1 + t.1) = g u.1 * g t.1) → pE g (pMul l m) = pE g l * pE g m
  | [], m, _ => by simp [pMul, pE]
  | u :: l, m, h => by
    show pE g (pMul1 u m ++ pMul l m) = (u.2 * g u.1 + pE g l) * pE g m
    rw [pE_app, pE_mul1 g u m (h u List.mem_cons_self), pE_mul g l m (fun v hv => h v (List.mem_cons_of_mem _ hv)), Int.add_mul]
theorem pMul_mem : ∀ {l m : Poly} {t : Nat × Int}, t ∈ pMul l m → ∃ u ∈ l, ∃ v ∈ m, t.1 = u.1 + v.1
  | [], m, t, h => by simp [pMul] at h
  | u :: l, m, t, h => by
    rcases List.mem_append.1 h with h | h
    · obtain ⟨v, hv, rfl⟩ := List.mem_map.1 h
      exact ⟨u, List.mem_cons_self, v, hv, rfl⟩
    · obtain ⟨a, ha, b, hb, e⟩ := pMul_mem h
      exact ⟨a, List.mem_cons_of_mem _ ha, b, hb, e⟩

/-! ### products: digits of base 8 -/
def degM : Nat → Nat → Nat
  | 0, _ => 0
  | f + 1, m => m % 8 + degM f (m / 8)
/-- the product of the powers of the numbers i, i + 1 .. -/
def evM (x : Nat → Int) : Nat → Nat → Nat → Int
  | 0, _, _ => 1
  | f + 1, i, m => x i ^ (m % 8) * evM x f (i + 1) (m / 8)
theorem degM_add : ∀ (f a b : Nat), degM f a + degM f b < 8 → degM f (a + b) = degM f a + degM f b
  | 0, a, b, _ => rfl
  | f + 1, a, b, h => by
    simp only [degM] at h ⊢
    have e1 : (a + b) % 8 = a % 8 + b % 8 := by omega
    have e2 : (a + b) / 8 = a / 8 + b / 8 := by omega
    rw [e1, e2, degM_add f _ _ (by omega)]; omega
theorem evM_add (x : Nat → Int) : ∀ (f i a b : Nat), degM f a + degM f b < 8 → evM x f i (a + b) = evM x f i a * evM x f i b
  | 0, i, a, b, _ => by simp [evM]
  | f + 1, i, a, b, h => by
    simp only [degM] at h
    simp only [evM]
    have e1 : (a + b) % 8 = a % 8 + b % 8 := by omega
    have e2 : (a + b) / 8 = a / 8 + b / 8 := by omega
    rw [e1, e2, evM_add x f _ _ _ (by omega), Int.pow_add]
    rw [Int.mul_assoc, Int.mul_assoc, Int.mul_left_comm (x i ^ (b % 8))]

/-- What a sum's numbers tell: its value at 2^64 (less the second number), a bound of its factors, of its powers. -/
structure PolyR (x : Nat → Int) (p n s d : Nat) (z : Int) : Prop where
  ex : ∃ l : Poly, pK ((18446744073709551616 : Nat) : Int) l = (p : Int) - (n : Int) ∧ pS l ≤ s ∧ (∀ t ∈ l, degM 8 t.1 ≤ d) ∧ pE (evM x 8 0) l = z
variable {x : Nat → Int} {p n s d p' n' s' d' : Nat} {z z' : Int}
theorem PolyR.add (h : PolyR x p n s d z) (h' : PolyR x p' n' s' d' z') {D : Nat} (hd : d ≤ D) (hd' : d' ≤ D) : PolyR x (p + p') (n + n') (s + s') D (z + z') := by
  obtain ⟨l, a1, a2, a3, a4⟩ := h.ex
  obtain ⟨m, b1, b2, b3, b4⟩ := h'.ex
  refine ⟨l ++ m, ?_, ?_, fun t ht => ?_, ?_⟩
  · rw [pK_app, a1, b1]; omega
  · rw [pS_app]; omega
  · rcases List.mem_append.1 ht with ht | ht
    · exact Nat.le_trans (a3 t ht) hd
    · exact Nat.le_trans (b3 t ht) hd'
  · rw [pE_app, a4, b4]
theorem PolyR.neg (h : PolyR x p n s d z) : PolyR x n p s d (-z) := by
  obtain ⟨l, a1, a2, a3, a4⟩ := h.ex
  refine ⟨pNeg l, ?_, ?_, fun t ht => ?_, ?_⟩
  · rw [pK_neg, a1]; omega
  · rw [pS_neg]; exact a2
  · obtain ⟨u, hu, e⟩ := pNeg_mem ht
    rw [← e]; exact a3 u hu
  · rw [pE_neg, a4]
theorem PolyR.mul (h : PolyR x p n s d z) (h' : PolyR x p' n' s' d' z') (hd : d + d' < 8) : PolyR x (p * p' + n * n') (p * n' + n * p') (s * s') (d + d') (z * z') := by
  obtain ⟨l, a1, a2, a3, a4⟩ := h.ex
  obtain ⟨m, b1, b2, b3, b4⟩ := h'.ex
  refine ⟨pMul l m, ?_, ?_, fun t ht => ?_, ?_⟩
  · rw [pK_mul, a1, b1]
    push_cast
    rw [Int.sub_mul, Int.mul_sub, Int.mul_sub]; omega
  · rw [pS_mul]; exact Nat.mul_le_mul a2 b2
  · obtain ⟨u, hu, v, hv, e⟩ := pMul_mem ht
    have h1 := a3 u hu
    have h2 := b3 v hv
    rw [e, degM_add 8 _ _ (by omega)]; omega
  · rw [pE_mul _ l m (fun u hu t ht => evM_add x 8 0 _ _ (by have := a3 u hu; have := b3 t ht; omega)), a4, b4]
/-- ██ The same numbers, the same sum. -/
theorem PolyR.same (h : PolyR x p n s d z) (h' : PolyR x p' n' s' d' z') (hs : s + s' < 18446744073709551616) (e : p + n' = p' + n) : z = z' := by
  obtain ⟨l, a1, a2, a3, a4⟩ := h.ex
  obtain ⟨m, b1, b2, b3, b4⟩ := h'.ex
  have hz : ∀ l : Poly, ∃ N, ∀ t ∈ l, t.1 < N := by
    intro l
    induction l with
    | nil => exact ⟨0, fun t h => by cases h⟩
    | cons u l ih =>
      obtain ⟨N, hN⟩ := ih
      refine ⟨N + u.1 + 1, fun t ht => ?_⟩
      rcases List.mem_cons.1 ht with rfl | ht
      · omega
      · have := hN t ht; omega
  obtain ⟨N, hN⟩ := hz (l ++ pNeg m)
  have := pK_zero 18446744073709551616 (by omega) N (l ++ pNeg m) (evM x 8 0) hN (by rw [pS_app, pS_neg]; omega) (by rw [pK_app, pK_neg, a1, b1]; omega)
  rw [pE_app, pE_neg, a4, b4] at this
  omega
theorem PolyR.const (c : Int) (h : c.natAbs ≤ s) (e : (p : Int) - n = c) : PolyR x p n s 0 c := by
  refine ⟨[(0, c)], ?_, ?_, fun t ht => ?_, ?_⟩
  · simp [pK]; omega
  · simpa [pS] using h
  · simp at ht; subst ht; show degM 8 0 ≤ 0; decide
  · simp [pE, evM]
theorem PolyR.var {i : Nat} (hi : i < 8) : PolyR x (18446744073709551616 ^ (8 ^ i)) 0 1 1 (x i) := by
  refine ⟨[(8 ^ i, 1)], ?_, ?_, fun t ht => ?_, ?_⟩
  · simp only [pK, Int.one_mul, Int.add_zero, Int.natCast_pow]; simp
  · simp [pS]
  · simp at ht; subst ht
    have : i = 0 ∨ i = 1 ∨ i = 2 ∨ i = 3 ∨ i = 4 ∨ i = 5 ∨ i = 6 ∨ i = 7 := by omega
    rcases this with rfl | rfl | rfl | rfl | rfl | rfl | rfl | rfl <;> decide
  · have : i = 0 ∨ i = 1 ∨ i = 2 ∨ i = 3 ∨ i = 4 ∨ i = 5 ∨ i = 6 ∨ i = 7 := by omega
    rcases this with rfl | rfl | rfl | rfl | rfl | rfl | rfl | rfl <;> simp [pE, evM, Int.pow_succ]
end Go.Eng
