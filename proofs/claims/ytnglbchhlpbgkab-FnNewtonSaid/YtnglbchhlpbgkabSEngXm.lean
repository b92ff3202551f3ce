/- Part of the evaluator: Xm. -/
import Derived.Test.YtnglbchhlpbgkabSEngXi

/- Laws on a code: trees of facts, some of whose leaves cannot be for any numbers between their bounds. -/
namespace Go.Eng
set_option linter.unusedSectionVars false
set_option linter.unusedSimpArgs false
set_option linter.unusedVariables false
open Go Go.RowKit

noncomputable section
/-- what a sum comes to but for 2^64 -/
def PX.r64 (x : Nat → Nat) (e : PX) : Nat := PX.rec (motive := fun _ => Nat) (fun i => x i) (fun n => Nat.mod n 18446744073709551616) (fun _ _ a b => Nat.mod (Nat.add a b) 18446744073709551616) (fun _ _ a b => Nat.mod (Nat.mul a b) 18446744073709551616) (fun _ a => Nat.mod (Nat.sub 18446744073709551616 a) 18446744073709551616) e
/-- its variables are below m -/
def PX.low (m : Nat) (e : PX) : Bool := PX.rec (motive := fun _ => Bool) (fun i => ltb i m) (fun _ => true) (fun _ _ a b => sel a b false) (fun _ _ a b => sel a b false) (fun _ a => a) e
def getN (l : List Nat) : Nat → Nat := List.rec (motive := fun _ => Nat → Nat) (fun _ => 0) (fun a _ ih i => Nat.rec (motive := fun _ => Nat) a (fun j _ => ih j) i) l
def two64m (a : Nat) : Nat := Nat.mod a 18446744073709551616
def bias64 (r : Nat) : Nat := two64m (Nat.add r 9223372036854775808)
def resW (b : Nat) : Nat := two64m (Nat.add b 18446743523953737728)
/-- a fact that is not so -/
def feBad (x : Nat → Nat) (f : FE) : Bool := force (bias64 (f.1.r64 x)) fun r => sel (ltb r f.2.1) true (ltb f.2.2 r)
def anyBad (fs : List FE) (x : Nat → Nat) : Bool := List.rec (motive := fun _ => Bool) false (fun f _ ih => sel (feBad x f) true ih) fs
def allR (n : Nat) (p : Nat → Bool) : Bool := Nat.rec (motive := fun _ => Bool) true (fun i ih => sel (p i) ih false) n
/-- for all numbers between bounds -/
def grid (bs : List (Nat × Nat)) : (List Nat → Bool) → Bool :=
  List.rec (motive := fun _ => (List Nat → Bool) → Bool) (fun k => k [])
    (fun b _ ih k => allR (Nat.succ (Nat.sub b.2 b.1)) fun i => force (resW (Nat.add b.1 i)) fun v => ih fun l => k (v :: l)) bs
def useful (m : Nat) (fs : List FE) : List FE := List.rec (motive := fun _ => List FE) [] (fun f _ ih => sel (sel f.1.ok (sel (f.1.low m) (ltb (Nat.add f.1.num.s f.1.num.s) 18446744073709551616) false) false) (f :: ih) ih) fs
/-- these facts cannot be -/
def noneB (bs : List (Nat × Nat)) (fs : List FE) : Bool := grid bs fun l => anyBad (useful bs.length fs) (getN l)
/-- a tree of cases, some of which cannot be -/
inductive FM where
  | leaf
  | no
  | tri (e : PX) (a b : Nat) (x y z : FM)
  | two (e : PX) (a : Nat) (x y : FM)
def chkFM (run no : List FE → Bool) (t : FM) : List FE → Bool :=
  FM.rec (motive := fun _ => List FE → Bool) (fun fs => run fs) (fun fs => no fs)
    (fun e a b _ _ _ ix iy iz fs => sel (sel e.ok (sel (sel (Nat.ble 1 a) (Nat.ble a b) false) (ltb b 18446744073709551615) false) false)
      (sel (ix ((e, 0, Nat.pred a) :: fs)) (sel (iy ((e, a, b) :: fs)) (iz ((e, Nat.succ b, 18446744073709551615) :: fs)) false) false) false)
    (fun e a _ _ ix iy fs => sel (sel e.ok (sel (Nat.ble 1 a) (ltb a 18446744073709551616) false) false)
      (sel (ix ((e, 0, Nat.pred a) :: fs)) (iy ((e, a, 18446744073709551615) :: fs)) false) false) t
end
theorem two64m_eq (a : Nat) : two64m a = a % 18446744073709551616 := by unfold two64m; rfl
theorem bias64_eq (r : Nat) : bias64 r = (r + 9223372036854775808) % 18446744073709551616 := by unfold bias64; rw [two64m_eq, Nat.add_eq]
theorem resW_eq (r : Nat) : resW r = (r + 18446743523953737728) % 18446744073709551616 := by unfold resW; rw [two64m_eq, Nat.add_eq]
theorem mod_eq {a b : Int} (h : (a - b) % 18446744073709551616 = 0) : ∃ k, a = b + 18446744073709551616 * k := ⟨(a - b) / 18446744073709551616, by omega⟩
theorem r64_sound {x : Nat → Nat} {X : Nat → Int} {m : Nat} (hx : ∀ i, i < m → ((x i : Int) - X i) % 18446744073709551616 = 0 ∧ x i < 18446744073709551616) : ∀ e : PX, e.low m = true → ((e.r64 x : Int) - e.val X) % 18446744073709551616 = 0 ∧ e.r64 x < 18446744073709551616
  | .v i, h => hx i ((ltb_iff _ _).1 h)
  | .c n, _ => by
    show (((n % 18446744073709551616 : Nat) : Int) - (n : Int)) % _ = 0 ∧ n % 18446744073709551616 < _
    omega
  | .add a b, h => by
    obtain ⟨h1, h2⟩ := sel_andN (show sel (a.low m) (b.low m) false = true from h)
    obtain ⟨i1, j1⟩ := r64_sound hx a h1
    obtain ⟨i2, j2⟩ := r64_sound hx b h2
    show ((((a.r64 x + b.r64 x) % 18446744073709551616 : Nat) : Int) - (a.val X + b.val X)) % _ = 0 ∧ (a.r64 x + b.r64 x) % 18446744073709551616 < _
    omega
  | .mul a b, h => by
    obtain ⟨h1, h2⟩ := sel_andN (show sel (a.low m) (b.low m) false = true from h)
    obtain ⟨i1, j1⟩ := r64_sound hx a h1
    obtain ⟨i2, j2⟩ := r64_sound hx b h2
    show ((((a.r64 x * b.r64 x) % 18446744073709551616 : Nat) : Int) - (a.val X * b.val X)) % _ = 0 ∧ (a.r64 x * b.r64 x) % 18446744073709551616 < _
    refine ⟨?_, Nat.mod_lt _ (by omega)⟩
    obtain ⟨k1, e1⟩ := mod_eq i1
    obtain ⟨k2, e2⟩ := mod_eq i2
    have ep : ((a.r64 x * b.r64 x : Nat) : Int) = (a.r64 x : Int) * (b.r64 x : Int) := Int.natCast_mul _ _
    rw [e1, e2] at ep
    generalize a.r64 x * b.r64 x = p at ep ⊢
    have : (a.val X + 18446744073709551616 * k1) * (b.val X + 18446744073709551616 * k2) = a.val X * b.val X + 18446744073709551616 * (k1 * b.val X + a.val X * k2 + 18446744073709551616 * k1 * k2) := by
      rw [Int.add_mul, Int.mul_add, Int.mul_add, Int.mul_add, Int.mul_add]
      have a1 : a.val X * (18446744073709551616 * k2) = 18446744073709551616 * (a.val X * k2) := by rw [Int.mul_left_comm]
      have a2 : 18446744073709551616 * k1 * b.val X = 18446744073709551616 * (k1 * b.val X) := by rw [Int.mul_assoc]
      have a3 : 18446744073709551616 * k1 * (18446744073709551616 * k2) = 18446744073709551616 * (18446744073709551616 * k1 * k2) := by rw [Int.mul_assoc, Int.mul_left_comm k1, ← Int.mul_assoc 18446744073709551616 k1]
      rw [a1, a2, a3]; omega
    rw [this] at ep
    generalize (k1 * b.val X + a.val X * k2 + 18446744073709551616 * k1 * k2) = q at ep
    generalize a.val X * b.val X = r at ep ⊢
    omega
  | .neg a, h => by
    obtain ⟨i1, j1⟩ := r64_sound hx a h
    show ((((18446744073709551616 - a.r64 x) % 18446744073709551616 : Nat) : Int) - (- a.val X)) % _ = 0 ∧ (18446744073709551616 - a.r64 x) % 18446744073709551616 < _
    omega
theorem allR_sound : ∀ (n : Nat) {p : Nat → Bool}, allR n p = true → ∀ i, i < n → p i = true
  | 0, _, _, i, hi => by omega
  | n + 1, p, h, i, hi => by
    obtain ⟨h1, h2⟩ := sel_andN (show sel (p n) (allR n p) false = true from h)
    by_cases e : i = n
    · subst e; exact h1
    · exact allR_sound n h2 i (by omega)
theorem getN_zero (a : Nat) (l : List Nat) : getN (a :: l) 0 = a := rfl
theorem getN_succ (a : Nat) (l : List Nat) (i : Nat) : getN (a :: l) (i + 1) = getN l i := rfl
theorem grid_nil (k : List Nat → Bool) : grid [] k = k [] := rfl
theorem grid_cons (b : Nat × Nat) (bs : List (Nat × Nat)) (k : List Nat → Bool) : grid (b :: bs) k = allR (Nat.succ (Nat.sub b.2 b.1)) (fun i => force (resW (Nat.add b.1 i)) fun v => grid bs fun l => k (v :: l)) := rfl
set_option maxRecDepth 100000 in
theorem grid_sound : ∀ (bs : List (Nat × Nat)) (k : List Nat → Bool), grid bs k = true → ∀ X : Nat → Int, (∀ i, i < bs.length → ((bs.getD i (0, 0)).1 : Int) ≤ X i + 549755813888 ∧ X i + 549755813888 ≤ ((bs.getD i (0, 0)).2 : Int)) →
    ∃ l : List Nat, (∀ i, i < bs.length → ((getN l i : Int) - X i) % 18446744073709551616 = 0 ∧ getN l i < 18446744073709551616) ∧ k l = true := by
  intro bs
  induction bs with
  | nil => intro k h X _; exact ⟨[], fun i hi => absurd hi (Nat.not_lt_zero _), by rw [grid_nil] at h; exact h⟩
  | cons b bs ih =>
    intro k h X hb
    rw [grid_cons] at h
    have h0 : (b.1 : Int) ≤ X 0 + 549755813888 ∧ X 0 + 549755813888 ≤ (b.2 : Int) := hb 0 (Nat.zero_lt_succ _)
    have e1 : Nat.sub b.2 b.1 = b.2 - b.1 := rfl
    have h1 := allR_sound _ h ((X 0 + 549755813888).toNat - b.1) (by rw [e1]; omega)
    rw [force_eq] at h1
    obtain ⟨l, hl, hk⟩ := ih _ h1 (fun i => X (i + 1)) (fun i hi => hb (i + 1) (Nat.succ_lt_succ hi))
    refine ⟨_, fun i hi => ?_, hk⟩
    cases i with
    | zero =>
      rw [getN_zero, resW_eq, Nat.add_eq]
      omega
    | succ i => rw [getN_succ]; exact hl i (Nat.lt_of_succ_lt_succ hi)
theorem useful_mem {m : Nat} : ∀ {fs : List FE} {f : FE}, f ∈ useful m fs → f ∈ fs ∧ f.1.ok = true ∧ f.1.low m = true ∧ f.1.num.s + f.1.num.s < 18446744073709551616
  | [], f, h => by cases h
  | g :: fs, f, h => by
    have e : useful m (g :: fs) = sel (sel g.1.ok (sel (g.1.low m) (ltb (Nat.add g.1.num.s g.1.num.s) 18446744073709551616) false) false) (g :: useful m fs) (useful m fs) := rfl
    rw [e, sel_eq] at h
    split at h
    · rename_i hg
      rcases List.mem_cons.1 h with rfl | h
      · obtain ⟨h1, h2⟩ := sel_andN hg
        obtain ⟨h2, h3⟩ := sel_andN h2
        exact ⟨List.mem_cons_self, h1, h2, (ltb_iff _ _).1 h3⟩
      · obtain ⟨a, b⟩ := useful_mem h; exact ⟨List.mem_cons_of_mem _ a, b⟩
    · obtain ⟨a, b⟩ := useful_mem h; exact ⟨List.mem_cons_of_mem _ a, b⟩
theorem anyBad_nil (x : Nat → Nat) : anyBad [] x = false := rfl
theorem anyBad_cons (x : Nat → Nat) (f : FE) (fs : List FE) : anyBad (f :: fs) x = sel (feBad x f) true (anyBad fs x) := rfl
theorem anyBad_ex {x : Nat → Nat} {fs : List FE} : anyBad fs x = true → ∃ f ∈ fs, feBad x f = true := by
  induction fs with
  | nil => intro h; rw [anyBad_nil] at h; exact (Bool.false_ne_true h).elim
  | cons f fs ih =>
    intro h
    rw [anyBad_cons, sel_eq] at h
    split at h
    · rename_i hg; exact ⟨f, List.mem_cons_self, hg⟩
    · obtain ⟨g, hg, hb⟩ := ih h; exact ⟨g, List.mem_cons_of_mem _ hg, hb⟩
/-- the variables lie between bounds -/
def InBox (E : Env) (bs : List (Nat × Nat)) : Prop := ∀ i, i < bs.length → ((bs.getD i (0, 0)).1 : Int) ≤ E.int (pvIx i) + 549755813888 ∧ E.int (pvIx i) + 549755813888 ≤ ((bs.getD i (0, 0)).2 : Int)
set_option maxRecDepth 100000 in
theorem noneB_sound {E : Env} {bs : List (Nat × Nat)} (hb : InBox E bs) {fs : List FE} (h : noneB bs fs = true) : ¬ ∀ f ∈ fs, FeOk E f := by
  intro hf
  obtain ⟨l, hl, hk⟩ := grid_sound bs _ h (fun i => E.int (pvIx i)) hb
  obtain ⟨f, hm, hbad⟩ := anyBad_ex hk
  obtain ⟨m1, m2, m3, m4⟩ := useful_mem hm
  obtain ⟨z, z1, z2, z3, z4, u, z5, z6⟩ := hf f m1
  have S := PX.sound (fun i => E.int (pvIx i)) f.1 m2
  have he : u = f.1.val (fun i => E.int (pvIx i)) := PolyR.same z5 S m4 (by omega)
  obtain ⟨r1, r2⟩ := r64_sound hl f.1 m3
  rw [← he] at r1
  unfold feBad at hbad
  rw [force_eq, sel_eq] at hbad
  rw [bias64_eq] at hbad
  split at hbad
  · rename_i hg
    have := (ltb_iff _ _).1 hg
    omega
  · have := (ltb_iff _ _).1 hbad
    omega
theorem FM.sound (E : Env) {run : List FE → Bool} {bs : List (Nat × Nat)} (hb : InBox E bs) : ∀ (t : FM) (fs : List FE), chkFM run (noneB bs) t fs = true → (∀ f ∈ fs, FeOk E f) → ∃ fs', (∀ f ∈ fs', FeOk E f) ∧ run fs' = true
  | .leaf, fs, h, hf => ⟨fs, hf, h⟩
  | .no, fs, h, hf => absurd hf (noneB_sound hb h)
  | .tri e a b x y z, fs, h, hf => by
    obtain ⟨h1, h2⟩ := sel_andN (show sel (sel e.ok (sel (sel (Nat.ble 1 a) (Nat.ble a b) false) (ltb b 18446744073709551615) false) false)
      (sel (chkFM run (noneB bs) x ((e, 0, Nat.pred a) :: fs)) (sel (chkFM run (noneB bs) y ((e, a, b) :: fs)) (chkFM run (noneB bs) z ((e, Nat.succ b, 18446744073709551615) :: fs)) false) false) false = true from h)
    obtain ⟨k1, k2⟩ := sel_andN h1
    obtain ⟨k3, k4⟩ := sel_andN k2
    obtain ⟨k5, k6⟩ := sel_andN k3
    have k4 := (ltb_iff _ _).1 k4
    have k5 := Nat.le_of_ble_eq_true k5
    have k6 := Nat.le_of_ble_eq_true k6
    obtain ⟨g1, g2⟩ := sel_andN h2
    obtain ⟨g3, g4⟩ := sel_andN g2
    obtain ⟨u, u1, u2, u3⟩ := PX.word E e k1 (by have := PX.deg e k1; omega)
    have ep : Nat.pred a = a - 1 := rfl
    have es : Nat.succ b = b + 1 := rfl
    by_cases c1 : u < (a : Int) - 9223372036854775808
    · exact FM.sound E hb x _ g1 (fun f hm => by
        rcases List.mem_cons.1 hm with rfl | hm
        · exact u3 _ _ (by omega) (by rw [ep]; omega) (by omega) (by rw [ep]; omega)
        · exact hf f hm)
    · by_cases c2 : u ≤ (b : Int) - 9223372036854775808
      · exact FM.sound E hb y _ g3 (fun f hm => by
          rcases List.mem_cons.1 hm with rfl | hm
          · exact u3 _ _ (by omega) (by omega) (by omega) (by omega)
          · exact hf f hm)
      · exact FM.sound E hb z _ g4 (fun f hm => by
          rcases List.mem_cons.1 hm with rfl | hm
          · exact u3 _ _ (by rw [es]; omega) (by omega) (by rw [es]; omega) (by omega)
          · exact hf f hm)
  | .two e a x y, fs, h, hf => by
    obtain ⟨h1, h2⟩ := sel_andN (show sel (sel e.ok (sel (Nat.ble 1 a) (ltb a 18446744073709551616) false) false)
      (sel (chkFM run (noneB bs) x ((e, 0, Nat.pred a) :: fs)) (chkFM run (noneB bs) y ((e, a, 18446744073709551615) :: fs)) false) false = true from h)
    obtain ⟨k1, k2⟩ := sel_andN h1
    obtain ⟨k3, k4⟩ := sel_andN k2
    have k3 := Nat.le_of_ble_eq_true k3
    have k4 := (ltb_iff _ _).1 k4
    obtain ⟨g1, g2⟩ := sel_andN h2
    obtain ⟨u, u1, u2, u3⟩ := PX.word E e k1 (by have := PX.deg e k1; omega)
    have ep : Nat.pred a = a - 1 := rfl
    by_cases c1 : u < (a : Int) - 9223372036854775808
    · exact FM.sound E hb x _ g1 (fun f hm => by
        rcases List.mem_cons.1 hm with rfl | hm
        · exact u3 _ _ (by omega) (by rw [ep]; omega) (by omega) (by rw [ep]; omega)
        · exact hf f hm)
    · exact FM.sound E hb y _ g2 (fun f hm => by
        rcases List.mem_cons.1 hm with rfl | hm
        · exact u3 _ _ (by omega) (by omega) (by omega) (by omega)
        · exact hf f hm)

/-! ### what is drawn, with facts some of which cannot be -/
noncomputable section
def hasR (t : Nat) (ts : List Nat) : Bool := List.rec (motive := fun _ => Bool) false (fun u _ ih => sel (Nat.beq u t) true ih) ts
/-- does the word stand in it? -/
def hasW (t : Nat) (l : List DI) : Bool := List.rec (motive := fun _ => Bool) false (fun x _ ih => sel (DI.rec (motive := fun _ => Bool) (fun u => Nat.beq u t) (fun ts => hasR t ts) false (fun _ _ ts => hasR t ts) x) true ih) l
/-- do all variables stand in it, between their bounds? -/
def boxL (l : List DI) (bs : List (Nat × Nat)) : Nat → Bool := List.rec (motive := fun _ => Nat → Bool) (fun _ => true) (fun b _ ih i => sel (sel (hasW (wV (pvIx i) b.1 b.2) l) (sel (sel (Nat.ble 1 b.1) (Nat.ble 1 b.2) false) (sel (ltb b.1 1099511627776) (ltb b.2 1099511627776) false) false) false) (ih (Nat.succ i)) false) bs
end
theorem hasR_inv {t : Nat} : ∀ {ts : List Nat}, hasR t ts = true → ∃ i, i < ts.length ∧ ts.getD i 0 = t := by
  intro ts
  induction ts with
  | nil => intro h; cases h
  | cons u ts ih =>
    intro h
    have e : hasR t (u :: ts) = sel (Nat.beq u t) true (hasR t ts) := rfl
    rw [e, sel_beq] at h
    split at h
    · rename_i hu; exact ⟨0, Nat.zero_lt_succ _, hu⟩
    · obtain ⟨i, h1, h2⟩ := ih h; exact ⟨i + 1, Nat.succ_lt_succ h1, h2⟩
theorem DRow.has {E : Env} {s : Nat} {W : World} {rb d cp t : Nat} {ts : List Nat} (h : DRow E s W rb d cp ts) (ht : hasR t ts = true) : ∃ v, HoldsT E t v := by
  obtain ⟨h1, h2, h3, cs, ty, h4, h5, h6⟩ := h
  obtain ⟨i, hi, e⟩ := hasR_inv ht
  obtain ⟨u, _, b⟩ := h6 i hi
  rw [e] at b
  exact ⟨u, b⟩
theorem NewItems.has {E : Env} {s : Nat} {W : World} {t : Nat} {l : List DI} {vs : List Value} {bs : List Nat} (h : NewItems E s W l vs bs) (ht : hasW t l = true) : ∃ v, HoldsT E t v := by
  induction h with
  | nil => cases ht
  | cell t' v l vs bs h1 _ ih =>
    have e : hasW t (.cell t' :: l) = sel (Nat.beq t' t) true (hasW t l) := rfl
    rw [e, sel_beq] at ht
    split at ht
    · rename_i hu; subst hu; exact ⟨v, h1⟩
    · exact ih ht
  | emp a l vs bs _ ih =>
    have e : hasW t (.emp :: l) = sel false true (hasW t l) := rfl
    rw [e, sel_false] at ht
    exact ih ht
  | row ts rb d cp l vs bs h1 h2 h3 _ ih =>
    have e : hasW t (.row ts :: l) = sel (hasR t ts) true (hasW t l) := rfl
    rw [e, sel_eq] at ht
    split at ht
    · rename_i hu; exact h2.has hu
    · exact ih ht
  | sum t1 t2 v1 v2 ts rb d cp l vs bs h1 h2 h3 h4 h5 _ ih =>
    have e : hasW t (.sum t1 t2 ts :: l) = sel (hasR t ts) true (hasW t l) := rfl
    rw [e, sel_eq] at ht
    split at ht
    · rename_i hu; exact h4.has hu
    · exact ih ht
theorem boxL_inv {l : List DI} : ∀ {bs : List (Nat × Nat)} {k : Nat}, boxL l bs k = true → ∀ i, i < bs.length → hasW (wV (pvIx (k + i)) (bs.getD i (0, 0)).1 (bs.getD i (0, 0)).2) l = true ∧ 1 ≤ (bs.getD i (0, 0)).1 ∧ 1 ≤ (bs.getD i (0, 0)).2 ∧ (bs.getD i (0, 0)).1 < 1099511627776 ∧ (bs.getD i (0, 0)).2 < 1099511627776 := by
  intro bs
  induction bs with
  | nil => intro k _ i hi; exact absurd hi (Nat.not_lt_zero _)
  | cons b bs ih =>
    intro k h i hi
    have e : boxL l (b :: bs) k = sel (sel (hasW (wV (pvIx k) b.1 b.2) l) (sel (sel (Nat.ble 1 b.1) (Nat.ble 1 b.2) false) (sel (ltb b.1 1099511627776) (ltb b.2 1099511627776) false) false) false) (boxL l bs (Nat.succ k)) false := rfl
    rw [e] at h
    obtain ⟨h1, h2⟩ := sel_andN h
    cases i with
    | zero =>
      obtain ⟨g1, g2⟩ := sel_andN h1
      obtain ⟨g3, g4⟩ := sel_andN g2
      obtain ⟨g5, g6⟩ := sel_andN g3
      obtain ⟨g7, g8⟩ := sel_andN g4
      exact ⟨g1, Nat.le_of_ble_eq_true g5, Nat.le_of_ble_eq_true g6, (ltb_iff _ _).1 g7, (ltb_iff _ _).1 g8⟩
    | succ i =>
      have := ih h2 i (Nat.lt_of_succ_lt_succ hi)
      rw [show Nat.succ k + i = k + (i + 1) from by omega] at this
      exact this
theorem var_bounds {E : Env} {j lo hi : Nat} (b1 : lo < 1099511627776) (b2 : hi < 1099511627776) (b3 : 1 ≤ lo) (b4 : 1 ≤ hi) {v : Value} (hv : HoldsT E (wV j lo hi) v) : (lo : Int) - 549755813888 ≤ E.int j ∧ E.int j ≤ (hi : Int) - 549755813888 := by
  obtain ⟨j', l', h', q1, q2, q3, q4, e1, e2⟩ := hv.1.var_inv (tag_wV _ _ _)
  obtain ⟨x1, x2, x3⟩ := v_parts j lo hi b1 b2
  obtain ⟨y1, y2, y3⟩ := v_parts j' l' h' q1 q2
  rw [e1] at x1 x2 x3
  have z1 : h' = hi := y1.symm.trans x1
  have z2 : l' = lo := y2.symm.trans x2
  have z3 : j' = j := y3.symm.trans x3
  rw [z1] at q4
  rw [z2] at q3
  rw [z3] at q3 q4
  exact ⟨by rcases q3 with q | q <;> omega, by rcases q4 with q | q <;> omega⟩
/-- The law's runs on something that is drawn are well: on itself, with facts some of which cannot be. -/
inductive GoodM (P : Program) (S0 : Sums) (fd : Nat) (one : Bool) (j0 fuel d f : Nat) : List DI → Prop
  | run {l : List DI} (h : FtOk (drewRunF P S0 fd one j0 l fuel d f)) : GoodM P S0 fd one j0 fuel d f l
  | part {l : List DI} (i lo hi : Nat) (ps : List (Nat × Nat)) (hi40 : i < 40) (hb : lo < 1099511627776 ∧ hi < 1099511627776 ∧ 0 < lo ∧ 0 < hi ∧ lo ≤ hi) (hc : covB hi ps lo = true) (h : ∀ q ∈ ps, GoodM P S0 fd one j0 fuel d f (subL (wV (pvIx i) lo hi) (pieceW i q) l)) : GoodM P S0 fd one j0 fuel d f l
  | box {l : List DI} (bs : List (Nat × Nat)) (hb : boxL l bs 0 = true) (t : FM) (ht : chkFM (drewRunF P S0 fd one j0 l fuel d f) (noneB bs) t [] = true) (l0 : List DI) (h0 : drewRunF P S0 fd one j0 l0 fuel d f [] = true) : GoodM P S0 fd one j0 fuel d f l
theorem GoodM.fin {E : Env} {P : Program} {S0 : Sums} {fd j0 fuel d f : Nat} {one : Bool} {l : List DI} (h : GoodM P S0 fd one j0 fuel d f l) (K : DrawnK E P fd one l j0) : ∃ l' fs, (∀ f ∈ fs, FeOk E f) ∧ drewRunF P S0 fd one j0 l' fuel d f fs = true ∧ DrawnK E P fd one l' j0 := by
  induction h with
  | run h =>
    obtain ⟨t, ht⟩ := h
    obtain ⟨fs, h1, h2⟩ := FT.sound E t [] ht (fun f h => absurd h (List.not_mem_nil))
    exact ⟨_, fs, h1, h2, K⟩
  | part i lo hi ps h1 h2 h3 _ ih =>
    obtain ⟨q, hq, K'⟩ := K.part h1 h2 h3
    exact ih q hq K'
  | box bs hb t ht l0 h0 =>
    by_cases hin : InBox E bs
    · obtain ⟨fs, h1, h2⟩ := FM.sound E hin t [] ht (fun f h => absurd h (List.not_mem_nil))
      exact ⟨_, fs, h1, h2, K⟩
    · refine ⟨l0, [], fun f h => absurd h (List.not_mem_nil), h0, K.known, ?_⟩
      intro w rb d sz c cs ty fz a1 a2 a3 a4 a5 a6 a7 a8
      refine (K.calls w rb d sz c cs ty fz a1 a2 a3 a4 a5 a6 a7 a8).mono ?_
      rintro e w' ⟨x, vs, bs', he, hn, ho, h0, hbl⟩
      refine absurd (fun i hi => ?_) hin
      have hb := boxL_inv hb i hi
      rw [Nat.zero_add] at hb
      obtain ⟨g1, g2, g3, g4, g5⟩ := hb
      obtain ⟨v, hv⟩ := hn.has g1
      have := var_bounds g4 g5 g2 g3 hv
      omega
def DrawnM (P : Program) (S0 : Sums) (fd : Nat) (one : Bool) (j0 : Nat) (fuel d f : Nat) (r : OR) : Prop := ∃ l, GoodM P S0 fd one j0 fuel d f l ∧ isDrew one l r = true
theorem CoversG.drewM {P : Program} {S0 : Sums} {fd : Nat} {one : Bool} {j0 fuel d f : Nat} {ls : List (List DI)} {run : Tab → OR} {tab : Tab} (h : CoversP (anyDrew one ls) run tab) (hl : AllI (GoodM P S0 fd one j0 fuel d f) ls) : CoversG (DrawnM P S0 fd one j0 fuel d f) run tab :=
  .of h fun r hr => by
    obtain ⟨l, hm, h1⟩ := anyDrew_inv hr
    exact ⟨l, hl.mem l hm, h1⟩
/-- ██ The walk of a law on a code, out of what is drawn and its runs with facts, some of which cannot be. -/
theorem drawn_walkM {P : Program} {S0 S1 : Sums} (hS0 : Always P S0) (hS1 : Always P S1) {fo fp tS fuel d f fd fuel1 d1 len cap : Nat} {one : Bool} (K : DrawK P fo fp tS) {w : World} {a : Option Addr} {zs : List Int}
    (w0 : (a = none ∧ len = 0 ∧ cap = 0 ∧ zs = []) ∨ ∃ x, a = some x ∧ len ≤ cap ∧ cap ≤ maxLen ∧ zs.length = cap ∧ (∀ i, i < zs.length → w.cell? (x.add i) = some (.int .u8 (zs.getD i 0))) ∧ ∀ n ∈ zs, (Lit.int .u8 n).wf = true)
    (hn : isTrue (nilRun P S0 fo fp fuel d f) = true) (hz : isTrue (zeroRun P S0 fo fp fuel d f) = true) (h0 : isTrue (emptyRun P S0 fo fp fuel d f) = true) (h2 : isTrue (longRun P S0 fo fp fuel d f) = true)
    (h1 : CoversG (DrawnM P S0 fd one 0 fuel d f) (dRun P S1 fo fp fuel1 d1 fd 0) []) :
    Calls P f #[.slice a len cap] w fun e w' => e = .returned (.bool true) ∧ Below w.heap.size w w' := by
  rcases w0 with ⟨rfl, rfl, rfl, rfl⟩ | ⟨x, rfl, hl, hm, hzl, hcell, hwz⟩
  · exact code_nil hS0 K hn
  by_cases hc0 : cap = 0
  · subst hc0
    obtain rfl : len = 0 := by omega
    exact code_zero hS0 K hz
  unfold maxLen at hm
  have hrow : RowOf .u8 w x cap zs := ⟨hzl, hcell⟩
  have hb : ∀ z ∈ zs, 0 ≤ z ∧ z ≤ 255 := fun z hz => wf_byte (hwz z hz)
  obtain ⟨hsp, cs, ty, fz, hh, hsz, hall⟩ := hrow.block (by omega)
  have hx : x = ⟨x.block, x.off, none⟩ := by
    cases x with
    | mk b o s => simp at hsp ⊢; exact hsp
  have hrb : x.block < w.heap.size := (Array.getElem?_eq_some_iff.1 hh).1
  by_cases hl0 : len = 0
  · subst hl0
    letI : Env := anyEnv
    have c := (Ctx.start w).arg (nb := 0) (ch := 0) (sz := cap) (d := x.off) (by omega) hh hrb hsz (by omega) (by intro i hi; omega)
    refine run_true (orS_sound (draw_any K) (hS0 _)) c (.cons _ _ _ _ ?_ .nil) h0
    exact .slice 0 1 0 0 0 x.block x.off cap cap x (updR_same _ _ _) (by omega) (by omega) (by omega) (by omega) (by omega) (by omega) (.inl rfl) (.inr ⟨hx, by omega⟩)
  · have hcl : (zs.take len).length = len := by simp; omega
    have hcb : ∀ z ∈ zs.take len, 0 ≤ z ∧ z ≤ 255 := fun z hz => hb z (List.mem_of_mem_take hz)
    by_cases hlong : 1048576 < len
    · letI E : Env := codeEnv (zs.take len) (by omega)
      have hE : DrawE (zs.take len) 0 := codeEnv_ok (by omega) hcb (by omega) rfl
      have he : (E.lst 0).length = len := by rw [hE.l0, List.length_map, hcl]
      have c := (Ctx.start w).opq (j := 0) (sz := cap) (d := x.off) (by omega) hh hrb hsz (by omega) (fun i hi => by
        rw [hall i (by omega), hE.l0, List.getElem?_map]
        have hi2 : i < (zs.take len).length := by omega
        rw [List.getElem?_eq_getElem hi2]
        have hi3 : i < zs.length := by omega
        simp [List.getD_eq_getElem?_getD, hi3])
      refine run_true (orS_sound (drawS_sound K hE tabOk_nil) (hS0 _)) c (.cons _ _ _ _ ?_ .nil) h2
      have := VR.opq (ρ := updR (fun _ => none) 0 (x.block, x.off, cap)) (L := upd (fun _ => none) 0 (.opq 0 1)) 0 0 1048577 0 x.block x.off cap cap (updR_same _ _ _) (by omega) (by omega) (by omega) (by rw [he]; omega) (.inl rfl) (by rw [he]; exact hl) (by omega) (by omega)
      rw [he, ← hx] at this
      exact this
    · have hE : @DrawE (codeEnv (zs.take len) (by omega)) (zs.take len) 0 := codeEnv_ok (by omega) hcb (by omega) rfl
      refine h1 (codeEnv (zs.take len) (by omega)) (zs.take len) _ hE (by omega) (@tabOk_nil (codeEnv (zs.take len) (by omega))) _ fun E' hl' hE' tab hT ⟨l, hg, hd⟩ => ?_
      obtain ⟨y, hy, KD⟩ := drawn_of (hS1 E') K (by omega) hE' hT hd
      letI E2 : Env := pvEnv E' y hy
      obtain ⟨l', fs, hfs, hrun, KD'⟩ := hg.fin KD
      obtain ⟨hlen, hrun⟩ := sel_and hrun
      have hlen := (ltb_iff _ _).1 hlen
      obtain ⟨L0, c0, _⟩ := put_fe fs 0 .nil _ _ w.heap.size w (Ctx.start w) (by omega) hfs
      rw [Nat.zero_add] at c0
      obtain ⟨ρ, L, c1, hv⟩ := put_code (j0 := 0) c0 (by omega) hx hh hrb hsz hall hzl hl (by omega) (@DrawE.l0 E' _ _ hE') (by omega) (by omega) (by omega)
      exact run_true (orS_sound (drewS_sound KD') (hS0 _)) c1 (.cons _ _ _ _ hv .nil) hrun
end Go.Eng
