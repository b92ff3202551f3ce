/- Laws on two sums, on a sum and an int, on a sum and a point: the walks. -/
import Derived.Test.YtnglbchhlpbgkaaEngZh
namespace Go.Eng
set_option linter.unusedSectionVars false
set_option linter.unusedSimpArgs false
set_option linter.unusedVariables false
open Go Go.RowKit

/-! ### facts: what is known beforehand of sums of products -/
theorem PolyR.up {x : Nat → Int} {p s d : Nat} {z : Int} (h : PolyR x p 0 s d z) (h1 : d % 8 ≤ 1) (h2 : d / 8 ≤ 1) : PolyR x p 0 s 73 z := by
  have := h.add (PolyR.const (x := x) (s := 0) (p := 0) (n := 0) 0 (by decide) (by decide)) (D := 73) ⟨by omega, by omega⟩ ⟨by omega, by omega⟩
  simpa using this
/-- bounds of an int of 64 bits -/
def inF : Nat × Nat := (9223372036853775808, 9223372036855775808)
def upF : Nat × Nat := (9223372036855775809, 9223373036854775808)
def lowF : Nat × Nat := (9223371036854775808, 9223372036853775807)
def FitsF (b : Nat × Nat) (z : Int) : Prop := b.1 < 18446744073709551616 ∧ b.2 < 18446744073709551616 ∧ (b.1 : Int) - 9223372036854775808 ≤ z ∧ z ≤ (b.2 : Int) - 9223372036854775808
theorem fact_add [E : Env] {i j : Nat} {b : Nat × Nat} (hi : pvOk i = true) (hj : pvOk j = true) (di : pvDeg i = 8) (dj : pvDeg j = 8) (hz : FitsF b (E.int (pvIx i) + E.int (pvIx j))) :
    ∃ z, PolyZ (Nat.add (pvPow i) (pvPow j)) 0 2 73 b.1 b.2 z := by
  have h1 := PolyR.var (x := fun i => E.int (pvIx i)) hi
  have h2 := PolyR.var (x := fun i => E.int (pvIx i)) hj
  have h3 := h1.add h2 (D := 8) (by rw [di]; decide) (by rw [dj]; decide)
  exact ⟨_, hz.1, hz.2.1, hz.2.2.1, hz.2.2.2, _, PolyR.up h3 (by decide) (by decide), by omega⟩
theorem fact_mul [E : Env] {i j : Nat} {b : Nat × Nat} (hi : pvOk i = true) (hj : pvOk j = true) (di : pvDeg i = 1) (dj : pvDeg j = 8) (hz : FitsF b (E.int (pvIx i) * E.int (pvIx j))) :
    ∃ z, PolyZ (Nat.mul (pvPow i) (pvPow j)) 0 1 73 b.1 b.2 z := by
  have h1 := PolyR.var (x := fun i => E.int (pvIx i)) hi
  have h2 := PolyR.var (x := fun i => E.int (pvIx i)) hj
  have h3 := h1.mul h2 (by rw [di, dj]; decide) (by rw [di, dj]; decide)
  rw [di, dj] at h3
  have h4 : PolyR (fun i => E.int (pvIx i)) (pvPow i * pvPow j) 0 1 9 (E.int (pvIx i) * E.int (pvIx j)) := by simpa using h3
  exact ⟨_, hz.1, hz.2.1, hz.2.2.1, hz.2.2.2, _, PolyR.up h4 (by decide) (by decide), by omega⟩

/-- Which numbers of a result are in range: all; so many, and then one that isn't. -/
inductive OC where
  | all
  | bad (p : Nat) (up : Bool)
noncomputable section
def selF (up : Bool) : Nat × Nat := Bool.rec (motive := fun _ => Nat × Nat) lowF upF up
/-- facts on the first m places: in range -/
def inFs (P : Nat → Nat) (s m : Nat) : List (Nat × Nat × Nat × Nat) := Nat.rec (motive := fun _ => List (Nat × Nat × Nat × Nat)) [] (fun i ih => (P i, s, inF.1, inF.2) :: ih) m
def OC.facts (o : OC) (P : Nat → Nat) (s n : Nat) : List (Nat × Nat × Nat × Nat) :=
  OC.rec (motive := fun _ => List (Nat × Nat × Nat × Nat)) (inFs P s n) (fun p up => (P p, s, (selF up).1, (selF up).2) :: inFs P s p) o
def ocBads (m : Nat) : List OC := Nat.rec (motive := fun _ => List OC) [] (fun m ih => .bad m false :: .bad m true :: ih) m
def ocs (n : Nat) : List OC := .all :: ocBads n
def OC.len (o : OC) (n : Nat) : Nat := OC.rec (motive := fun _ => Nat) n (fun p _ => Nat.succ p) o
end
theorem inFs_len (P : Nat → Nat) (s : Nat) : ∀ m, (inFs P s m).length = m
  | 0 => rfl
  | m + 1 => by
    have e : inFs P s (m + 1) = (P m, s, inF.1, inF.2) :: inFs P s m := rfl
    rw [e, List.length_cons, inFs_len P s m]
theorem OC.facts_len (o : OC) (P : Nat → Nat) (s n : Nat) : (o.facts P s n).length = o.len n := by
  cases o with
  | all => exact inFs_len P s n
  | bad p up =>
    have e : (OC.bad p up).facts P s n = (P p, s, (selF up).1, (selF up).2) :: inFs P s p := rfl
    rw [e, List.length_cons, inFs_len]; rfl
theorem inFs_mem {P : Nat → Nat} {s : Nat} {f : Nat × Nat × Nat × Nat} : ∀ {m : Nat}, f ∈ inFs P s m → ∃ i, i < m ∧ f = (P i, s, inF.1, inF.2)
  | 0, h => by cases h
  | m + 1, h => by
    have e : inFs P s (m + 1) = (P m, s, inF.1, inF.2) :: inFs P s m := rfl
    rw [e] at h
    rcases List.mem_cons.1 h with h | h
    · exact ⟨m, by omega, h⟩
    · obtain ⟨i, hi, h⟩ := inFs_mem h
      exact ⟨i, by omega, h⟩
theorem ocBads_mem {p : Nat} (b : Bool) : ∀ {m : Nat}, p < m → OC.bad p b ∈ ocBads m
  | 0, h => by omega
  | m + 1, h => by
    have e : ocBads (m + 1) = .bad m false :: .bad m true :: ocBads m := rfl
    rw [e]
    by_cases hp : p = m
    · subst hp; cases b <;> simp
    · have := ocBads_mem b (m := m) (p := p) (by omega)
      simp [this]
/-- the class of a result, and what is known of it -/
theorem OC.of (n : Nat) (v : Nat → Int) (hb : ∀ i, i < n → -1000000000000 ≤ v i ∧ v i ≤ 1000000000000) (P : Nat → Nat) (s : Nat) (Q : Nat × Nat × Nat × Nat → Prop) (hQ : ∀ i b, i < n → FitsF b (v i) → Q (P i, s, b.1, b.2)) :
    ∃ o ∈ ocs n, (∀ f ∈ o.facts P s n, Q f) ∧ o.len n ≤ n := by
  have fin : ∀ z : Int, -1000000 ≤ z → z ≤ 1000000 → FitsF inF z := fun z h1 h2 => by
    refine ⟨by decide, by decide, ?_, ?_⟩ <;> simp only [inF] <;> omega
  by_cases hex : ∃ p, p < n ∧ ¬ (-1000000 ≤ v p ∧ v p ≤ 1000000)
  · have : ∃ p, p < n ∧ (∀ i, i < p → -1000000 ≤ v i ∧ v i ≤ 1000000) ∧ ¬ (-1000000 ≤ v p ∧ v p ≤ 1000000) := by
      obtain ⟨p, hp⟩ := hex
      induction p using Nat.strongRecOn with
      | _ p ih =>
        by_cases hq : ∃ i, i < p ∧ ¬ (-1000000 ≤ v i ∧ v i ≤ 1000000)
        · obtain ⟨i, hi, hz⟩ := hq
          exact ih i hi ⟨by omega, hz⟩
        · refine ⟨p, hp.1, fun i hi => ?_, hp.2⟩
          by_cases hz : -1000000 ≤ v i ∧ v i ≤ 1000000
          · exact hz
          · exact absurd ⟨i, hi, hz⟩ hq
    obtain ⟨p, hp, hin, hout⟩ := this
    have hpb := hb p hp
    have hsel : ∃ up : Bool, FitsF (selF up) (v p) := by
      by_cases hup : 1000000 < v p
      · refine ⟨true, by decide, by decide, ?_, ?_⟩
        · show ((9223372036855775809 : Nat) : Int) - _ ≤ _; omega
        · show _ ≤ ((9223373036854775808 : Nat) : Int) - _; omega
      · refine ⟨false, by decide, by decide, ?_, ?_⟩
        · show ((9223371036854775808 : Nat) : Int) - _ ≤ _; omega
        · show _ ≤ ((9223372036853775807 : Nat) : Int) - _; omega
    obtain ⟨up, hup⟩ := hsel
    refine ⟨.bad p up, List.mem_cons_of_mem _ (ocBads_mem up hp), fun f hf => ?_, hp⟩
    have e : (OC.bad p up).facts P s n = (P p, s, (selF up).1, (selF up).2) :: inFs P s p := rfl
    rw [e] at hf
    rcases List.mem_cons.1 hf with rfl | hf
    · exact hQ p _ hp hup
    · obtain ⟨i, hi, rfl⟩ := inFs_mem hf
      exact hQ i inF (by omega) (fin _ (hin i hi).1 (hin i hi).2)
  · refine ⟨.all, List.mem_cons_self, fun f hf => ?_, Nat.le_refl _⟩
    obtain ⟨i, hi, rfl⟩ := inFs_mem (show f ∈ inFs P s n from hf)
    have : -1000000 ≤ v i ∧ v i ≤ 1000000 := by
      by_cases hz : -1000000 ≤ v i ∧ v i ≤ 1000000
      · exact hz
      · exact absurd ⟨i, hi, hz⟩ hex
    exact hQ i inF hi (fin _ this.1 this.2)

/-! ### a sum and an int -/
/-- An int that comes in as a factor: in range, below, above. -/
inductive KC where
  | mid
  | low
  | up
noncomputable section
def KC.word (c : KC) : Nat := KC.rec (motive := fun _ => Nat) (wV (pvIx 0) bIn.1 bIn.2) (wV (pvIx 0) bLow.1 bLow.2) (wV (pvIx 0) bUp.1 bUp.2) c
def KC.Fits (c : KC) (z : Int) : Prop := KC.rec (motive := fun _ => Prop) (-1000000 ≤ z ∧ z ≤ 1000000) (z < -1000000) (1000000 < z) c
def kcs : List KC := [.mid, .low, .up]
/-- the products of the factor and the numbers -/
def mulPz (i : Nat) : Nat := Nat.mul (pvPow 0) (pvPow (Nat.add 8 i))
def addP (i : Nat) : Nat := Nat.add (pvPow (Nat.add 8 i)) (pvPow (Nat.add 24 i))
def sumInt (P : Program) (S0 : Sums) (F : Fns) (G : SFns) (fuel d f k e : Nat) (c : KC) : OR := sRun P S0 F G (fun _ _ => 0) fuel d f [mk 6 1, c.word] ((MC.sum k e).heap 0 0 false .nil) 2
def sumIntO (P : Program) (S0 : Sums) (F : Fns) (G : SFns) (fuel d f k e : Nat) (o : OC) : OR :=
  sRun P S0 F G (fun _ _ => 0) fuel d f [mk 6 (Nat.succ (o.len (npS e))), KC.word .mid] ((MC.sum k e).heap 0 (o.len (npS e)) false (factH (o.facts mulPz 1 (npS e)) 0 .nil)) (Nat.succ (Nat.succ (o.len (npS e))))
def noInt (P : Program) (S0 : Sums) (F : Fns) (G : SFns) (fuel d f : Nat) (c : MC) (r : RC) (k : KC) : OR := sRun P S0 F G (R1 (c.j 0) (r.word 0)) fuel d f [mk 6 1, k.word] (c.heap 0 0 r.isLong .nil) 2
end
theorem KC.of (z : Int) : ∃ c ∈ kcs, c.Fits z := by
  by_cases h1 : z < -1000000
  · exact ⟨.low, by simp [kcs], h1⟩
  · by_cases h2 : 1000000 < z
    · exact ⟨.up, by simp [kcs], h2⟩
    · exact ⟨.mid, by simp [kcs], by show _ ∧ _; omega⟩
theorem KC.put [E : Env] {ρ : Rho} {L : Look} {c : KC} {z : Int} (hf : c.Fits z) (he : E.int (pvIx 0) = z) : VR ρ L c.word (.int .i64 z) := by
  cases c with
  | mid =>
    have hf : -1000000 ≤ z ∧ z ≤ 1000000 := hf
    rw [← he]
    exact .var _ _ _ (by decide) (by decide) (.inr (by rw [he]; show ((549754813888 : Nat) : Int) - _ ≤ _; omega)) (.inr (by rw [he]; show _ ≤ ((549756813888 : Nat) : Int) - _; omega))
  | low =>
    have hf : z < -1000000 := hf
    rw [← he]
    exact .var _ _ _ (by decide) (by decide) (.inl rfl) (.inr (by rw [he]; show _ ≤ ((549754813887 : Nat) : Int) - _; omega))
  | up =>
    have hf : 1000000 < z := hf
    rw [← he]
    exact .var _ _ _ (by decide) (by decide) (.inr (by rw [he]; show ((549756813889 : Nat) : Int) - _ ≤ _; omega)) (.inl rfl)

theorem pv_rows {i : Nat} (h : i < 11) : pvOk (8 + i) = true ∧ pvDeg (8 + i) = 8 ∧ pvOk (24 + i) = true ∧ pvDeg (24 + i) = 8 := by
  have : i = 0 ∨ i = 1 ∨ i = 2 ∨ i = 3 ∨ i = 4 ∨ i = 5 ∨ i = 6 ∨ i = 7 ∨ i = 8 ∨ i = 9 ∨ i = 10 := by omega
  rcases this with h | h | h | h | h | h | h | h | h | h | h <;> rw [h] <;> exact ⟨by decide, by decide, by decide, by decide⟩
theorem mul_range {a b : Int} (h1 : -1000000 ≤ a ∧ a ≤ 1000000) (h2 : -1000000 ≤ b ∧ b ≤ 1000000) : -1000000000000 ≤ a * b ∧ a * b ≤ 1000000000000 := by
  have h3 : (a * b).natAbs ≤ 1000000 * 1000000 := by
    rw [Int.natAbs_mul]
    exact Nat.mul_le_mul (by omega) (by omega)
  omega

/-- ██ The walk of a law on a sum and an int, out of its runs. -/
theorem sumint_walk {P : Program} {S0 : Sums} (hS0 : Always P S0) {F : Fns} {G : SFns} {tInt fuel dd f : Nat} (K : ListK P F.to F.eq F.mark F.inn F.of tInt) (KS : SumK P G.sz G.inn G.of G.gcd) {w : World}
    {s : ByteArray} {d : Int} {a : Option Addr} {len cap : Nat} {l : List Int} (h : SumArg w s d a len cap l) {z : Int} (hz : (Lit.int .i64 z).wf = true)
    (h1 : ∀ k ∈ ks5, ∀ e ∈ degs7, ∀ c ∈ [KC.low, KC.up], isTrue (sumInt P S0 F G fuel dd f k e c) = true) (h2 : ∀ k ∈ ks5, ∀ e ∈ degs7, ∀ o ∈ ocs (npS e), isTrue (sumIntO P S0 F G fuel dd f k e o) = true)
    (h3 : ∀ c ∈ mNo, ∀ r ∈ rooms, ∀ k ∈ kcs, isTrue (noInt P S0 F G fuel dd f c r k) = true) :
    Calls P f #[.agg #[.string s, .int .i64 d, .slice a len cap], .int .i64 z] w fun e w' => e = .returned (.bool true) ∧ Below w.heap.size w w' := by
  have hzr : Rng z := wf_i64 hz
  obtain ⟨kc, hkc, hkf⟩ := KC.of z
  rcases MC.of s d w a len cap l h.row with ⟨k, hk, e, he, hf⟩ | ⟨c, hc, hf⟩
  · have ok : (oneT (.sum k e) s d l 0 (fun _ => z) [7]).Ok := oneT_ok h rng0 (fun _ => hzr) seven_rng
    letI E : Env := Two.env _ ok
    have hE := Two.sumE ok (a0 := a) (cap0 := cap) hf dummy_fits
    have hnp := npS_bound he
    have hll := hf.2.2.2.2.1
    have hpz : E.int (pvIx 0) = z := Two.ePv ok (by omega)
    have sums : SumS P (orS (orS F.S (sumsS (fun _ _ => 0) G.sz G.inn G.of G.gcd)) S0) := orS_sound (orS_sound (listS_sound K hE.lst) (sumsS_sound KS hE (fun j lw _ h0 => absurd rfl h0))) (hS0 _)
    by_cases hmid : kc = .mid
    · subst hmid
      have hkf : -1000000 ≤ z ∧ z ≤ 1000000 := hkf
      obtain ⟨o, ho, hof, hol⟩ := OC.of (npS e) (fun i => z * nth l i) (fun i hi => mul_range hkf (hf.2.2.2.2.2 i (by omega))) mulPz 1 (fun f => ∃ z, PolyZ f.1 0 f.2.1 73 f.2.2.1 f.2.2.2 z) (fun i b hi hb => by
        have hr := pv_rows (i := i) (by omega)
        have hv : E.int (pvIx (8 + i)) = nth l i := by
          have := (Two.facts0 ok).pv i (by omega)
          rw [show 8 + 16 * 0 + i = 8 + i from by omega] at this
          exact this
        exact fact_mul (i := 0) (j := 8 + i) (by decide) hr.1 (by decide) hr.2.1 (by rw [hpz, hv]; exact hb))
      have hfl := o.facts_len mulPz 1 (npS e)
      obtain ⟨L0, c0, _⟩ := put_facts (o.facts mulPz 1 (npS e)) 0 .nil _ _ w.heap.size w (Ctx.start w) (by rw [hfl]; omega) hof
      rw [hfl, Nat.zero_add] at c0
      obtain ⟨ρ, L, c, _, hv⟩ := MC.put (q := 0) (long := false) c0 (by omega) (by omega) h.row hf (Two.facts0 ok) (fun _ => by omega)
      exact run_true sums c (.cons _ _ _ _ hv (.cons _ _ _ _ (KC.put (c := .mid) hkf hpz) .nil)) (h2 k (ks5_mem hk) e (degs7_mem he) o ho)
    · obtain ⟨ρ, L, c, _, hv⟩ := MC.put (q := 0) (n := 0) (long := false) (Ctx.start w) (by omega) (by omega) h.row hf (Two.facts0 ok) (fun _ => by omega)
      refine run_true sums c (.cons _ _ _ _ hv (.cons _ _ _ _ (KC.put hkf hpz) .nil)) (h1 k (ks5_mem hk) e (degs7_mem he) kc ?_)
      cases kc with
      | mid => exact absurd rfl hmid
      | low => simp
      | up => simp
  · have hlen : (1048576 : Int) ≤ 1048576 := Int.le_refl _
    obtain ⟨r, hrm, hr⟩ := RC.of (a := s.size) (b := l.length) hlen
    have ok : (oneT c s d l (szZ 1048576 s.size l.length) (fun _ => z) [7]).Ok := oneT_ok h (szZ_rng hlen) (fun _ => hzr) seven_rng
    letI E : Env := Two.env _ ok
    have hE := Two.sumE ok (a0 := a) (cap0 := cap) hf dummy_fits
    have hcs := mNo_sum hc
    have hpz : E.int (pvIx 0) = z := Two.ePv ok (by omega)
    obtain ⟨ρ, L, cx, _, hv⟩ := MC.put (q := 0) (n := 0) (long := r.isLong) (Ctx.start w) (by omega) (by omega) h.row hf (Two.facts0 ok) (RC.long_of hlen hr)
    refine run_true (orS_sound (orS_sound (listS_sound K hE.lst) (sumsS_sound KS hE (R := R1 (c.j 0) (r.word 0)) (fun j lw _ h0 => ?_))) (hS0 _)) cx (.cons _ _ _ _ hv (.cons _ _ _ _ (KC.put hkf hpz) .nil)) (h3 c hc r hrm kc hkc)
    unfold R1 at h0 ⊢
    rw [sel_beq, sel_beq] at h0 ⊢
    by_cases hj : j = c.j 0
    · rw [if_pos hj] at h0 ⊢
      by_cases hw : lw = wI 1048576
      · rw [if_pos hw]
        subst hj
        exact R1_ok ok hcs rfl rfl rfl rfl hr lw hw
      · rw [if_neg hw] at h0; exact absurd rfl h0
    · rw [if_neg hj] at h0; exact absurd rfl h0

/-! ### a sum and a point -/
noncomputable section
def sptRun (P : Program) (S0 : Sums) (F : Fns) (G : SFns) (fi fo : Nat) (R : Nat → Nat → Nat) (fuel d f : Nat) (args : List Nat) (H : Trie) (n : Nat) : OR := funE P (callN P (orS (orS (orS F.S (pointS fi fo)) (sumsS R G.sz G.inn G.of G.gcd)) S0) fuel d) fuel f args H n
def sumPt (P : Program) (S0 : Sums) (F : Fns) (G : SFns) (fi fo fuel d f k e : Nat) (x : PCls) : OR :=
  sptRun P S0 F G fi fo (fun _ _ => 0) fuel d f [mk 6 1, x.word 2 8] (x.heap 2 8 ((MC.sum k e).heap 0 0 false .nil)) (x.next 2)
def noPt (P : Program) (S0 : Sums) (F : Fns) (G : SFns) (fi fo fuel d f : Nat) (c : MC) (r : RC) (x : PCls) : OR :=
  sptRun P S0 F G fi fo (R1 (c.j 0) (r.word 0)) fuel d f [mk 6 1, x.word 2 8] (x.heap 2 8 (c.heap 0 0 r.isLong .nil)) (x.next 2)
end
theorem R1_okq {t : Two} (ok : t.Ok) {r : RC} {q : Nat} {s : ByteArray} {l : List Int} (hc : t.c0.isSum = false) (hs : t.s0 = s) (hl : t.l0 = l) (hr : r.Fits (szZ 1048576 s.size l.length)) (hq : (t.env ok).int (950 + q) = szZ 1048576 s.size l.length) :
    letI := t.env ok
    ∀ (j lw : Nat), j < 8 → R1 (t.c0.j 0) (r.word q) j lw ≠ 0 → ∀ (ρ : Rho) (L : Look) (v : Value), VR ρ L lw v → ∃ z, v = .int .i64 z ∧ 0 ≤ z ∧ z ≤ 1048576 ∧ VR ρ L (R1 (t.c0.j 0) (r.word q) j lw) (.int .i64 (szZ z (Env.txt (1000 + j)).size (t.zs (16 + j)).length)) := by
  letI := t.env ok
  intro j lw _ h0
  unfold R1 at h0 ⊢
  rw [sel_beq, sel_beq] at h0 ⊢
  by_cases hj : j = t.c0.j 0
  · rw [if_pos hj] at h0 ⊢
    by_cases hw : lw = wI 1048576
    · rw [if_pos hw]
      subst hj
      subst hw
      intro ρ L v hv
      obtain ⟨m, _, _, hp, rfl⟩ := hv.int_inv (tag_wI _)
      have hm : m = 1048576 := by rw [← hp]; rfl
      subst hm
      have e0 : sInt 1048576 = 1048576 := by unfold sInt; rw [if_pos (by omega)]; rfl
      rw [e0]
      have hjl := t.c0.j_lt 0 (by omega)
      have ht : (Env.txt (1000 + t.c0.j 0)) = s := ((Two.facts0 ok).txt hc).1.trans hs
      have hzs : t.zs (16 + t.c0.j 0) = l := by
        unfold Two.zs; rw [if_neg (by omega), if_neg (by omega), if_pos rfl]; exact hl
      refine ⟨1048576, rfl, by omega, by omega, ?_⟩
      rw [ht, hzs]
      exact RC.put (q := q) hr hq
    · rw [if_neg hw] at h0; exact absurd rfl h0
  · rw [if_neg hj] at h0; exact absurd rfl h0
theorem R1_sound {t : Two} (ok : t.Ok) {r : RC} {s : ByteArray} {l : List Int} (hc : t.c0.isSum = false) (hs : t.s0 = s) (hl : t.l0 = l) (hz : t.z0 = szZ 1048576 s.size l.length) (hr : r.Fits (szZ 1048576 s.size l.length)) :
    letI := t.env ok
    ∀ (j lw : Nat), j < 8 → R1 (t.c0.j 0) (r.word 0) j lw ≠ 0 → ∀ (ρ : Rho) (L : Look) (v : Value), VR ρ L lw v → ∃ z, v = .int .i64 z ∧ 0 ≤ z ∧ z ≤ 1048576 ∧ VR ρ L (R1 (t.c0.j 0) (r.word 0) j lw) (.int .i64 (szZ z (Env.txt (1000 + j)).size (t.zs (16 + j)).length)) :=
  R1_okq ok (q := 0) hc hs hl hr ((Two.e950 ok).trans hz)

/-- ██ The walk of a law on a sum and a point, out of its runs. -/
theorem sumpt_walk {P : Program} {S0 : Sums} (hS0 : Always P S0) {F : Fns} {G : SFns} {tInt fi fo fuel dd f : Nat} (K : ListK P F.to F.eq F.mark F.inn F.of tInt) (KP : PointK P fi fo) (KS : SumK P G.sz G.inn G.of G.gcd) {w : World}
    {s : ByteArray} {d : Int} {a : Option Addr} {len cap : Nat} {l : List Int} (h : SumArg w s d a len cap l) {len2 cap2 : Nat} {a2 : Option Addr} {zs2 : List Int} (w2 : IntRow w a2 len2 cap2 zs2)
    (h1 : ∀ k ∈ ks5, ∀ e ∈ degs7, ∀ x ∈ pclasses, isTrue (sumPt P S0 F G fi fo fuel dd f k e x) = true) (h2 : ∀ c ∈ mNo, ∀ r ∈ rooms, ∀ x ∈ pclasses, isTrue (noPt P S0 F G fi fo fuel dd f c r x) = true) :
    Calls P f #[.agg #[.string s, .int .i64 d, .slice a len cap], .slice a2 len2 cap2] w fun e w' => e = .returned (.bool true) ∧ Below w.heap.size w w' := by
  obtain ⟨x, hx, fx⟩ := PCls.of_row w2
  obtain ⟨t21, t22, t23⟩ := PCls.told_ok w2 fx
  have hpv : ∀ i, Rng (nth (zs2.take len2) i) := fun i => nth_wf w2.wf i
  have hzp : (∀ y ∈ x.told (zs2.take len2), Rng y) ∧ (x.told (zs2.take len2)).length < 9223372036854775808 := ⟨t22, t21⟩
  rcases MC.of s d w a len cap l h.row with ⟨k, hk, e, he, hf⟩ | ⟨c, hc, hf⟩
  · have ok : (oneT (.sum k e) s d l 0 (fun i => nth (zs2.take len2) i) (x.told (zs2.take len2))).Ok := oneT_ok h rng0 hpv hzp
    letI E : Env := Two.env _ ok
    have hE := Two.sumE ok (a0 := a) (cap0 := cap) hf dummy_fits
    have hP : ∀ j, 8 ≤ j → j < 16 → ¬ PtZ (nth ((oneT (.sum k e) s d l 0 (fun i => nth (zs2.take len2) i) (x.told (zs2.take len2))).zs j)) ((oneT (.sum k e) s d l 0 (fun i => nth (zs2.take len2) i) (x.told (zs2.take len2))).zs j).length := fun j h8 h16 => by
      rw [Two.eZp h8 h16]; exact t23
    obtain ⟨ρ, L, c, _, hv⟩ := MC.put (q := 0) (n := 0) (long := false) (Ctx.start w) (by omega) (by omega) h.row hf (Two.facts0 ok) (fun _ => by have := npS_bound he; have := hf.2.2.2.2.1; omega)
    obtain ⟨ρ2, L2, c2, e2, v2⟩ := x.put c (by omega) (j := 8) (by omega) w2 fx ((hE.lst.lst 8 (by omega)).trans (by rw [Two.eZp (by omega) (by omega)]; rfl)) (fun i hi => Two.ePv ok hi)
    exact run_true (orS_sound (orS_sound (orS_sound (listS_sound K hE.lst) (pointS_sound KP hE.lst hP)) (sumsS_sound KS hE (fun j lw _ h0 => absurd rfl h0))) (hS0 _)) c2 (.cons _ _ _ _ (hv.mono e2) (.cons _ _ _ _ v2 .nil)) (h1 k (ks5_mem hk) e (degs7_mem he) x hx)
  · have hlen : (1048576 : Int) ≤ 1048576 := Int.le_refl _
    obtain ⟨r, hrm, hr⟩ := RC.of (a := s.size) (b := l.length) hlen
    have ok : (oneT c s d l (szZ 1048576 s.size l.length) (fun i => nth (zs2.take len2) i) (x.told (zs2.take len2))).Ok := oneT_ok h (szZ_rng hlen) hpv hzp
    letI E : Env := Two.env _ ok
    have hE := Two.sumE ok (a0 := a) (cap0 := cap) hf dummy_fits
    have hcs := mNo_sum hc
    have hP : ∀ j, 8 ≤ j → j < 16 → ¬ PtZ (nth ((oneT c s d l (szZ 1048576 s.size l.length) (fun i => nth (zs2.take len2) i) (x.told (zs2.take len2))).zs j)) ((oneT c s d l (szZ 1048576 s.size l.length) (fun i => nth (zs2.take len2) i) (x.told (zs2.take len2))).zs j).length := fun j h8 h16 => by
      rw [Two.eZp h8 h16]; exact t23
    obtain ⟨ρ, L, cx, _, hv⟩ := MC.put (q := 0) (n := 0) (long := r.isLong) (Ctx.start w) (by omega) (by omega) h.row hf (Two.facts0 ok) (RC.long_of hlen hr)
    obtain ⟨ρ2, L2, c2, e2, v2⟩ := x.put cx (by omega) (j := 8) (by omega) w2 fx ((hE.lst.lst 8 (by omega)).trans (by rw [Two.eZp (by omega) (by omega)]; rfl)) (fun i hi => Two.ePv ok hi)
    exact run_true (orS_sound (orS_sound (orS_sound (listS_sound K hE.lst) (pointS_sound KP hE.lst hP)) (sumsS_sound KS hE (R := R1 (c.j 0) (r.word 0)) (R1_sound ok hcs rfl rfl rfl hr))) (hS0 _)) c2 (.cons _ _ _ _ (hv.mono e2) (.cons _ _ _ _ v2 .nil)) (h2 c hc r hrm x hx)

/-! ### two sums -/
/-- What the second sum leaves: something, nothing. -/
inductive FC where
  | fit
  | long
noncomputable section
def FC.word (r : FC) : Nat := FC.rec (motive := fun _ => Nat) (wV 951 549755813888 549756862464) (wI 18446744073709551615) r
def FC.isLong (r : FC) : Bool := FC.rec (motive := fun _ => Bool) false true r
def FC.Fits (r : FC) (z : Int) : Prop := FC.rec (motive := fun _ => Prop) (0 ≤ z ∧ z ≤ 1048576) (z = -1) r
/-- the room that a first sum leaves is the variable 1 of sums of products -/
def qP : Nat := 2199023254603
/-- the room ahead of the second sum, behind a first that is none -/
def RC.left (r : RC) : Nat := RC.rec (motive := fun _ => Nat) (RC.word .wide qP) (fun k => wI k) 15 r
def sumSum (P : Program) (S0 : Sums) (F : Fns) (G : SFns) (fuel d f k e k' e' : Nat) : OR := sRun P S0 F G (fun _ _ => 0) fuel d f [mk 6 1, mk 6 3] ((MC.sum k' e').heap 1 2 false ((MC.sum k e).heap 0 0 false .nil)) 4
def sumSumO (P : Program) (S0 : Sums) (F : Fns) (G : SFns) (fuel d f k e : Nat) (o : OC) : OR :=
  sRun P S0 F G (fun _ _ => 0) fuel d f [mk 6 (Nat.succ (o.len (npS e))), mk 6 (Nat.add (o.len (npS e)) 3)] ((MC.sum k e).heap 1 (Nat.add (o.len (npS e)) 2) false ((MC.sum k e).heap 0 (o.len (npS e)) false (factH (o.facts addP 2 (npS e)) 0 .nil))) (Nat.add (o.len (npS e)) 4)
def sumNo (P : Program) (S0 : Sums) (F : Fns) (G : SFns) (fuel d f k e : Nat) (c : MC) (r : FC) : OR :=
  sRun P S0 F G (R2 100 0 (c.j 1) (wI (Nat.sub 1048575 (npS e))) r.word) fuel d f [mk 6 1, mk 6 3] (c.heap 1 2 r.isLong ((MC.sum k e).heap 0 0 false .nil)) 4
def noSum (P : Program) (S0 : Sums) (F : Fns) (G : SFns) (fuel d f : Nat) (c : MC) (r : RC) (k e : Nat) : OR :=
  sRun P S0 F G (R1 (c.j 0) (r.word qP)) fuel d f [mk 6 1, mk 6 3] ((MC.sum k e).heap 1 2 false (c.heap 0 0 r.isLong .nil)) 4
def noNo (P : Program) (S0 : Sums) (F : Fns) (G : SFns) (fuel d f : Nat) (c : MC) (r : RC) (c' : MC) (r' : FC) : OR :=
  sRun P S0 F G (R2 (c.j 0) (r.word qP) (c'.j 1) r.left r'.word) fuel d f [mk 6 1, mk 6 3] (c'.heap 1 2 r'.isLong (c.heap 0 0 r.isLong .nil)) 4
end
def fcs : List FC := [.fit, .long]
theorem FC.of {z : Int} {a b : Nat} (h : z ≤ 1048576) : ∃ r ∈ fcs, r.Fits (szZ z a b) := by
  rcases szZ_range (a := a) (b := b) h with h | ⟨h1, h2, _⟩
  · exact ⟨.long, by simp [fcs], h⟩
  · exact ⟨.fit, by simp [fcs], h1, h2⟩
theorem FC.put [E : Env] {ρ : Rho} {L : Look} {r : FC} {z : Int} (hf : r.Fits z) (hq : E.int 951 = z) : VR ρ L r.word (.int .i64 z) := by
  cases r with
  | fit =>
    obtain ⟨h1, h2⟩ := hf
    rw [← hq]
    exact .var 951 _ _ (by omega) (by omega) (.inr (by rw [hq]; omega)) (.inr (by rw [hq]; omega))
  | long =>
    have hf : z = -1 := hf
    subst hf
    exact .int 18446744073709551615 (by omega)
theorem FC.long_of {r : FC} {z : Int} {s : ByteArray} {l : List Int} (hz : z ≤ 1048576) (hf : r.Fits (szZ z s.size l.length)) : r.isLong = false → l.length ≤ 1048576 := fun h => by
  rcases szZ_range (a := s.size) (b := l.length) hz with h2 | ⟨_, _, h2⟩
  · rw [h2] at hf
    cases r with
    | fit => exact absurd hf.1 (by omega)
    | long => cases h
  · omega
/-- two sums -/
def twoT (c c' : MC) (s s' : ByteArray) (d d' : Int) (l l' : List Int) (z z' : Int) : Two := ⟨c, c', s, s', d, d', l, l', z, z', fun _ => z, [7]⟩
theorem twoT_ok {w : World} {s : ByteArray} {d : Int} {a : Option Addr} {len cap : Nat} {l : List Int} (h : SumArg w s d a len cap l) {s' : ByteArray} {d' : Int} {a' : Option Addr} {len' cap' : Nat} {l' : List Int} (h' : SumArg w s' d' a' len' cap' l') {c c' : MC} {z z' : Int} (hz : Rng z) (hz' : Rng z') :
    (twoT c c' s s' d d' l l' z z').Ok := ⟨h.size, h'.size, h.deg, h'.deg, ⟨h.row.wf.1, h.row.wf.2.1⟩, ⟨h'.row.wf.1, h'.row.wf.2.1⟩, hz, hz', fun _ => hz, seven_rng⟩
/-- what is left of what the first sum left -/
theorem R2_sound {t : Two} (ok : t.Ok) {j0 rw0 lw1 : Nat} {r : FC} (hc : t.c1.isSum = false) {z : Int} (hz0 : 0 ≤ z) (hz1 : z ≤ 1048576) (hz : t.z1 = szZ z t.s1.size t.l1.length) (hr : r.Fits (szZ z t.s1.size t.l1.length))
    (hl : letI := t.env ok; ∀ (ρ : Rho) (L : Look) (v : Value), VR ρ L lw1 v → v = .int .i64 z)
    (h0 : letI := t.env ok; ∀ (j lw : Nat), j < 8 → R1 j0 rw0 j lw ≠ 0 → ∀ (ρ : Rho) (L : Look) (v : Value), VR ρ L lw v → ∃ z, v = .int .i64 z ∧ 0 ≤ z ∧ z ≤ 1048576 ∧ VR ρ L (R1 j0 rw0 j lw) (.int .i64 (szZ z (Env.txt (1000 + j)).size (t.zs (16 + j)).length))) :
    letI := t.env ok
    ∀ (j lw : Nat), j < 8 → R2 j0 rw0 (t.c1.j 1) lw1 r.word j lw ≠ 0 → ∀ (ρ : Rho) (L : Look) (v : Value), VR ρ L lw v → ∃ z, v = .int .i64 z ∧ 0 ≤ z ∧ z ≤ 1048576 ∧ VR ρ L (R2 j0 rw0 (t.c1.j 1) lw1 r.word j lw) (.int .i64 (szZ z (Env.txt (1000 + j)).size (t.zs (16 + j)).length)) := by
  letI := t.env ok
  intro j lw hj8 h
  have e : R2 j0 rw0 (t.c1.j 1) lw1 r.word j lw = if j = j0 then (sel (Nat.beq lw (wI 1048576)) rw0 0) else (if j = t.c1.j 1 then (if lw = lw1 then r.word else 0) else 0) := by
    unfold R2; rw [sel_beq, sel_beq, sel_beq, sel_beq]
  rw [e] at h ⊢
  by_cases hj : j = j0
  · rw [if_pos hj] at h ⊢
    have e1 : R1 j0 rw0 j lw = sel (Nat.beq lw (wI 1048576)) rw0 0 := by unfold R1; rw [sel_beq, if_pos hj]
    have := h0 j lw hj8 (by rw [e1]; exact h)
    rw [e1] at this
    exact this
  · rw [if_neg hj] at h ⊢
    by_cases hj1 : j = t.c1.j 1
    · rw [if_pos hj1] at h ⊢
      by_cases hw : lw = lw1
      · rw [if_pos hw]
        intro ρ L v hv
        subst hw
        have hjt := t.c0.j_lt 0 (by omega)
        have hjt1 := t.c1.j_lt 1 (by omega)
        have Fc := Two.facts1 ok
        have ht : (Env.txt (1000 + t.c1.j 1)) = t.s1 := (Fc.txt hc).1
        have hzs : t.zs (16 + t.c1.j 1) = t.l1 := by
          unfold Two.zs; rw [if_neg (by omega), if_neg (by omega), if_neg (by omega), if_pos rfl]
        refine ⟨z, hl ρ L v hv, hz0, hz1, ?_⟩
        subst hj1
        rw [ht, hzs]
        exact FC.put hr ((Two.e951 ok).trans hz)
      · rw [if_neg hw] at h; exact absurd rfl h
    · rw [if_neg hj1] at h; exact absurd rfl h
theorem wI_val {E : Env} {ρ : Rho} {L : Look} {k : Nat} (hk : k < 9223372036854775808) {v : Value} (h : VR ρ L (wI k) v) : v = .int .i64 (k : Int) := by
  obtain ⟨q, _, _, hp, rfl⟩ := h.int_inv (tag_wI _)
  have hq : q = k := by rw [← hp, pay_wI]
  subst hq
  unfold sInt; rw [if_pos hk]

/-- ██ The walk of a law on two sums, out of its runs. -/
theorem sumsum_walk {P : Program} {S0 : Sums} (hS0 : Always P S0) {F : Fns} {G : SFns} {tInt fuel dd f : Nat} (K : ListK P F.to F.eq F.mark F.inn F.of tInt) (KS : SumK P G.sz G.inn G.of G.gcd) {w : World}
    {s : ByteArray} {d : Int} {a : Option Addr} {len cap : Nat} {l : List Int} (h : SumArg w s d a len cap l) {s' : ByteArray} {d' : Int} {a' : Option Addr} {len' cap' : Nat} {l' : List Int} (h' : SumArg w s' d' a' len' cap' l')
    (h1 : ∀ k ∈ ks5, ∀ e ∈ degs7, ∀ k' ∈ ks5, ∀ e' ∈ degs7, (k = k' ∧ e = e') ∨ isTrue (sumSum P S0 F G fuel dd f k e k' e') = true)
    (h2 : ∀ k ∈ ks5, ∀ e ∈ degs7, ∀ o ∈ ocs (npS e), isTrue (sumSumO P S0 F G fuel dd f k e o) = true)
    (h3 : ∀ k ∈ ks5, ∀ e ∈ degs7, ∀ c ∈ mNo, ∀ r ∈ fcs, isTrue (sumNo P S0 F G fuel dd f k e c r) = true)
    (h4 : ∀ c ∈ mNo, ∀ r ∈ rooms, ∀ k ∈ ks5, ∀ e ∈ degs7, isTrue (noSum P S0 F G fuel dd f c r k e) = true)
    (h5 : ∀ c ∈ mNo, ∀ r ∈ rooms, ∀ c' ∈ mNo, ∀ r' ∈ fcs, isTrue (noNo P S0 F G fuel dd f c r c' r') = true) :
    Calls P f #[.agg #[.string s, .int .i64 d, .slice a len cap], .agg #[.string s', .int .i64 d', .slice a' len' cap']] w fun e w' => e = .returned (.bool true) ∧ Below w.heap.size w w' := by
  have hlen : (1048576 : Int) ≤ 1048576 := Int.le_refl _
  rcases MC.of s d w a len cap l h.row with ⟨k, hk, e, he, hf⟩ | ⟨c, hc, hf⟩
  · have hnp := npS_bound he
    have hll := hf.2.2.2.2.1
    rcases MC.of s' d' w a' len' cap' l' h'.row with ⟨k', hk', e', he', hf'⟩ | ⟨c', hc', hf'⟩
    · have hnp' := npS_bound he'
      have hll' := hf'.2.2.2.2.1
      have ok : (twoT (.sum k e) (.sum k' e') s s' d d' l l' 0 0).Ok := twoT_ok h h' rng0 rng0
      letI E : Env := Two.env _ ok
      have hE := Two.sumE ok (a0 := a) (cap0 := cap) (a1 := a') (cap1 := cap') hf hf'
      have sums : SumS P (orS (orS F.S (sumsS (fun _ _ => 0) G.sz G.inn G.of G.gcd)) S0) := orS_sound (orS_sound (listS_sound K hE.lst) (sumsS_sound KS hE (fun j lw _ h0 => absurd rfl h0))) (hS0 _)
      rcases h1 k (ks5_mem hk) e (degs7_mem he) k' (ks5_mem hk') e' (degs7_mem he') with ⟨rfl, rfl⟩ | hrun
      · have hv0 : ∀ i, i < 11 → E.int (pvIx (8 + i)) = nth l i := fun i hi => by
          have := (Two.facts0 ok).pv i (by omega)
          rw [show 8 + 16 * 0 + i = 8 + i from by omega] at this
          exact this
        have hv1 : ∀ i, i < 11 → E.int (pvIx (24 + i)) = nth l' i := fun i hi => by
          have := (Two.facts1 ok).pv i (by omega)
          rw [show 8 + 16 * 1 + i = 24 + i from by omega] at this
          exact this
        obtain ⟨o, ho, hof, hol⟩ := OC.of (npS e) (fun i => nth l i + nth l' i) (fun i hi => by
          have a1 := hf.2.2.2.2.2 i (by omega)
          have a2 := hf'.2.2.2.2.2 i (by omega)
          show _ ≤ nth l i + nth l' i ∧ nth l i + nth l' i ≤ _
          omega) addP 2 (fun f => ∃ z, PolyZ f.1 0 f.2.1 73 f.2.2.1 f.2.2.2 z) (fun i b hi hb => by
          have hr := pv_rows (i := i) (by omega)
          exact fact_add (i := 8 + i) (j := 24 + i) hr.1 hr.2.2.1 hr.2.1 hr.2.2.2 (by rw [hv0 i (by omega), hv1 i (by omega)]; exact hb))
        have hfl := o.facts_len addP 2 (npS e)
        obtain ⟨L0, c0, _⟩ := put_facts (o.facts addP 2 (npS e)) 0 .nil _ _ w.heap.size w (Ctx.start w) (by rw [hfl]; omega) hof
        rw [hfl, Nat.zero_add] at c0
        obtain ⟨ρ, L, c1, e1, v1⟩ := MC.put (q := 0) (long := false) c0 (by omega) (by omega) h.row hf (Two.facts0 ok) (fun _ => by omega)
        obtain ⟨ρ2, L2, c2, e2, v2⟩ := MC.put (q := 1) (long := false) c1 (by omega) (by omega) h'.row hf' (Two.facts1 ok) (fun _ => by omega)
        exact run_true sums c2 (.cons _ _ _ _ (v1.mono e2) (.cons _ _ _ _ v2 .nil)) (h2 k (ks5_mem hk) e (degs7_mem he) o ho)
      · obtain ⟨ρ, L, c1, e1, v1⟩ := MC.put (q := 0) (n := 0) (long := false) (Ctx.start w) (by omega) (by omega) h.row hf (Two.facts0 ok) (fun _ => by omega)
        obtain ⟨ρ2, L2, c2, e2, v2⟩ := MC.put (q := 1) (long := false) c1 (by omega) (by omega) h'.row hf' (Two.facts1 ok) (fun _ => by omega)
        exact run_true sums c2 (.cons _ _ _ _ (v1.mono e2) (.cons _ _ _ _ v2 .nil)) hrun
    · have hz : ((1048575 - npS e : Nat) : Int) ≤ 1048576 := by omega
      obtain ⟨r, hrm, hr⟩ := FC.of (a := s'.size) (b := l'.length) hz
      have ok : (twoT (.sum k e) c' s s' d d' l l' 0 (szZ ((1048575 - npS e : Nat) : Int) s'.size l'.length)).Ok := twoT_ok h h' rng0 (szZ_rng hz)
      letI E : Env := Two.env _ ok
      have hE := Two.sumE ok (a0 := a) (cap0 := cap) (a1 := a') (cap1 := cap') hf hf'
      obtain ⟨ρ, L, c1, e1, v1⟩ := MC.put (q := 0) (n := 0) (long := false) (Ctx.start w) (by omega) (by omega) h.row hf (Two.facts0 ok) (fun _ => by omega)
      obtain ⟨ρ2, L2, c2, e2, v2⟩ := MC.put (q := 1) (long := r.isLong) c1 (by omega) (by omega) h'.row hf' (Two.facts1 ok) (FC.long_of hz hr)
      refine run_true (orS_sound (orS_sound (listS_sound K hE.lst) (sumsS_sound KS hE (R := R2 100 0 (c'.j 1) (wI (Nat.sub 1048575 (npS e))) r.word) (R2_sound ok (mNo_sum hc') (z := ((1048575 - npS e : Nat) : Int)) (by omega) hz rfl hr (fun ρ L v hv => wI_val (k := 1048575 - npS e) (by omega) hv) (fun j lw hj h0 => ?_)))) (hS0 _)) c2 (.cons _ _ _ _ (v1.mono e2) (.cons _ _ _ _ v2 .nil)) (h3 k (ks5_mem hk) e (degs7_mem he) c' hc' r hrm)
      unfold R1 at h0
      rw [sel_beq, if_neg (by omega)] at h0
      exact absurd rfl h0
  · obtain ⟨r, hrm, hr⟩ := RC.of (a := s.size) (b := l.length) hlen
    have hcs := mNo_sum hc
    rcases MC.of s' d' w a' len' cap' l' h'.row with ⟨k', hk', e', he', hf'⟩ | ⟨c', hc', hf'⟩
    · have hnp' := npS_bound he'
      have hll' := hf'.2.2.2.2.1
      have ok : (twoT c (.sum k' e') s s' d d' l l' (szZ 1048576 s.size l.length) 0).Ok := twoT_ok h h' (szZ_rng hlen) rng0
      letI E : Env := Two.env _ ok
      have hE := Two.sumE ok (a0 := a) (cap0 := cap) (a1 := a') (cap1 := cap') hf hf'
      obtain ⟨ρ, L, c1, e1, v1⟩ := MC.put (q := 0) (n := 0) (long := r.isLong) (Ctx.start w) (by omega) (by omega) h.row hf (Two.facts0 ok) (RC.long_of hlen hr)
      obtain ⟨ρ2, L2, c2, e2, v2⟩ := MC.put (q := 1) (long := false) c1 (by omega) (by omega) h'.row hf' (Two.facts1 ok) (fun _ => by omega)
      exact run_true (orS_sound (orS_sound (listS_sound K hE.lst) (sumsS_sound KS hE (R := R1 (c.j 0) (r.word qP)) (R1_okq ok (q := qP) hcs rfl rfl hr (Two.ePv ok (i := 1) (by omega))))) (hS0 _)) c2 (.cons _ _ _ _ (v1.mono e2) (.cons _ _ _ _ v2 .nil)) (h4 c hc r hrm k' (ks5_mem hk') e' (degs7_mem he'))
    · have hz0 : szZ 1048576 s.size l.length ≤ 1048576 := by
        rcases szZ_range (a := s.size) (b := l.length) hlen with h | h <;> omega
      obtain ⟨r', hrm', hr'⟩ := FC.of (a := s'.size) (b := l'.length) hz0
      have ok : (twoT c c' s s' d d' l l' (szZ 1048576 s.size l.length) (szZ (szZ 1048576 s.size l.length) s'.size l'.length)).Ok := twoT_ok h h' (szZ_rng hlen) (szZ_rng hz0)
      letI E : Env := Two.env _ ok
      have hE := Two.sumE ok (a0 := a) (cap0 := cap) (a1 := a') (cap1 := cap') hf hf'
      obtain ⟨ρ, L, c1, e1, v1⟩ := MC.put (q := 0) (n := 0) (long := r.isLong) (Ctx.start w) (by omega) (by omega) h.row hf (Two.facts0 ok) (RC.long_of hlen hr)
      obtain ⟨ρ2, L2, c2, e2, v2⟩ := MC.put (q := 1) (long := r'.isLong) c1 (by omega) (by omega) h'.row hf' (Two.facts1 ok) (FC.long_of hz0 hr')
      have hR1 := R1_okq ok (r := r) (q := qP) hcs rfl rfl hr (Two.ePv ok (i := 1) (by omega))
      have key : ∀ (j lw : Nat), j < 8 → R2 (c.j 0) (r.word qP) (c'.j 1) r.left r'.word j lw ≠ 0 → ∀ (ρ : Rho) (L : Look) (v : Value), VR ρ L lw v → ∃ z, v = .int .i64 z ∧ 0 ≤ z ∧ z ≤ 1048576 ∧
          VR ρ L (R2 (c.j 0) (r.word qP) (c'.j 1) r.left r'.word j lw) (.int .i64 (szZ z (Env.txt (1000 + j)).size ((twoT c c' s s' d d' l l' (szZ 1048576 s.size l.length) (szZ (szZ 1048576 s.size l.length) s'.size l'.length)).zs (16 + j)).length)) := by
        by_cases hlong : szZ 1048576 s.size l.length = -1
        · -- nothing is left: what is asked of the second one never comes
          have hrl : r = .long := by
            cases r with
            | wide => have := hr.1; omega
            | is k => have := hr.1; omega
            | long => rfl
          subst hrl
          intro j lw hj8 h0 ρ L v hv
          have e : R2 (c.j 0) (RC.long.word qP) (c'.j 1) RC.long.left r'.word j lw = if j = c.j 0 then (sel (Nat.beq lw (wI 1048576)) (RC.long.word qP) 0) else (if j = c'.j 1 then (if lw = 15 then r'.word else 0) else 0) := by
            unfold R2; rw [sel_beq, sel_beq, sel_beq, sel_beq]; rfl
          rw [e] at h0 ⊢
          by_cases hj : j = c.j 0
          · rw [if_pos hj] at h0 ⊢
            have e1 : R1 (c.j 0) (RC.long.word qP) j lw = sel (Nat.beq lw (wI 1048576)) (RC.long.word qP) 0 := by unfold R1; rw [sel_beq, if_pos hj]
            have := hR1 j lw hj8 (by show R1 (c.j 0) _ _ _ ≠ 0; rw [e1]; exact h0) ρ L v hv
            have e2 : R1 ((twoT c c' s s' d d' l l' (szZ 1048576 s.size l.length) (szZ (szZ 1048576 s.size l.length) s'.size l'.length)).c0.j 0) (RC.long.word qP) j lw = sel (Nat.beq lw (wI 1048576)) (RC.long.word qP) 0 := e1
            rw [e2] at this
            exact this
          · rw [if_neg hj] at h0
            by_cases hj1 : j = c'.j 1
            · rw [if_pos hj1] at h0
              by_cases hw : lw = 15
              · subst hw; exact absurd rfl hv.notBad
              · rw [if_neg hw] at h0; exact absurd rfl h0
            · rw [if_neg hj1] at h0; exact absurd rfl h0
        · have hz1 : 0 ≤ szZ 1048576 s.size l.length := by
            rcases szZ_range (a := s.size) (b := l.length) hlen with h | h
            · exact absurd h hlong
            · exact h.1
          refine R2_sound ok (mNo_sum hc') (z := szZ 1048576 s.size l.length) hz1 hz0 rfl hr' (fun ρ L v hv => ?_) hR1
          cases r with
          | wide =>
            have hv : VR ρ L (wV (pvIx 1) 549755813900 549756862464) v := hv
            obtain ⟨j, lo, hi, q1, q2, _, _, q3, rfl⟩ := hv.var_inv (tag_wV _ _ _)
            obtain ⟨_, _, a3⟩ := v_parts (pvIx 1) 549755813900 549756862464 (by omega) (by omega)
            obtain ⟨_, _, b3⟩ := v_parts j lo hi q1 q2
            have hj : j = pvIx 1 := by rw [← a3, q3, b3]
            subst hj
            have : E.int (pvIx 1) = szZ 1048576 s.size l.length := Two.ePv ok (i := 1) (by omega)
            rw [this]
          | is k =>
            obtain ⟨g1, g2⟩ := hr
            have hv : VR ρ L (wI k) v := hv
            rw [wI_val (by omega) hv, g1]
          | long => exact absurd hr hlong
      exact run_true (orS_sound (orS_sound (listS_sound K hE.lst) (sumsS_sound KS hE key)) (hS0 _)) c2 (.cons _ _ _ _ (v1.mono e2) (.cons _ _ _ _ v2 .nil)) (h5 c hc r hrm c' hc' r' hrm')
end Go.Eng
