/- Laws on a short list of numbers that are taken as power sums of roots. -/
import Derived.Test.YtennigkljnfjmaaEngZl
namespace Go.Eng
set_option linter.unusedSectionVars false
set_option linter.unusedSimpArgs false
set_option linter.unusedVariables false
open Go Go.RowKit

/-! ### a function that says no to longer lists, with an empty one -/
structure NoF (P : Program) (fN x : Nat) : Prop where
  kIn : Known P fN
  inn : ∀ (w : World) (rb d len cap : Nat) (z : Nat → Int), len ≤ 4194304 → (∀ r, r < len → w.cell? ⟨rb, d + r, none⟩ = some (.int .i64 (z r))) → x < len →
    Calls P fN #[.slice (some ⟨rb, d, none⟩) len cap] w fun e w' => (∃ a, e = .returned (.tuple #[.slice (some a) 0 0, .bool false])) ∧ Below w.heap.size w w'
noncomputable section
def nofW (x s : Nat) (H : Trie) (n : Nat) : SR := opqW H s (gd (ltb x (oLo (payOf s))) (gd (ltb n maxBlk) (.yes (.ok (mk 6 n) (hset H n (.box 1 2 (listW [14, 2]))) (Nat.succ n)))))
def noF (fN x : Nat) : Sums := fun f args H n => sel (Nat.beq f fN) (match args with | [s] => nofW x s H n | _ => .no) .no
end
theorem noF_sound [E : Env] {P : Program} {fN x : Nat} {zs : Nat → List Int} (K : NoF P fN x) (hE : ListE zs) : SumS P (noF fN x) := by
  intro base H n ρ L w f args vs v H' n' cs c ha h
  unfold noF at h
  rw [sel_beq] at h
  generalize hvs : vs.toList = l at ha
  split at h
  · rename_i hf
    subst hf
    split at h
    · rename_i s
      rcases ha with _ | ⟨_, v1, _, vs1, hr1, ha1⟩
      cases ha1
      have hvv : vs = #[v1] := by cases vs; simp_all
      subst hvv
      unfold nofW at h
      obtain ⟨h, b, j, lo, hi, rb, d, sz, cap, hs, p1, p2, p3, p4, hb, hj, hlo, hhi, hh0, hl1, hl2, hl3, hcs, hcap, rfl, hb16, hget, cs0, ty, fz, ro, hL, hheap, hds, hfz, hcells, hrow⟩ := opqW_inv hE c hr1 h
      obtain ⟨g0, h⟩ := gd_inv h
      obtain ⟨g2, h⟩ := gd_inv h
      rw [p3] at g0
      have g0 := (ltb_iff _ _).1 g0
      have g2 : n < 16384 := (ltb_iff _ _).1 g2
      injection h with h
      injection h with e1 e2 e3
      subst e1; subst e2; subst e3
      obtain ⟨e, W, ⟨⟨a, he⟩, hW⟩, hcall⟩ := calls_at (K.inn w rb d (zs j).length cap (nth (zs j)) (by omega) hrow (by omega)) cs
      subst he
      have cW := c.later hW
      have c1 : Ctx base (hset H n (.box 1 2 (listW [14, 2]))) (n + 1) ρ (upd L n (.box 1 2 (listW [14, 2]))) W := ⟨cW.sim.box cW.fresh _ _ _, cW.agree.hset g2 _, cW.fresh.updL _⟩
      have e1 : Ext ρ L ρ (upd L n (.box 1 2 (listW [14, 2]))) := .freshL c.fresh _
      have hsl : allSlot [14, 2] = true := by decide
      refine ⟨ρ, _, W, _, c1, e1, hW.mono c.sim.bs, .freshL _, Nat.le_succ _, ?_, K.kIn, hcall⟩
      refine .tup n 2 _ _ (upd_same _ _ _) rfl fun i hi => ?_
      rw [getW_listW _ hsl]
      match i, hi with
      | 0, _ => exact .sl0 a
      | 1, _ => exact VR.bool false
    · cases h
  · cases h

/-! ### rows of words, sums of products among them -/
theorem put_words [E : Env] {n len cap : Nat} {H : Trie} {ρ : Rho} {L : Look} {w : World} {a : Option Addr} {l : List Int} {ws : List Nat} (c : Ctx w.heap.size H n ρ L w) (hn : n < 16384) (h : RowH w a len cap l) (hl : 0 < l.length) (hwl : ws.length = l.length)
    (hv : ∀ i, i < ws.length → VR ρ L (ws.getD i 0) (.int .i64 (nth l i)) ∧ storable (ws.getD i 0) = true) (hs : l.length < 1000000) :
    ∃ ρ' L', Ctx w.heap.size (hset H n (.cells ws.length (listW ws) 0 0 0 0)) (n + 1) ρ' L' w ∧ VR ρ' L' (wS n 1 0 ws.length 0) (.slice a len cap) := by
  rcases h with ⟨rfl, rfl, rfl, rfl⟩ | ⟨x, rfl, rfl, rfl, rfl⟩ | ⟨rb, d, cs, ty, fz, rfl, hh, hsz, hle, hcap, hll, h0, hall, hwf⟩
  · simp at hl
  · simp at hl
  have hrb : rb < w.heap.size := (Array.getElem?_eq_some_iff.1 hh).1
  have hso : allSlot ws = true := listW_row fun i hi => (hv i hi).2
  refine ⟨_, _, c.arg (nb := ws.length) (ch := listW ws) (sz := cap) (d := d) hn hh hrb hsz (by omega) (fun i hi => ?_), ?_⟩
  · refine ⟨_, hall i (by omega), ?_⟩
    rw [getW_listW _ hso]
    exact hv i hi
  · have hbl2 : ws.length = len := by omega
    rw [hbl2]
    exact .slice n 1 0 len 0 rb d cap cap _ (updR_same _ _ _) (by omega) (by omega) (by omega) (by omega) hle hcap (.inl rfl) (.inr ⟨rfl, by omega⟩)
noncomputable section
/-- sums of products between -10000 and 10000, laid down -/
def pxH (es : List PX) : Nat → Trie → Trie := List.rec (motive := fun _ => Nat → Trie → Trie) (fun _ H => H) (fun e _ ih n H => ih (Nat.succ n) (hset H n (.poly e.num.p e.num.q e.num.s e.num.d 9223372036854765808 9223372036854785808))) es
end
theorem put_pxs [E : Env] {base : Nat} {w : World} : ∀ (es : List PX) (zs : Nat → Int) (n : Nat) (H : Trie) (ρ : Rho) (L : Look), Ctx base H n ρ L w → n + es.length < 16384 →
    (∀ i, i < es.length → (es.getD i (.c 0)).ok = true ∧ (es.getD i (.c 0)).val (fun i => E.int (pvIx i)) = zs i ∧ -10000 ≤ zs i ∧ zs i ≤ 10000) →
    ∃ L', Ctx base (pxH es n H) (n + es.length) ρ L' w ∧ Ext ρ L ρ L' ∧ ∀ i, i < es.length → VR ρ L' (polyW (n + i)) (.int .i64 (zs i))
  | [], zs, n, H, ρ, L, c, _, _ => ⟨L, c, .refl _ _, fun i hi => by cases hi⟩
  | e :: es, zs, n, H, ρ, L, c, hn, hv => by
    obtain ⟨v1, v2, v3, v4⟩ := hv 0 (by simp)
    have v1 : e.ok = true := v1
    have v2 : e.val (fun i => E.int (pvIx i)) = zs 0 := v2
    have hz : PolyZ e.num.p e.num.q e.num.s e.num.d 9223372036854765808 9223372036854785808 (zs 0) := ⟨by omega, by omega, by omega, by omega, _, PX.sound _ e v1, by rw [v2]; omega⟩
    have hn0 : n < 16384 := by simp at hn; omega
    have c1 : Ctx base (hset H n (.poly e.num.p e.num.q e.num.s e.num.d 9223372036854765808 9223372036854785808)) (n + 1) ρ (upd L n (.poly e.num.p e.num.q e.num.s e.num.d 9223372036854765808 9223372036854785808)) w :=
      ⟨c.sim.boxG c.fresh (fun h => by have := PX.deg e v1; omega), c.agree.hset hn0 _, c.fresh.updL _⟩
    have e1 : Ext ρ L ρ (upd L n (.poly e.num.p e.num.q e.num.s e.num.d 9223372036854765808 9223372036854785808)) := .freshL c.fresh _
    obtain ⟨L', c', e', h'⟩ := put_pxs es (fun i => zs (i + 1)) (n + 1) _ ρ _ c1 (by simp at hn; omega) (fun i hi => hv (i + 1) (by simp; omega))
    refine ⟨L', ?_, e1.trans e', fun i hi => ?_⟩
    · have : n + (e :: es).length = n + 1 + es.length := by simp; omega
      rw [this]; exact c'
    · cases i with
      | zero => exact (VR.poly n _ _ _ _ _ _ (zs 0) (upd_same _ _ _) hz).mono e'
      | succ i =>
        have := h' i (by simpa using hi)
        rw [show n + 1 + i = n + (i + 1) from by omega] at this
        exact this

/-! ### power sums, told by what comes out of them -/
def rP1 : PX := .v 0
def rP2 (r : Nat) : PX := .add (.mul (.v 0) rP1) (.neg (.add (.mul (.c 2) (.v 1)) (.c r)))
def rP3 (r : Nat) : PX := .add (.add (.add (.mul (.c 3) (.v 2)) (.c r)) (.neg (.mul (.v 1) rP1))) (.mul (.v 0) (rP2 0))
def rP4 (r : Nat) : PX := .add (.add (.add (.mul (.v 2) rP1) (.neg (.mul (.v 1) (rP2 0)))) (.mul (.v 0) (rP3 0))) (.neg (.add (.mul (.c 4) (.v 3)) (.c r)))
def rP5 (r : Nat) : PX := .add (.add (.add (.add (.add (.mul (.c 5) (.v 4)) (.c r)) (.neg (.mul (.v 3) rP1))) (.mul (.v 2) (rP2 0))) (.neg (.mul (.v 1) (rP3 0)))) (.mul (.v 0) (rP4 0))
/-- the first k of them, the last one with a rest -/
def rPs (k r : Nat) : List PX :=
  match k with
  | 1 => [rP1]
  | 2 => [rP1, rP2 r]
  | 3 => [rP1, rP2 0, rP3 r]
  | 4 => [rP1, rP2 0, rP3 0, rP4 r]
  | 5 => [rP1, rP2 0, rP3 0, rP4 0, rP5 r]
  | _ => []
/-- how far what comes out may be from 0 -/
def rB (i : Nat) : Nat := [10000, 50005001, 166716673334, 416916720840001, 834166975056674001].getD i 0
noncomputable section
def rfW (m k i : Nat) : Nat := sel (ltb i k) (polyW (Nat.add m i)) (wV (pvIx (Nat.add 8 i)) 549755803888 549755823888)
def rfWs (m k : Nat) (n : Nat) : List Nat := Nat.rec (motive := fun _ => List Nat) [] (fun i ih => ih ++ [rfW m k i]) n
/-- a list of n power sums, of which k are told by what comes out -/
def rfRun (P : Program) (S0 : Sums) (F : Fns) (fN x fuel d f n k r : Nat) (fs : List FE) : Bool :=
  isTrue (funE P (callN P (orS (orS F.S (noF fN x)) S0) fuel d) fuel f [wS (Nat.add fs.length k) 1 0 n 0] (hset (pxH (rPs k r) fs.length (feH fs 0 .nil)) (Nat.add fs.length k) (.cells n (listW (rfWs fs.length k n)) 0 0 0 0)) (Nat.succ (Nat.add fs.length k)))
def rfRunC (P : Program) (S0 : Sums) (F : Fns) (fN m x fuel d f : Nat) (c : LC) : Bool :=
  isTrue (funE P (callN P (orS (orS F.S (noF fN x)) S0) fuel d) fuel f [c.word x 0 16] (c.heap m 0 16 0 .nil) 1)
/-- between which bounds: 0 whole, 1 from -1000 to 1000, 2 below, 3 above, 4 negative, 5 not negative -/
def rF (i q : Nat) : FE :=
  sel (Nat.beq q 0) (.v i, Nat.sub 9223372036854775808 (rB i), Nat.add 9223372036854775808 (rB i))
    (sel (Nat.beq q 1) (.v i, 9223372036854774808, 9223372036854776808)
      (sel (Nat.beq q 2) (.v i, Nat.sub 9223372036854775808 (rB i), 9223372036854774807)
        (sel (Nat.beq q 3) (.v i, 9223372036854776809, Nat.add 9223372036854775808 (rB i))
          (sel (Nat.beq q 4) (.v i, Nat.sub 9223372036854775808 (rB i), 9223372036854775807) (.v i, 9223372036854775808, Nat.add 9223372036854775808 (rB i))))))
/-- the first j in range, then one of kind q, the others whole -/
def rFs (j q : Nat) (k : Nat) : List FE := Nat.rec (motive := fun _ => List FE) [] (fun i ih => ih ++ [rF i (sel (ltb i j) 1 (sel (Nat.beq i j) q 0))]) k
end
noncomputable section
def rFq (qs : List Nat) : Nat → List FE := List.rec (motive := fun _ => Nat → List FE) (fun _ => []) (fun q _ ih i => rF i q :: ih (Nat.succ i)) qs
/-- all kinds of m variables: those in range ahead of the first one that is not -/
def qsAll (m : Nat) : List (List Nat) := Nat.rec (motive := fun _ => List (List Nat)) [[]] (fun k ih => (2 :: List.replicate k 0) :: (3 :: List.replicate k 0) :: ih.map (fun qs => 1 :: qs)) m
end
def KFit (i q : Nat) (z : Int) : Prop := ((rF i q).2.1 : Int) - 9223372036854775808 ≤ z ∧ z ≤ ((rF i q).2.2 : Int) - 9223372036854775808
theorem rB_lt (i : Nat) : rB i ≤ 834166975056674001 := by
  unfold rB
  match i with
  | 0 => decide
  | 1 => decide
  | 2 => decide
  | 3 => decide
  | 4 => decide
  | i + 5 => simp
theorem rF_fst (i q : Nat) : (rF i q).1 = .v i := by
  unfold rF
  repeat' (rw [sel_beq]; split)
  all_goals rfl
theorem kfit0 {i : Nat} {z : Int} (h : -(rB i : Int) ≤ z ∧ z ≤ rB i) : KFit i 0 z := by
  have := rB_lt i
  have e1 : (rF i 0).2.1 = 9223372036854775808 - rB i := rfl
  have e2 : (rF i 0).2.2 = 9223372036854775808 + rB i := rfl
  unfold KFit; rw [e1, e2]; omega
theorem kfit1 {i : Nat} {z : Int} (h : -1000 ≤ z ∧ z ≤ 1000) : KFit i 1 z := by
  have e1 : (rF i 1).2.1 = 9223372036854774808 := rfl
  have e2 : (rF i 1).2.2 = 9223372036854776808 := rfl
  unfold KFit; rw [e1, e2]; omega
theorem kfit2 {i : Nat} {z : Int} (h : -(rB i : Int) ≤ z ∧ z ≤ rB i) (h2 : z < -1000) : KFit i 2 z := by
  have := rB_lt i
  have e1 : (rF i 2).2.1 = 9223372036854775808 - rB i := rfl
  have e2 : (rF i 2).2.2 = 9223372036854774807 := rfl
  unfold KFit; rw [e1, e2]; omega
theorem kfit3 {i : Nat} {z : Int} (h : -(rB i : Int) ≤ z ∧ z ≤ rB i) (h2 : 1000 < z) : KFit i 3 z := by
  have := rB_lt i
  have e1 : (rF i 3).2.1 = 9223372036854776809 := rfl
  have e2 : (rF i 3).2.2 = 9223372036854775808 + rB i := rfl
  unfold KFit; rw [e1, e2]; omega
theorem kfit4 {i : Nat} {z : Int} (h : -(rB i : Int) ≤ z ∧ z ≤ rB i) (h2 : z < 0) : KFit i 4 z := by
  have := rB_lt i
  have e1 : (rF i 4).2.1 = 9223372036854775808 - rB i := rfl
  have e2 : (rF i 4).2.2 = 9223372036854775807 := rfl
  unfold KFit; rw [e1, e2]; omega
theorem kfit5 {i : Nat} {z : Int} (h : -(rB i : Int) ≤ z ∧ z ≤ rB i) (h2 : 0 ≤ z) : KFit i 5 z := by
  have := rB_lt i
  have e1 : (rF i 5).2.1 = 9223372036854775808 := rfl
  have e2 : (rF i 5).2.2 = 9223372036854775808 + rB i := rfl
  unfold KFit; rw [e1, e2]; omega
theorem rF_lt (i q : Nat) : (rF i q).2.1 < 18446744073709551616 ∧ (rF i q).2.2 < 18446744073709551616 := by
  have := rB_lt i
  have s1 : ∀ a b, Nat.sub a b = a - b := fun _ _ => rfl
  have s2 : ∀ a b, Nat.add a b = a + b := fun _ _ => rfl
  unfold rF
  repeat' (rw [sel_beq]; split)
  all_goals (simp only [s1, s2]; omega)
theorem feOk_rF {E : Env} {i q : Nat} (hi : i < 5) (h : KFit i q (E.int (pvIx i))) : FeOk E (rF i q) := by
  obtain ⟨l1, l2⟩ := rF_lt i q
  have ok : (PX.v i).ok = true := by show pvOk i = true; unfold pvOk; rw [sel_ltb, if_pos hi]
  refine ⟨E.int (pvIx i), l1, l2, h.1, h.2, E.int (pvIx i), ?_, by simp⟩
  rw [rF_fst]
  exact PolyR.up79 (PX.sound (fun i => E.int (pvIx i)) (.v i) ok) (by have := PX.deg (.v i) ok; omega)
theorem rFq_ok {E : Env} : ∀ (qs : List Nat) (i : Nat), i + qs.length ≤ 5 → (∀ j, j < qs.length → KFit (i + j) (qs.getD j 0) (E.int (pvIx (i + j)))) → ∀ f ∈ rFq qs i, FeOk E f
  | [], i, _, _, f, hf => by cases hf
  | q :: qs, i, hl, h, f, hf => by
    have hf : f ∈ rF i q :: rFq qs (Nat.succ i) := hf
    rcases List.mem_cons.1 hf with rfl | hf
    · exact feOk_rF (by simp at hl; omega) (h 0 (by simp))
    · refine rFq_ok qs (i + 1) (by simp at hl; omega) (fun j hj => ?_) f hf
      have := h (j + 1) (by simp; omega)
      rw [show i + 1 + j = i + (j + 1) from by omega]
      exact this
theorem rFq_len : ∀ (qs : List Nat) (i : Nat), (rFq qs i).length = qs.length
  | [], i => rfl
  | q :: qs, i => by show (rFq qs (Nat.succ i)).length + 1 = _; rw [rFq_len qs]; rfl
theorem qsAll_of (x : Nat → Int) (hx : ∀ i, -(rB i : Int) ≤ x i ∧ x i ≤ rB i) : ∀ (m i : Nat), i + m ≤ 5 → ∃ qs ∈ qsAll m, qs.length = m ∧ ∀ j, j < m → KFit (i + j) (qs.getD j 0) (x (i + j))
  | 0, i, _ => ⟨[], List.mem_singleton.2 rfl, rfl, fun j hj => by omega⟩
  | m + 1, i, hi => by
    have e : qsAll (m + 1) = (2 :: List.replicate m 0) :: (3 :: List.replicate m 0) :: (qsAll m).map (fun qs => 1 :: qs) := rfl
    rw [e]
    have rest : ∀ q, KFit i q (x i) → ∀ j, j < m + 1 → KFit (i + j) ((q :: List.replicate m 0).getD j 0) (x (i + j)) := by
      intro q hq j hj
      cases j with
      | zero => exact hq
      | succ j =>
        have : (q :: List.replicate m 0).getD (j + 1) 0 = 0 := by
          rw [List.getD_cons_succ, List.getD_eq_getElem?_getD, List.getElem?_replicate]
          split <;> rfl
        rw [this]
        exact kfit0 (hx _)
    by_cases h1 : x i < -1000
    · exact ⟨_, List.mem_cons_self, by simp, rest 2 (kfit2 (hx i) h1)⟩
    · by_cases h2 : 1000 < x i
      · exact ⟨_, List.mem_cons_of_mem _ List.mem_cons_self, by simp, rest 3 (kfit3 (hx i) h2)⟩
      · obtain ⟨qs, hq, hl, hf⟩ := qsAll_of x hx m (i + 1) (by omega)
        refine ⟨1 :: qs, List.mem_cons_of_mem _ (List.mem_cons_of_mem _ (List.mem_map.2 ⟨qs, hq, rfl⟩)), by simp [hl], fun j hj => ?_⟩
        cases j with
        | zero =>
          show KFit i 1 (x i)
          exact kfit1 ⟨by omega, by omega⟩
        | succ j =>
          have := hf j (by omega)
          rw [show i + 1 + j = i + (j + 1) from by omega] at this
          exact this
/-! ### what comes out -/
theorem mul_abs {a b : Int} {A B : Nat} (h1 : -(A : Int) ≤ a ∧ a ≤ A) (h2 : -(B : Int) ≤ b ∧ b ≤ B) : -((A * B : Nat) : Int) ≤ a * b ∧ a * b ≤ ((A * B : Nat) : Int) := by
  have h : (a * b).natAbs ≤ A * B := by
    rw [Int.natAbs_mul]
    exact Nat.mul_le_mul (by omega) (by omega)
  generalize a * b = c at *
  generalize A * B = C at *
  omega
/-- what comes out of power sums, and the rests -/
structure RootsEq (p x r : Nat → Int) : Prop where
  h1 : x 0 = p 0
  h2 : x 0 * p 0 - p 1 = 2 * x 1 + r 2
  h3 : x 1 * p 0 - x 0 * p 1 + p 2 = 3 * x 2 + r 3
  h4 : x 2 * p 0 - x 1 * p 1 + x 0 * p 2 - p 3 = 4 * x 3 + r 4
  h5 : x 3 * p 0 - x 2 * p 1 + x 1 * p 2 - x 0 * p 3 + p 4 = 5 * x 4 + r 5
structure RootsOf (p x r : Nat → Int) : Prop where
  eq : RootsEq p x r
  hr : ∀ k, 2 ≤ k → k ≤ 5 → 0 ≤ r k ∧ r k < k
  hx : ∀ i, -(rB i : Int) ≤ x i ∧ x i ≤ rB i
theorem roots_of (p : Nat → Int) (hp : ∀ i, -10000 ≤ p i ∧ p i ≤ 10000) : ∃ x r, RootsOf p x r := by
  have P : ∀ i, -((10000 : Nat) : Int) ≤ p i ∧ p i ≤ ((10000 : Nat) : Int) := fun i => by have := hp i; omega
  obtain ⟨x0, e0⟩ : ∃ z, z = p 0 := ⟨_, rfl⟩
  have b0 : -((10000 : Nat) : Int) ≤ x0 ∧ x0 ≤ ((10000 : Nat) : Int) := by rw [e0]; exact P 0
  obtain ⟨s2, d2⟩ : ∃ z, z = x0 * p 0 - p 1 := ⟨_, rfl⟩
  have m20 := mul_abs b0 (P 0)
  have q1 := hp 1
  have c2 : -100010000 ≤ s2 ∧ s2 ≤ 100010000 := by rw [d2]; generalize x0 * p 0 = a at *; omega
  obtain ⟨x1, e1⟩ : ∃ z, z = s2 / 2 := ⟨_, rfl⟩
  have b1 : -((50005001 : Nat) : Int) ≤ x1 ∧ x1 ≤ ((50005001 : Nat) : Int) := by omega
  obtain ⟨s3, d3⟩ : ∃ z, z = x1 * p 0 - x0 * p 1 + p 2 := ⟨_, rfl⟩
  have m30 := mul_abs b1 (P 0)
  have m31 := mul_abs b0 (P 1)
  have q2 := hp 2
  have c3 : -500150020000 ≤ s3 ∧ s3 ≤ 500150020000 := by rw [d3]; generalize x1 * p 0 = a at *; generalize x0 * p 1 = b at *; omega
  obtain ⟨x2, e2⟩ : ∃ z, z = s3 / 3 := ⟨_, rfl⟩
  have b2 : -((166716673334 : Nat) : Int) ≤ x2 ∧ x2 ≤ ((166716673334 : Nat) : Int) := by omega
  obtain ⟨s4, d4⟩ : ∃ z, z = x2 * p 0 - x1 * p 1 + x0 * p 2 - p 3 := ⟨_, rfl⟩
  have m40 := mul_abs b2 (P 0)
  have m41 := mul_abs b1 (P 1)
  have m42 := mul_abs b0 (P 2)
  have q3 := hp 3
  have c4 : -1667666883360000 ≤ s4 ∧ s4 ≤ 1667666883360000 := by rw [d4]; generalize x2 * p 0 = a at *; generalize x1 * p 1 = b at *; generalize x0 * p 2 = c at *; omega
  obtain ⟨x3, e3⟩ : ∃ z, z = s4 / 4 := ⟨_, rfl⟩
  have b3 : -((416916720840001 : Nat) : Int) ≤ x3 ∧ x3 ≤ ((416916720840001 : Nat) : Int) := by omega
  obtain ⟨s5, d5⟩ : ∃ z, z = x3 * p 0 - x2 * p 1 + x1 * p 2 - x0 * p 3 + p 4 := ⟨_, rfl⟩
  have m50 := mul_abs b3 (P 0)
  have m51 := mul_abs b2 (P 1)
  have m52 := mul_abs b1 (P 2)
  have m53 := mul_abs b0 (P 3)
  have q4 := hp 4
  have c5 : -4170834875283370000 ≤ s5 ∧ s5 ≤ 4170834875283370000 := by rw [d5]; generalize x3 * p 0 = a at *; generalize x2 * p 1 = b at *; generalize x1 * p 2 = c at *; generalize x0 * p 3 = d at *; omega
  obtain ⟨x4, e4⟩ : ∃ z, z = s5 / 5 := ⟨_, rfl⟩
  have b4 : -((834166975056674001 : Nat) : Int) ≤ x4 ∧ x4 ≤ ((834166975056674001 : Nat) : Int) := by omega
  refine ⟨fun i => [x0, x1, x2, x3, x4].getD i 0, fun k => [0, 0, s2 % 2, s3 % 3, s4 % 4, s5 % 5].getD k 0, ⟨⟨e0, ?_, ?_, ?_, ?_⟩, ?_, ?_⟩⟩
  · show x0 * p 0 - p 1 = 2 * x1 + s2 % 2
    rw [← d2]; omega
  · show x1 * p 0 - x0 * p 1 + p 2 = 3 * x2 + s3 % 3
    rw [← d3]; omega
  · show x2 * p 0 - x1 * p 1 + x0 * p 2 - p 3 = 4 * x3 + s4 % 4
    rw [← d4]; omega
  · show x3 * p 0 - x2 * p 1 + x1 * p 2 - x0 * p 3 + p 4 = 5 * x4 + s5 % 5
    rw [← d5]; omega
  · intro k h1 h2
    have hk : k = 2 ∨ k = 3 ∨ k = 4 ∨ k = 5 := by omega
    rcases hk with rfl | rfl | rfl | rfl
    · show 0 ≤ s2 % 2 ∧ s2 % 2 < _; omega
    · show 0 ≤ s3 % 3 ∧ s3 % 3 < _; omega
    · show 0 ≤ s4 % 4 ∧ s4 % 4 < _; omega
    · show 0 ≤ s5 % 5 ∧ s5 % 5 < _; omega
  · intro i
    match i with
    | 0 => exact b0
    | 1 => exact b1
    | 2 => exact b2
    | 3 => exact b3
    | 4 => exact b4
    | i + 5 => simp [rB]
theorem rPs_ok : ∀ k R i, i < k → k ≤ 5 → ((rPs k R).getD i (.c 0)).ok = true := by
  intro k R i h1 h2
  have hk : k = 1 ∨ k = 2 ∨ k = 3 ∨ k = 4 ∨ k = 5 := by omega
  have hi : i = 0 ∨ i = 1 ∨ i = 2 ∨ i = 3 ∨ i = 4 := by omega
  rcases hk with rfl | rfl | rfl | rfl | rfl <;> rcases hi with rfl | rfl | rfl | rfl | rfl <;> first | (exfalso; omega) | rfl
theorem rPs_len : ∀ k R, 1 ≤ k → k ≤ 5 → (rPs k R).length = k := by
  intro k R h1 h2
  have hk : k = 1 ∨ k = 2 ∨ k = 3 ∨ k = 4 ∨ k = 5 := by omega
  rcases hk with rfl | rfl | rfl | rfl | rfl <;> rfl
section
variable {p x r : Nat → Int} (h : RootsEq p x r)
include h
theorem rP2_val {R : Nat} (hR : (R : Int) = r 2) : (rP2 R).val x = p 1 := by
  have e : (rP2 R).val x = x 0 * x 0 + -(2 * x 1 + R) := rfl
  rw [e, hR]
  have := h.h2
  rw [← h.h1] at this
  generalize x 0 * x 0 = a at *
  omega
theorem rP3_val {R : Nat} (h2 : r 2 = 0) (hR : (R : Int) = r 3) : (rP3 R).val x = p 2 := by
  have e : (rP3 R).val x = 3 * x 2 + R + -(x 1 * x 0) + x 0 * (rP2 0).val x := rfl
  rw [e, rP2_val h (R := 0) (by rw [h2]; rfl), hR]
  have := h.h3
  rw [← h.h1] at this
  generalize x 1 * x 0 = a at *
  generalize x 0 * p 1 = b at *
  omega
theorem rP4_val {R : Nat} (h2 : r 2 = 0) (h3 : r 3 = 0) (hR : (R : Int) = r 4) : (rP4 R).val x = p 3 := by
  have e : (rP4 R).val x = x 2 * x 0 + -(x 1 * (rP2 0).val x) + x 0 * (rP3 0).val x + -(4 * x 3 + R) := rfl
  rw [e, rP2_val h (R := 0) (by rw [h2]; rfl), rP3_val h (R := 0) h2 (by rw [h3]; rfl), hR]
  have := h.h4
  rw [← h.h1] at this
  generalize x 2 * x 0 = a at *
  generalize x 1 * p 1 = b at *
  generalize x 0 * p 2 = c at *
  omega
theorem rP5_val {R : Nat} (h2 : r 2 = 0) (h3 : r 3 = 0) (h4 : r 4 = 0) (hR : (R : Int) = r 5) : (rP5 R).val x = p 4 := by
  have e : (rP5 R).val x = 5 * x 4 + R + -(x 3 * x 0) + x 2 * (rP2 0).val x + -(x 1 * (rP3 0).val x) + x 0 * (rP4 0).val x := rfl
  rw [e, rP2_val h (R := 0) (by rw [h2]; rfl), rP3_val h (R := 0) h2 (by rw [h3]; rfl), rP4_val h (R := 0) h2 h3 (by rw [h4]; rfl), hR]
  have := h.h5
  rw [← h.h1] at this
  generalize x 3 * x 0 = a at *
  generalize x 2 * p 1 = b at *
  generalize x 1 * p 2 = c at *
  generalize x 0 * p 3 = d at *
  omega
theorem rPs_val {k R : Nat} (h1 : 1 ≤ k) (h5 : k ≤ 5) (h0 : ∀ j, 2 ≤ j → j < k → r j = 0) (hR : 2 ≤ k → (R : Int) = r k) : ∀ i, i < k → ((rPs k R).getD i (.c 0)).val x = p i := by
  have z : ∀ j, 2 ≤ j → j < k → ((0 : Nat) : Int) = r j := fun j a b => by rw [h0 j a b]; rfl
  have one : rP1.val x = p 0 := h.h1
  intro i hi
  have hk : k = 1 ∨ k = 2 ∨ k = 3 ∨ k = 4 ∨ k = 5 := by omega
  rcases hk with rfl | rfl | rfl | rfl | rfl
  · obtain rfl : i = 0 := by omega
    exact one
  · have hi : i = 0 ∨ i = 1 := by omega
    rcases hi with rfl | rfl
    · exact one
    · exact rP2_val h (hR (by omega))
  · have hi : i = 0 ∨ i = 1 ∨ i = 2 := by omega
    rcases hi with rfl | rfl | rfl
    · exact one
    · exact rP2_val h (z 2 (by omega) (by omega))
    · exact rP3_val h (h0 2 (by omega) (by omega)) (hR (by omega))
  · have hi : i = 0 ∨ i = 1 ∨ i = 2 ∨ i = 3 := by omega
    rcases hi with rfl | rfl | rfl | rfl
    · exact one
    · exact rP2_val h (z 2 (by omega) (by omega))
    · exact rP3_val h (h0 2 (by omega) (by omega)) (z 3 (by omega) (by omega))
    · exact rP4_val h (h0 2 (by omega) (by omega)) (h0 3 (by omega) (by omega)) (hR (by omega))
  · have hi : i = 0 ∨ i = 1 ∨ i = 2 ∨ i = 3 ∨ i = 4 := by omega
    rcases hi with rfl | rfl | rfl | rfl | rfl
    · exact one
    · exact rP2_val h (z 2 (by omega) (by omega))
    · exact rP3_val h (h0 2 (by omega) (by omega)) (z 3 (by omega) (by omega))
    · exact rP4_val h (h0 2 (by omega) (by omega)) (h0 3 (by omega) (by omega)) (z 4 (by omega) (by omega))
    · exact rP5_val h (h0 2 (by omega) (by omega)) (h0 3 (by omega) (by omega)) (h0 4 (by omega) (by omega)) (hR (by omega))
end
theorem rfWs_len (m k : Nat) : ∀ n, (rfWs m k n).length = n
  | 0 => rfl
  | n + 1 => by show (rfWs m k n ++ [rfW m k n]).length = _; rw [List.length_append, rfWs_len m k n]; rfl
theorem rfWs_get (m k : Nat) : ∀ n i, i < n → (rfWs m k n).getD i 0 = rfW m k i
  | 0, i, h => by omega
  | n + 1, i, h => by
    show (rfWs m k n ++ [rfW m k n]).getD i 0 = _
    rw [List.getD_eq_getElem?_getD, List.getElem?_append, rfWs_len]
    by_cases hi : i < n
    · rw [if_pos hi, ← List.getD_eq_getElem?_getD]
      exact rfWs_get m k n i hi
    · have : i = n := by omega
      subst this
      rw [if_neg hi, Nat.sub_self]; rfl
theorem first_rest (r : Nat → Int) (n : Nat) (hr : ∀ k, 2 ≤ k → k ≤ 5 → 0 ≤ r k ∧ r k < k) (hn : n ≤ 5) : (∀ j, 2 ≤ j → j ≤ n → r j = 0) ∨ ∃ k, 2 ≤ k ∧ k ≤ n ∧ r k ≠ 0 ∧ ∀ j, 2 ≤ j → j < k → r j = 0 := by
  induction n with
  | zero => exact .inl fun j a b => by omega
  | succ n ih =>
    rcases ih (by omega) with h | ⟨k, h1, h2, h3, h4⟩
    · by_cases hz : 2 ≤ n + 1 ∧ r (n + 1) ≠ 0
      · exact .inr ⟨n + 1, hz.1, Nat.le_refl _, hz.2, fun j a b => h j a (by omega)⟩
      · refine .inl fun j a b => ?_
        by_cases hj : j = n + 1
        · subst hj
          by_cases h0 : r (n + 1) = 0
          · exact h0
          · exact absurd ⟨a, h0⟩ hz
        · exact h j a (by omega)
    · exact .inr ⟨k, h1, by omega, h3, h4⟩
/-- ██ The walk of a law on a short list of power sums, out of its runs. -/
theorem from_walk {P : Program} {S0 : Sums} (hS0 : Always P S0) {F : Fns} {tInt fN fuel dd f : Nat} (K : ListK P F.to F.eq F.mark F.inn F.of tInt) (KN : NoF P fN 5) {w : World}
    {a : Option Addr} {len cap : Nat} {zs : List Int} (w0 : IntRow w a len cap zs) (h1 : ∀ c ∈ lcs 5, isOkC c = true ∨ rfRunC P S0 F fN 10000 5 fuel dd f c = true)
    (h2 : ∀ n, 1 ≤ n → n ≤ 5 → ∀ qs ∈ qsAll n, rfRun P S0 F fN 5 fuel dd f n n 0 (rFq qs 0) = true)
    (h3 : ∀ n k r, 2 ≤ k → k ≤ n → n ≤ 5 → 1 ≤ r → r < k → ∀ q ∈ [4, 5], rfRun P S0 F fN 5 fuel dd f n k r (rFq (List.replicate (k - 1) 0 ++ [q]) 0) = true) :
    Calls P f #[.slice a len cap] w fun e w' => e = .returned (.bool true) ∧ Below w.heap.size w w' := by
  have hr := w0.ra
  obtain ⟨w1, w2, w3⟩ := hr.wf
  obtain ⟨c, hcm, hf⟩ := LC.of 10000 5 hr
  rcases h1 c hcm with hok | hrun
  rotate_left
  · obtain ⟨hz, hE⟩ := oneL_listE (l := zs.take len) ⟨w1, w2⟩ (A := fun _ => 0) (C := fun i => nth (zs.take len) i) (hA := fun _ => rng0) (hC := fun i => wf_of_nth w1 i)
    letI E : Env := sEnv (fun _ => 0) (fun i => nth (zs.take len) i) (fun _ => zero0) (oneL (zs.take len)) (fun _ => rng0) (fun i => wf_of_nth w1 i) (fun _ => zero0_size) (fun _ _ => txt0_ok) hz
    obtain ⟨ρ, L, c1, _, hv⟩ := LC.put (j := 16) (o := 0) (Ctx.start w) (by omega) (by omega) (by omega) (by omega) (by omega) hr hf ((sEnv_lst (by omega)).trans (by unfold oneL; rw [if_neg (by omega)])) (fun i _ _ => (sEnv_pv _).trans (by rw [Nat.zero_add]))
    exact run_true (orS_sound (orS_sound (listS_sound K hE) (noF_sound KN hE)) (hS0 _)) c1 (.cons _ _ _ _ hv .nil) hrun
  cases c with
  | ok n =>
    obtain ⟨g1, g2, g3, g4⟩ := hf
    have hp : ∀ i, -10000 ≤ nth (zs.take len) i ∧ nth (zs.take len) i ≤ 10000 := fun i => by
      by_cases hi : i < n
      · have := g4 i hi; omega
      · have : nth (zs.take len) i = 0 := by unfold nth; rw [List.getD_eq_getElem?_getD, List.getElem?_eq_none (by omega)]; rfl
        omega
    obtain ⟨x, r, hx⟩ := roots_of (nth (zs.take len)) hp
    have hC : ∀ j, Rng (if j < 5 then x j else if j < 8 then 0 else nth (zs.take len) (j - 8)) := fun j => by
      unfold Rng
      split
      · have := hx.hx j; have := rB_lt j; omega
      · split
        · omega
        · have := hp (j - 8); omega
    obtain ⟨hz, hE⟩ := oneL_listE (l := zs.take len) ⟨w1, w2⟩ (A := fun _ => 0) (C := fun j => if j < 5 then x j else if j < 8 then 0 else nth (zs.take len) (j - 8)) (hA := fun _ => rng0) (hC := hC)
    letI E : Env := sEnv (fun _ => 0) (fun j => if j < 5 then x j else if j < 8 then 0 else nth (zs.take len) (j - 8)) (fun _ => zero0) (oneL (zs.take len)) (fun _ => rng0) hC (fun _ => zero0_size) (fun _ _ => txt0_ok) hz
    have ev : ∀ i, i < 5 → E.int (pvIx i) = x i := fun i hi => (sEnv_pv i).trans (if_pos hi)
    have ep : ∀ i, E.int (pvIx (8 + i)) = nth (zs.take len) i := fun i => (sEnv_pv (8 + i)).trans (by rw [if_neg (by omega), if_neg (by omega), show 8 + i - 8 = i from by omega])
    have hne : zs.take len ≠ [] := fun h => by rw [h] at g1; simp at g1; omega
    have hrh : RowH w a len cap (zs.take len) := hr.resolve_right (fun ⟨_, _, h2, _⟩ => hne h2)
    have main : ∀ (k R : Nat) (qs : List Nat), 1 ≤ k → k ≤ n → qs.length = k → (∀ j, 2 ≤ j → j < k → r j = 0) → (2 ≤ k → (R : Int) = r k) → (∀ j, j < k → KFit j (qs.getD j 0) (x j)) → rfRun P S0 F fN 5 fuel dd f n k R (rFq qs 0) = true →
        Calls P f #[.slice a len cap] w fun e w' => e = .returned (.bool true) ∧ Below w.heap.size w w' := by
      intro k R qs k1 k2 hq hr0 hR hfit hrun
      have hl := rFq_len qs 0
      obtain ⟨L0, c0, _⟩ := put_fe (rFq qs 0) 0 .nil _ _ w.heap.size w (Ctx.start w) (by rw [hl]; omega) (rFq_ok qs 0 (by omega) (fun j hj => by rw [Nat.zero_add, ev j (by omega)]; exact hfit j (by omega)))
      rw [Nat.zero_add] at c0
      have hps := rPs_len k R k1 (by omega)
      have hval : ∀ e : PX, e.val (fun i => E.int (pvIx i)) = e.val (fun i => E.int (pvIx i)) := fun _ => rfl
      obtain ⟨L1, c1, _, hv1⟩ := put_pxs (rPs k R) (nth (zs.take len)) (rFq qs 0).length _ _ L0 c0 (by rw [hl, hps]; omega) (fun i hi => by
        rw [hps] at hi
        refine ⟨rPs_ok k R i hi (by omega), ?_, hp i⟩
        have hX : RootsEq (nth (zs.take len)) (fun i => E.int (pvIx i)) r := ⟨(ev 0 (by omega)).trans hx.eq.h1, by simp only [ev 0 (by omega), ev 1 (by omega)]; exact hx.eq.h2, by simp only [ev 0 (by omega), ev 1 (by omega), ev 2 (by omega)]; exact hx.eq.h3,
          by simp only [ev 0 (by omega), ev 1 (by omega), ev 2 (by omega), ev 3 (by omega)]; exact hx.eq.h4, by simp only [ev 0 (by omega), ev 1 (by omega), ev 2 (by omega), ev 3 (by omega), ev 4 (by omega)]; exact hx.eq.h5⟩
        exact rPs_val hX k1 (by omega) hr0 hR i hi)
      rw [hps] at c1 hv1
      obtain ⟨ρ, L, c2, hv⟩ := put_words (ws := rfWs (rFq qs 0).length k n) c1 (by rw [hl]; omega) hrh (by omega) (by rw [rfWs_len]; exact g1.symm) (fun i hi => by
        rw [rfWs_len] at hi
        rw [rfWs_get _ _ _ _ hi]
        unfold rfW
        rw [sel_ltb]
        split
        · rename_i hik
          refine ⟨hv1 i hik, ?_⟩
          rw [storable_iff]
          unfold polyW
          rw [tag_mk7]
          refine ⟨by decide, by decide, by decide, ?_⟩
          show 16 * (16 + 4 * ((rFq qs 0).length + i)) + 7 < _
          rw [hl]; omega
        · refine ⟨?_, ?_⟩
          · have hpi := hp i
            have e8 : Nat.add 8 i = 8 + i := rfl
            rw [e8, ← ep i]
            exact .var _ _ _ (by omega) (by omega) (.inr (by rw [ep i]; omega)) (.inr (by rw [ep i]; omega))
          · rw [storable_iff, tag_wV]
            exact ⟨by decide, by decide, by decide, wV_slot (by show 8 + i < _; omega) (by omega) (by omega)⟩) (by omega)
      rw [rfWs_len] at c2 hv
      exact run_true (orS_sound (orS_sound (listS_sound K hE) (noF_sound KN hE)) (hS0 _)) c2 (.cons _ _ _ _ hv .nil) hrun
    rcases first_rest r n hx.hr g3 with hall | ⟨k, k1, k2, k3, k4⟩
    · obtain ⟨qs, hq, hl, hfit⟩ := qsAll_of x hx.hx n 0 (by omega)
      refine main n 0 qs g2 (Nat.le_refl _) hl (fun j a b => hall j a (by omega)) (fun h => by simp [hall n h (Nat.le_refl _)]) (fun j hj => ?_) (h2 n g2 g3 qs hq)
      have := hfit j hj
      rw [Nat.zero_add] at this
      exact this
    · have hrk := hx.hr k k1 (by omega)
      have fin : ∀ q ∈ [4, 5], KFit (k - 1) q (x (k - 1)) → Calls P f #[.slice a len cap] w fun e w' => e = .returned (.bool true) ∧ Below w.heap.size w w' := by
        intro q hq hk
        refine main k (r k).toNat (List.replicate (k - 1) 0 ++ [q]) (by omega) k2 (by simp; omega) k4 (fun _ => by omega) (fun j hj => ?_) (h3 n k (r k).toNat k1 k2 g3 (by omega) (by omega) q hq)
        rw [List.getD_eq_getElem?_getD, List.getElem?_append, List.length_replicate]
        by_cases hjk : j < k - 1
        · rw [if_pos hjk, List.getElem?_replicate, if_pos hjk]
          exact kfit0 (hx.hx j)
        · have : j = k - 1 := by omega
          subst this
          rw [if_neg hjk, Nat.sub_self]
          exact hk
      by_cases hs : x (k - 1) < 0
      · exact fin 4 (by simp) (kfit4 (hx.hx _) hs)
      · exact fin 5 (by simp) (kfit5 (hx.hx _) (by omega))
  | _ => cases hok
end Go.Eng
