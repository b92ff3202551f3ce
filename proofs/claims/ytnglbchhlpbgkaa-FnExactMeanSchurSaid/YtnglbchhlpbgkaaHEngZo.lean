/- Part of the evaluator: Zk Zn Zo. -/
import Derived.Test.YtnglbchhlpbgkaaHEngZi
import Derived.Test.YtnglbchhlpbgkaaHEngXi
import Derived.Test.YtnglbchhlpbgkaaHEngZd

/- Laws on short lists of ints between bounds, parted by what sums of products come to. -/
namespace Go.Eng
set_option linter.unusedSectionVars false
set_option linter.unusedSimpArgs false
set_option linter.unusedVariables false
open Go Go.RowKit

/-! ### short lists between bounds -/
/-- What a list may be where numbers from -m to m are asked, x of them at most: nil; no room; empty; so many in range; so many, one of which is the first out of range; too many; too long. -/
inductive LC where
  | nil
  | zero
  | emp
  | ok (n : Nat)
  | bad (n p : Nat) (up : Bool)
  | more
  | long
noncomputable section
def bM (m : Nat) : Nat × Nat := (Nat.sub 549755813888 m, Nat.add 549755813888 m)
def bLo (m : Nat) : Nat × Nat := (0, Nat.sub 549755813887 m)
def bHi (m : Nat) : Nat × Nat := (Nat.add 549755813889 m, 0)
def selM (up : Bool) (m : Nat) : Nat × Nat := Bool.rec (motive := fun _ => Nat × Nat) (bLo m) (bHi m) up
def badM (m n p : Nat) (up : Bool) : List (Nat × Nat) := repB (bM m) p ++ (selM up m :: repB bAll (Nat.sub n (Nat.succ p)))
/-- word and heap: m the bound, x the most numbers, n the place, j the index of the list, o the first variable -/
def LC.word (c : LC) (x n j : Nat) : Nat := LC.rec (motive := fun _ => Nat) sNil 14 (wS n 1 0 0 0) (fun k => wS n 1 0 k 0) (fun k _ _ => wS n 1 0 k 0) (wO n j (Nat.succ x) 1048576) (wO n j 1048577 0) c
def LC.heap (c : LC) (m n j o : Nat) (H : Trie) : Trie := LC.rec (motive := fun _ => Trie) H H (hset H n (.cells 0 0 0 0 0 0)) (fun k => hset H n (.cells k (listW (rowW (repB (bM m) k) o)) 0 0 0 0))
  (fun k p up => hset H n (.cells k (listW (rowW (badM m k p up) o)) 0 0 0 0)) (hset H n (.opq j 1)) (hset H n (.opq j 1)) c
def lcs (x : Nat) : List LC := .nil :: .zero :: .emp :: .more :: .long :: Nat.rec (motive := fun _ => List LC) [] (fun k ih => .ok (Nat.succ k) :: (Nat.rec (motive := fun _ => List LC) ih (fun p ih => .bad (Nat.succ k) p false :: .bad (Nat.succ k) p true :: ih) (Nat.succ k))) x
end
def LC.Fits (c : LC) (m x : Nat) (a : Option Addr) (cap : Nat) (l : List Int) : Prop :=
  match c with
  | .nil => a = none ∧ cap = 0 ∧ l = []
  | .zero => a ≠ none ∧ cap = 0 ∧ l = []
  | .emp => 0 < cap ∧ l = []
  | .ok n => l.length = n ∧ 1 ≤ n ∧ n ≤ x ∧ ∀ i, i < n → -(m : Int) ≤ nth l i ∧ nth l i ≤ m
  | .bad n p up => l.length = n ∧ p < n ∧ n ≤ x ∧ (∀ i, i < p → -(m : Int) ≤ nth l i ∧ nth l i ≤ m) ∧ (if up then (m : Int) < nth l p else nth l p < -(m : Int))
  | .more => x < l.length ∧ l.length ≤ 1048576
  | .long => x < l.length ∧ 1048576 < l.length
theorem lcs_inner {k : Nat} {ih : List LC} : ∀ (q : Nat) (c : LC), (c ∈ ih ∨ ∃ p up, p < q ∧ c = .bad k p up) → c ∈ (Nat.rec (motive := fun _ => List LC) ih (fun p ih => .bad k p false :: .bad k p true :: ih) q : List LC)
  | 0, c, h => by
    rcases h with h | ⟨p, up, h, _⟩
    · exact h
    · omega
  | q + 1, c, h => by
    show c ∈ LC.bad k q false :: .bad k q true :: (Nat.rec (motive := fun _ => List LC) ih (fun p ih => .bad k p false :: .bad k p true :: ih) q : List LC)
    rcases h with h | ⟨p, up, h, rfl⟩
    · simp [lcs_inner q c (.inl h)]
    · by_cases hp : p = q
      · subst hp; cases up <;> simp
      · simp [lcs_inner q (.bad k p up) (.inr ⟨p, up, by omega, rfl⟩)]
theorem lcs_rows : ∀ (x : Nat) (c : LC), (∃ n, 1 ≤ n ∧ n ≤ x ∧ (c = .ok n ∨ ∃ p up, p < n ∧ c = .bad n p up)) →
    c ∈ (Nat.rec (motive := fun _ => List LC) [] (fun k ih => .ok (Nat.succ k) :: (Nat.rec (motive := fun _ => List LC) ih (fun p ih => .bad (Nat.succ k) p false :: .bad (Nat.succ k) p true :: ih) (Nat.succ k))) x : List LC)
  | 0, c, ⟨n, h1, h2, _⟩ => by omega
  | x + 1, c, ⟨n, h1, h2, h⟩ => by
    show c ∈ LC.ok (Nat.succ x) :: (Nat.rec (motive := fun _ => List LC) _ (fun p ih => .bad (Nat.succ x) p false :: .bad (Nat.succ x) p true :: ih) (Nat.succ x) : List LC)
    by_cases hn : n = x + 1
    · subst hn
      rcases h with rfl | ⟨p, up, hp, rfl⟩
      · exact List.mem_cons_self
      · exact List.mem_cons_of_mem _ (lcs_inner (k := Nat.succ x) (Nat.succ x) _ (.inr ⟨p, up, hp, rfl⟩))
    · exact List.mem_cons_of_mem _ (lcs_inner (k := Nat.succ x) (Nat.succ x) _ (.inl (lcs_rows x c ⟨n, h1, by omega, h⟩)))
theorem LC.of (m x : Nat) {w : World} {a : Option Addr} {len cap : Nat} {l : List Int} (hr : RowA w a len cap l) : ∃ c ∈ lcs x, c.Fits m x a cap l := by
  rcases hr with hr | ⟨_, h1, h2, _⟩
  rotate_left
  · exact ⟨.emp, by simp [lcs], h1, h2⟩
  by_cases h0 : l = []
  · rcases hr.nil_of h0 with ⟨g1, g2, _⟩ | ⟨q, g1, g2, _⟩
    · exact ⟨.nil, by simp [lcs], g1, g2, h0⟩
    · exact ⟨.zero, by simp [lcs], by rw [g1]; simp, g2, h0⟩
  have hl1 : 1 ≤ l.length := by
    rcases l with _ | ⟨q, l⟩
    · exact absurd rfl h0
    · simp
  by_cases hx : x < l.length
  · by_cases hlong : 1048576 < l.length
    · exact ⟨.long, by simp [lcs], hx, hlong⟩
    · exact ⟨.more, by simp [lcs], hx, by omega⟩
  have row : ∀ c, (c = .ok l.length ∨ ∃ p up, p < l.length ∧ c = .bad l.length p up) → c ∈ lcs x := fun c h => by
    unfold lcs
    have := lcs_rows x c ⟨l.length, hl1, by omega, h⟩
    simp only [List.mem_cons]
    exact .inr (.inr (.inr (.inr (.inr this))))
  by_cases hex : ∃ p, p < l.length ∧ ¬ (-(m : Int) ≤ nth l p ∧ nth l p ≤ m)
  · have : ∃ p, p < l.length ∧ (∀ i, i < p → -(m : Int) ≤ nth l i ∧ nth l i ≤ m) ∧ ¬ (-(m : Int) ≤ nth l p ∧ nth l p ≤ m) := by
      obtain ⟨p, hp⟩ := hex
      induction p using Nat.strongRecOn with
      | _ p ih =>
        by_cases hq : ∃ i, i < p ∧ ¬ (-(m : Int) ≤ nth l i ∧ nth l i ≤ m)
        · obtain ⟨i, hi, hz⟩ := hq
          exact ih i hi ⟨by omega, hz⟩
        · refine ⟨p, hp.1, fun i hi => ?_, hp.2⟩
          by_cases hz : -(m : Int) ≤ nth l i ∧ nth l i ≤ m
          · exact hz
          · exact absurd ⟨i, hi, hz⟩ hq
    obtain ⟨p, hp, hin, hout⟩ := this
    by_cases hup : (m : Int) < nth l p
    · exact ⟨.bad l.length p true, row _ (.inr ⟨p, true, hp, rfl⟩), rfl, hp, by omega, hin, by simp; exact hup⟩
    · exact ⟨.bad l.length p false, row _ (.inr ⟨p, false, hp, rfl⟩), rfl, hp, by omega, hin, by simp; omega⟩
  · refine ⟨.ok l.length, row _ (.inl rfl), rfl, hl1, by omega, fun i hi => ?_⟩
    by_cases hz : -(m : Int) ≤ nth l i ∧ nth l i ≤ m
    · exact hz
    · exact absurd ⟨i, hi, hz⟩ hex

theorem badM_len {m n p : Nat} {up : Bool} (h : p < n) : (badM m n p up).length = n := by
  unfold badM
  rw [List.length_append, List.length_cons, repB_len, repB_len]
  have : Nat.sub n (Nat.succ p) = n - (p + 1) := rfl
  omega
theorem bM_fits {m : Nat} (hm : m < 100000000000) {z : Int} (h : -(m : Int) ≤ z ∧ z ≤ m) : FitsB (bM m) z ∧ okB (bM m) := by
  have e1 : (bM m).1 = 549755813888 - m := rfl
  have e2 : (bM m).2 = 549755813888 + m := rfl
  exact ⟨⟨.inr (by rw [e1]; omega), .inr (by rw [e2]; omega)⟩, by rw [e1]; omega, by rw [e2]; omega⟩
theorem selM_fits {m : Nat} (hm : m < 100000000000) {up : Bool} {z : Int} (h : if up then (m : Int) < z else z < -(m : Int)) : FitsB (selM up m) z ∧ okB (selM up m) := by
  cases up with
  | true =>
    have h : (m : Int) < z := by simpa using h
    have e1 : (selM true m).1 = 549755813889 + m := rfl
    have e2 : (selM true m).2 = 0 := rfl
    exact ⟨⟨.inr (by rw [e1]; omega), .inl e2⟩, by rw [e1]; omega, by rw [e2]; omega⟩
  | false =>
    have h : z < -(m : Int) := by simpa using h
    have e1 : (selM false m).1 = 0 := rfl
    have e2 : (selM false m).2 = 549755813887 - m := rfl
    exact ⟨⟨.inl e1, .inr (by rw [e2]; omega)⟩, by rw [e1]; omega, by rw [e2]; omega⟩
section
variable [E : Env]
theorem LC.put {c : LC} {m x n j o : Nat} {H : Trie} {ρ : Rho} {L : Look} {w : World} {a : Option Addr} {len cap : Nat} {l : List Int} (cx : Ctx w.heap.size H n ρ L w) (hn : n + 1 < 16384) (hm : m < 100000000000) (hx : x < 100) (ho : o < 1000) (hj : j < 1048576)
    (hr : RowA w a len cap l) (hf : c.Fits m x a cap l) (he : E.lst j = l.map (Value.int .i64)) (hv : ∀ i, i < 100 → i < l.length → E.int (pvIx (o + i)) = nth l i) :
    ∃ ρ' L', Ctx w.heap.size (c.heap m n j o H) (n + 1) ρ' L' w ∧ Ext ρ L ρ' L' ∧ VR ρ' L' (c.word x n j) (.slice a len cap) := by
  have skip : Ctx w.heap.size H (n + 1) ρ L w := ⟨cx.sim, cx.agree, fun b hb => cx.fresh b (by omega)⟩
  have main : l ≠ [] → RowH w a len cap l := fun h => hr.resolve_right (fun ⟨_, _, h2, _⟩ => h h2)
  cases c with
  | nil =>
    obtain ⟨rfl, rfl, rfl⟩ := hf
    have hr := hr.resolve_right (fun ⟨_, h, _⟩ => by omega)
    rcases hr.nil_of rfl with ⟨_, _, rfl⟩ | ⟨q, h1, _⟩
    · exact ⟨ρ, L, skip, .refl _ _, .sliceNil⟩
    · cases h1
  | zero =>
    obtain ⟨h0, rfl, rfl⟩ := hf
    have hr := hr.resolve_right (fun ⟨_, h, _⟩ => by omega)
    rcases hr.nil_of rfl with ⟨h1, _⟩ | ⟨q, rfl, _, rfl⟩
    · exact absurd h1 h0
    · exact ⟨ρ, L, skip, .refl _ _, .sl0 q⟩
  | emp =>
    obtain ⟨h0, rfl⟩ := hf
    rcases hr with hr | ⟨rfl, _, _, rb, dd, cs, ty, fz, rfl, hh, hsz, hcap⟩
    · rcases hr.nil_of rfl with ⟨_, h1, _⟩ | ⟨q, _, h1, _⟩ <;> omega
    have hrb : rb < w.heap.size := (Array.getElem?_eq_some_iff.1 hh).1
    have c1 := cx.arg (nb := 0) (ch := 0) (sz := cap) (d := dd) (by omega) hh hrb hsz (by omega) (fun i hi => by omega)
    have e1 : Ext ρ L (updR ρ n (rb, dd, cap)) (upd L n (.cells 0 0 0 0 0 0)) := .fresh cx.fresh _ _
    exact ⟨_, _, c1, e1, .slice n 1 0 0 0 rb dd cap cap _ (updR_same _ _ _) (by omega) (by omega) (by omega) (by omega) (by omega) hcap (.inl rfl) (.inr ⟨rfl, by omega⟩)⟩
  | ok k =>
    obtain ⟨h1, h2, h3, h4⟩ := hf
    have hl : (repB (bM m) k).length = l.length := by rw [repB_len]; omega
    obtain ⟨ρ1, L1, c1, e1, v1⟩ := put_row (o := o) (bs := repB (bM m) k) cx (by omega) (main (fun h => by rw [h] at h1; simp at h1; omega)) (by omega) (by omega) ho hl
      (fun b hb => by rw [repB_mem hb]; exact (bM_fits hm (z := 0) ⟨by omega, by omega⟩).2) (fun i hi => by rw [repB_get _ _ _ (by rw [repB_len] at hi; exact hi)]; exact (bM_fits hm (h4 i (by rw [repB_len] at hi; exact hi))).1) (fun i hi => hv i (by omega) hi) (by omega)
    rw [repB_len] at c1 v1
    exact ⟨ρ1, L1, c1, e1, v1⟩
  | bad k p up =>
    obtain ⟨h1, h2, h3, h4, h5⟩ := hf
    have hbl : (badM m k p up).length = k := badM_len h2
    have hz : ∀ i, i < (badM m k p up).length → FitsB ((badM m k p up).getD i bAll) (nth l i) := fun i hi => by
      rw [hbl] at hi
      have e : badM m k p up = repB (bM m) p ++ (selM up m :: repB bAll (Nat.sub k (Nat.succ p))) := rfl
      rw [e, List.getD_eq_getElem?_getD, List.getElem?_append, repB_len]
      by_cases hip : i < p
      · rw [if_pos hip, ← List.getD_eq_getElem?_getD, repB_get _ _ _ hip]
        exact (bM_fits hm (h4 i hip)).1
      · rw [if_neg hip]
        by_cases hie : i = p
        · subst hie
          rw [Nat.sub_self, List.getElem?_cons_zero]
          exact (selM_fits hm h5).1
        · obtain ⟨q, hq⟩ : ∃ q, i - p = q + 1 := ⟨i - p - 1, by omega⟩
          have e2 : Nat.sub k (Nat.succ p) = k - (p + 1) := rfl
          rw [hq, List.getElem?_cons_succ, ← List.getD_eq_getElem?_getD, repB_get _ _ _ (by omega)]
          exact ⟨.inl rfl, .inl rfl⟩
    have hok : ∀ b ∈ badM m k p up, okB b := fun b hb => by
      unfold badM at hb
      rcases List.mem_append.1 hb with hb | hb
      · rw [repB_mem hb]; exact (bM_fits hm (z := 0) ⟨by omega, by omega⟩).2
      · rcases List.mem_cons.1 hb with rfl | hb
        · exact (selM_fits hm h5).2
        · rw [repB_mem hb]; exact ⟨by decide, by decide⟩
    obtain ⟨ρ1, L1, c1, e1, v1⟩ := put_row (o := o) (bs := badM m k p up) cx (by omega) (main (fun h => by rw [h] at h1; simp at h1; omega)) (by omega) (by omega) ho (by omega) hok hz (fun i hi => hv i (by omega) hi) (by omega)
    rw [hbl] at c1 v1
    exact ⟨ρ1, L1, c1, e1, v1⟩
  | more =>
    obtain ⟨h1, h2⟩ := hf
    exact put_opq cx (by omega) hj (main (fun h => by rw [h] at h1; simp at h1)) (by omega) he (by show x + 1 < _; omega) (by omega) (by show x + 1 ≤ _; omega) (.inr h2)
  | long =>
    obtain ⟨h1, h2⟩ := hf
    exact put_opq cx (by omega) hj (main (fun h => by rw [h] at h1; simp at h1)) (by omega) he (by omega) (by omega) (by omega) (.inl rfl)
end

/-! ### ints -/
/-- What an int may be: known, below a bound, above one. -/
inductive ZC where
  | is (z : Int)
  | low (z : Int)
  | up (z : Int)
noncomputable section
def ZC.word (c : ZC) (j : Nat) : Nat := ZC.rec (motive := fun _ => Nat) (fun z => wI (uInt z)) (fun z => wV j 0 (z + 549755813887).toNat) (fun z => wV j (z + 549755813889).toNat 0) c
def zcs (lo : Int) (k : Nat) : List ZC := .low lo :: .up (lo + k) :: Nat.rec (motive := fun _ => List ZC) [.is lo] (fun i ih => .is (lo + (Nat.succ i : Nat)) :: ih) k
end
def ZC.Fits (c : ZC) (z : Int) : Prop := match c with | .is y => z = y | .low y => z < y | .up y => y < z
theorem zcs_mem {lo : Int} : ∀ (k i : Nat), i ≤ k → ZC.is (lo + (i : Nat)) ∈ (Nat.rec (motive := fun _ => List ZC) [.is lo] (fun i ih => .is (lo + (Nat.succ i : Nat)) :: ih) k : List ZC)
  | 0, i, h => by
    obtain rfl : i = 0 := by omega
    have e : lo + ((0 : Nat) : Int) = lo := by omega
    rw [e]
    exact List.mem_singleton.2 rfl
  | k + 1, i, h => by
    show ZC.is (lo + (i : Nat)) ∈ ZC.is (lo + (Nat.succ k : Nat)) :: (Nat.rec (motive := fun _ => List ZC) [.is lo] (fun i ih => .is (lo + (Nat.succ i : Nat)) :: ih) k : List ZC)
    by_cases hi : i = k + 1
    · subst hi; exact List.mem_cons_self
    · exact List.mem_cons_of_mem _ (zcs_mem k i (by omega))
theorem ZC.of (lo : Int) (k : Nat) (z : Int) : ∃ c ∈ zcs lo k, c.Fits z := by
  by_cases h1 : z < lo
  · exact ⟨.low lo, by simp [zcs], h1⟩
  · by_cases h2 : lo + k < z
    · exact ⟨.up (lo + k), by simp [zcs], h2⟩
    · refine ⟨.is (lo + ((z - lo).toNat : Nat)), ?_, by show z = _; omega⟩
      unfold zcs
      exact List.mem_cons_of_mem _ (List.mem_cons_of_mem _ (zcs_mem k _ (by omega)))
theorem ZC.put [E : Env] {ρ : Rho} {L : Look} {c : ZC} {z : Int} {j : Nat} (hf : c.Fits z) (he : E.int j = z) (hz : Rng z) (hb : ∀ y, c = .low y ∨ c = .up y → -100000000000 ≤ y ∧ y ≤ 100000000000) : VR ρ L (c.word j) (.int .i64 z) := by
  cases c with
  | is y =>
    have hf : z = y := hf
    subst hf
    have hz := hz
    unfold Rng at hz
    refine VR.wI_of z (uInt z) (uInt_lt _) ?_
    unfold sInt uInt
    split <;> omega
  | low y =>
    have hf : z < y := hf
    have := hb y (.inl rfl)
    rw [← he]
    exact .var j 0 _ (by omega) (by omega) (.inl rfl) (.inr (by rw [he]; omega))
  | up y =>
    have hf : y < z := hf
    have := hb y (.inr rfl)
    rw [← he]
    exact .var j _ 0 (by omega) (by omega) (.inr (by rw [he]; omega)) (.inl rfl)
theorem zcs_bound {lo : Int} {k : Nat} {c : ZC} (hc : c ∈ zcs lo k) (h1 : -10000000000 ≤ lo ∧ lo ≤ 10000000000) (h2 : k ≤ 10000000000) : ∀ y, c = .low y ∨ c = .up y → -100000000000 ≤ y ∧ y ≤ 100000000000 := by
  intro y hy
  have inner : ∀ (k : Nat) (c : ZC), c ∈ (Nat.rec (motive := fun _ => List ZC) [.is lo] (fun i ih => .is (lo + (Nat.succ i : Nat)) :: ih) k : List ZC) → ∃ z, c = .is z := by
    intro k
    induction k with
    | zero => intro c hc; exact ⟨_, List.mem_singleton.1 hc⟩
    | succ k ih =>
      intro c hc
      rcases List.mem_cons.1 (show c ∈ ZC.is (lo + (Nat.succ k : Nat)) :: _ from hc) with rfl | hc
      · exact ⟨_, rfl⟩
      · exact ih c hc
  unfold zcs at hc
  rcases List.mem_cons.1 hc with rfl | hc
  · rcases hy with hy | hy
    · injection hy with hy; omega
    · cases hy
  · rcases List.mem_cons.1 hc with rfl | hc
    · rcases hy with hy | hy
      · cases hy
      · injection hy with hy; omega
    · obtain ⟨z, rfl⟩ := inner k c hc
      rcases hy with hy | hy <;> cases hy

/-! ### a function that says no to longer lists -/
structure NoK (P : Program) (fN x : Nat) : Prop where
  kIn : Known P fN
  inn : ∀ (w : World) (rb d len cap : Nat) (z : Nat → Int), len ≤ 4194304 → (∀ r, r < len → w.cell? ⟨rb, d + r, none⟩ = some (.int .i64 (z r))) → x < len →
    Calls P fN #[.slice (some ⟨rb, d, none⟩) len cap] w fun e w' => e = .returned (.bool false) ∧ ∃ m, w' = w.drewN m
noncomputable section
def ninS (x s : Nat) (H : Trie) (n : Nat) : SR := opqW H s (gd (ltb x (oLo (payOf s))) (.yes (.ok 2 H n)))
def noS (fN x : Nat) : Sums := fun f args H n => sel (Nat.beq f fN) (match args with | [s] => ninS x s H n | _ => .no) .no
end
theorem noS_sound [E : Env] {P : Program} {fN x : Nat} {zs : Nat → List Int} (K : NoK P fN x) (hE : ListE zs) : SumS P (noS fN x) := by
  intro base H n ρ L w f args vs v H' n' cs c ha h
  unfold noS at h
  rw [sel_beq] at h
  generalize hvs : vs.toList = l at ha
  split at h
  · rename_i hf
    subst hf
    split at h
    · rename_i s
      rcases ha with _ | ⟨_, v1, _, vs1, hr1, ha1⟩
      cases ha1
      have hvv : vs = #[v1] := by cases vs; simp_all
      subst hvv
      unfold ninS at h
      obtain ⟨h, b, j, lo, hi, rb, d, sz, cap, hs, p1, p2, p3, p4, hb, hj, hlo, hhi, hh0, hl1, hl2, hl3, hcs, hcap, rfl, hb16, hget, cs0, ty, fz, ro, hL, hheap, hds, hfz, hcells, hrow⟩ := opqW_inv hE c hr1 h
      obtain ⟨g0, h⟩ := gd_inv h
      rw [p3] at g0
      have g0 := (ltb_iff _ _).1 g0
      injection h with h
      injection h with e1 e2 e3
      subst e1; subst e2; subst e3
      obtain ⟨e, W, ⟨he, m, hW⟩, hcall⟩ := calls_at (K.inn w rb d (zs j).length cap (nth (zs j)) (by omega) hrow (by omega)) cs
      subst he; subst hW
      exact ⟨ρ, L, _, _, c.drewN m, .refl _ _, ⟨rfl, rfl, rfl, Nat.le_refl _, fun _ _ => rfl⟩, .refl _ _ _ _, Nat.le_refl _, VR.bool false, K.kIn, hcall⟩
    · cases h
  · cases h

/-! ### the walks -/
noncomputable section
def lrunN (P : Program) (S0 : Sums) (F : Fns) (fN x fuel d f : Nat) (args : List Nat) (H : Trie) (n : Nat) : OR := funE P (callN P (orS (orS F.S (noS fN x)) S0) fuel d) fuel f args H n
/-- a law on a short list -/
def shRun (P : Program) (S0 : Sums) (F : Fns) (fN m x fuel d f : Nat) (c : LC) (fs : List FE) : Bool :=
  sel (ltb fs.length 16000) (isTrue (lrunN P S0 F fN x fuel d f [c.word x fs.length 16] (c.heap m fs.length 16 0 (feH fs 0 .nil)) (Nat.succ fs.length))) false
/-- a law on a short list and an int -/
def shiRun (P : Program) (S0 : Sums) (F : Fns) (fN m x fuel d f : Nat) (c : LC) (z : ZC) (fs : List FE) : Bool :=
  sel (ltb fs.length 16000) (isTrue (lrunN P S0 F fN x fuel d f [c.word x fs.length 16, z.word 950] (c.heap m fs.length 16 0 (feH fs 0 .nil)) (Nat.succ fs.length))) false
end
def oneL (l : List Int) : Nat → List Int := fun j => if j < 16 then [7] else l
theorem oneL_listE {l : List Int} (hl : (∀ y ∈ l, Rng y) ∧ l.length < 9223372036854775808) {A C : Nat → Int} {hA : ∀ j, Rng (A j)} {hC : ∀ j, Rng (C j)} :
    ∃ hz : ∀ j, (oneL l j).length < 9223372036854775808, @ListE (sEnv A C (fun _ => zero0) (oneL l) hA hC (fun _ => zero0_size) (fun _ _ => txt0_ok) hz) (oneL l) := by
  have hz : ∀ j, (oneL l j).length < 9223372036854775808 := fun j => by
    unfold oneL; split
    · decide
    · exact hl.2
  refine ⟨hz, ?_⟩
  letI := sEnv A C (fun _ => zero0) (oneL l) hA hC (fun _ => zero0_size) (fun _ _ => txt0_ok) hz
  exact { lst := fun j hj => sEnv_lst hj
          rng := fun j => by unfold oneL; split; exact seven_rng.1; exact hl.1
          no := fun j hj => by unfold oneL; rw [if_pos (by omega)]; exact ten_no }
/-- ██ The walk of a law on a short list, out of its runs. -/
theorem short_walk {P : Program} {S0 : Sums} (hS0 : Always P S0) {F : Fns} {tInt fN m x fuel dd f : Nat} (hm : m < 100000000000) (hx : x < 100) (K : ListK P F.to F.eq F.mark F.inn F.of tInt) (KN : NoK P fN x) {w : World}
    {a : Option Addr} {len cap : Nat} {zs : List Int} (w0 : IntRow w a len cap zs) (h1 : ∀ c ∈ lcs x, FtOk (shRun P S0 F fN m x fuel dd f c)) :
    Calls P f #[.slice a len cap] w fun e w' => e = .returned (.bool true) ∧ Below w.heap.size w w' := by
  have hr := w0.ra
  obtain ⟨w1, w2, w3⟩ := hr.wf
  obtain ⟨c, hc, hf⟩ := LC.of m x hr
  obtain ⟨t, ht⟩ := h1 c hc
  obtain ⟨hz, hE⟩ := oneL_listE (l := zs.take len) ⟨w1, w2⟩ (A := fun _ => 0) (C := fun i => nth (zs.take len) i) (hA := fun _ => rng0) (hC := fun i => wf_of_nth w1 i)
  letI E : Env := sEnv (fun _ => 0) (fun i => nth (zs.take len) i) (fun _ => zero0) (oneL (zs.take len)) (fun _ => rng0) (fun i => wf_of_nth w1 i) (fun _ => zero0_size) (fun _ _ => txt0_ok) hz
  obtain ⟨fs, hfs, hrun⟩ := FT.sound E t [] ht (fun f h => by cases h)
  obtain ⟨hlen, hrun⟩ := sel_andN hrun
  have hlen := (ltb_iff _ _).1 hlen
  obtain ⟨L0, c0, _⟩ := put_fe fs 0 .nil _ _ w.heap.size w (Ctx.start w) (by omega) hfs
  rw [Nat.zero_add] at c0
  obtain ⟨ρ, L, c1, _, hv⟩ := LC.put (j := 16) (o := 0) c0 (by omega) hm hx (by omega) (by omega) hr hf ((sEnv_lst (by omega)).trans (by unfold oneL; rw [if_neg (by omega)])) (fun i _ _ => (sEnv_pv _).trans (by rw [Nat.zero_add]))
  exact run_true (orS_sound (orS_sound (listS_sound K hE) (noS_sound KN hE)) (hS0 _)) c1 (.cons _ _ _ _ hv .nil) hrun
/-- ██ The walk of a law on a short list and an int, out of its runs. -/
theorem shorti_walk {P : Program} {S0 : Sums} (hS0 : Always P S0) {F : Fns} {tInt fN m x fuel dd f : Nat} (hm : m < 100000000000) (hx : x < 100) {lo : Int} {k : Nat} (hlo : -10000000000 ≤ lo ∧ lo ≤ 10000000000) (hk : k ≤ 10000000000)
    (K : ListK P F.to F.eq F.mark F.inn F.of tInt) (KN : NoK P fN x) {w : World} {a : Option Addr} {len cap : Nat} {zs : List Int} (w0 : IntRow w a len cap zs) {z : Int} (wz : (Lit.int .i64 z).wf = true)
    (h1 : ∀ c ∈ lcs x, ∀ y ∈ zcs lo k, FtOk (shiRun P S0 F fN m x fuel dd f c y)) :
    Calls P f #[.slice a len cap, .int .i64 z] w fun e w' => e = .returned (.bool true) ∧ Below w.heap.size w w' := by
  have hr := w0.ra
  have hz0 : Rng z := wf_i64 wz
  obtain ⟨w1, w2, w3⟩ := hr.wf
  obtain ⟨c, hc, hf⟩ := LC.of m x hr
  obtain ⟨y, hy, hyf⟩ := ZC.of lo k z
  obtain ⟨t, ht⟩ := h1 c hc y hy
  obtain ⟨hz, hE⟩ := oneL_listE (l := zs.take len) ⟨w1, w2⟩ (A := fun _ => z) (C := fun i => nth (zs.take len) i) (hA := fun _ => hz0) (hC := fun i => wf_of_nth w1 i)
  letI E : Env := sEnv (fun _ => z) (fun i => nth (zs.take len) i) (fun _ => zero0) (oneL (zs.take len)) (fun _ => hz0) (fun i => wf_of_nth w1 i) (fun _ => zero0_size) (fun _ _ => txt0_ok) hz
  obtain ⟨fs, hfs, hrun⟩ := FT.sound E t [] ht (fun f h => by cases h)
  obtain ⟨hlen, hrun⟩ := sel_andN hrun
  have hlen := (ltb_iff _ _).1 hlen
  obtain ⟨L0, c0, _⟩ := put_fe fs 0 .nil _ _ w.heap.size w (Ctx.start w) (by omega) hfs
  rw [Nat.zero_add] at c0
  obtain ⟨ρ, L, c1, _, hv⟩ := LC.put (j := 16) (o := 0) c0 (by omega) hm hx (by omega) (by omega) hr hf ((sEnv_lst (by omega)).trans (by unfold oneL; rw [if_neg (by omega)])) (fun i _ _ => (sEnv_pv _).trans (by rw [Nat.zero_add]))
  exact run_true (orS_sound (orS_sound (listS_sound K hE) (noS_sound KN hE)) (hS0 _)) c1 (.cons _ _ _ _ hv (.cons _ _ _ _ (ZC.put hyf (sEnv_int (by omega)) hz0 (zcs_bound hy hlo hk)) .nil)) hrun
end Go.Eng

/- Laws on three lists; on two lists and a point; on a list and two ints; on four ints. -/
namespace Go.Eng
set_option linter.unusedSectionVars false
set_option linter.unusedSimpArgs false
set_option linter.unusedVariables false
open Go Go.RowKit

theorem Cls.next_le (k : Cls) (n : Nat) : n ≤ k.next n ∧ k.next n ≤ n + 1 := by cases k <;> simp [Cls.next]
noncomputable section
/-- a law on three lists -/
def threeRun (P : Program) (S0 : Sums) (F : Fns) (fuel d f : Nat) (c1 c2 c3 : Cls) : OR :=
  lrun P S0 F fuel d f [c1.word 0 0, c2.word (c1.next 0) 1, c3.word (c2.next (c1.next 0)) 2] (c3.heap (c2.next (c1.next 0)) 2 (c2.heap (c1.next 0) 1 (c1.heap 0 0 .nil))) (c3.next (c2.next (c1.next 0)))
/-- a law on two lists and a point -/
def llpRun (P : Program) (S0 : Sums) (F : Fns) (fi fo fuel d f : Nat) (c1 c2 : Cls) (c3 : PCls) : OR :=
  prun P S0 F fi fo fuel d f [c1.word 0 0, c2.word (c1.next 0) 1, c3.word (c2.next (c1.next 0)) 8] (c3.heap (c2.next (c1.next 0)) 8 (c2.heap (c1.next 0) 1 (c1.heap 0 0 .nil))) (c3.next (c2.next (c1.next 0)))
/-- a law on a list and two ints -/
def liiRun (P : Program) (S0 : Sums) (F : Fns) (fuel d f : Nat) (c1 : Cls) (c2 c3 : ICls) : OR :=
  lrun P S0 F fuel d f [c1.word 0 0, c2.word 1, c3.word 2] (c1.heap 0 0 .nil) (c1.next 0)
/-- a law on four ints -/
def iiiiRun (P : Program) (S0 : Sums) (fuel d f : Nat) (c1 c2 c3 c4 : ICls) : OR :=
  funE P (callN P S0 fuel d) fuel f [c1.word 1, c2.word 2, c3.word 3, c4.word 4] .nil 0
end
/-- ██ The walk of a law on three lists, out of its runs. -/
theorem three_walk {P : Program} {S0 : Sums} (hS0 : Always P S0) {F : Fns} {tInt fuel d f : Nat} (K : ListK P F.to F.eq F.mark F.inn F.of tInt) {w : World}
    {len1 cap1 : Nat} {a1 : Option Addr} {zs1 : List Int} (w1 : IntRow w a1 len1 cap1 zs1) {len2 cap2 : Nat} {a2 : Option Addr} {zs2 : List Int} (w2 : IntRow w a2 len2 cap2 zs2) {len3 cap3 : Nat} {a3 : Option Addr} {zs3 : List Int} (w3 : IntRow w a3 len3 cap3 zs3)
    (hs : ∀ c1 ∈ classes, ∀ c2 ∈ classes, ∀ c3 ∈ classes, isTrue (threeRun P S0 F fuel d f c1 c2 c3) = true) :
    Calls P f #[.slice a1 len1 cap1, .slice a2 len2 cap2, .slice a3 len3 cap3] w fun e w' => e = .returned (.bool true) ∧ Below w.heap.size w w' := by
  obtain ⟨k1, hk1, f1⟩ := Cls.of_row w1
  obtain ⟨k2, hk2, f2⟩ := Cls.of_row w2
  obtain ⟨k3, hk3, f3⟩ := Cls.of_row w3
  have hrun := hs k1 hk1 k2 hk2 k3 hk3
  obtain ⟨t11, t12, t13⟩ := Cls.told_ok w1 f1
  obtain ⟨t21, t22, t23⟩ := Cls.told_ok w2 f2
  obtain ⟨t31, t32, t33⟩ := Cls.told_ok w3 f3
  let zs : Nat → List Int := fun j => if j = 0 then k1.told (zs1.take len1) else if j = 1 then k2.told (zs2.take len2) else k3.told (zs3.take len3)
  have all : ∀ {p : List Int → Prop}, p (k1.told (zs1.take len1)) → p (k2.told (zs2.take len2)) → p (k3.told (zs3.take len3)) → ∀ j, p (zs j) := fun {p} h1 h2 h3 j => by
    show p (if j = 0 then _ else if j = 1 then _ else _)
    split
    · exact h1
    · split
      · exact h2
      · exact h3
  have hz : ∀ j, (zs j).length < 9223372036854775808 := all (p := fun l => l.length < 9223372036854775808) t11 t21 t31
  letI E : Env := listEnv zs hz
  have hE : ListE zs := listEnv_ok hz (all (p := fun l => ∀ x ∈ l, -9223372036854775808 ≤ x ∧ x < 9223372036854775808) t12 t22 t32) (fun j _ => all (p := fun l => ¬ ShareZ (nth l) l.length) t13 t23 t33 j)
  obtain ⟨ρ1, L1, c1, e1, v1⟩ := k1.put (Ctx.start w) (by omega) (j := 0) (by omega) w1 f1 (hE.lst 0 (by omega))
  have hn1 := k1.next_le 0
  have hn2 := k2.next_le (k1.next 0)
  obtain ⟨ρ2, L2, c2, e2, v2⟩ := k2.put c1 (by omega) (j := 1) (by omega) w2 f2 (hE.lst 1 (by omega))
  obtain ⟨ρ3, L3, c3, e3, v3⟩ := k3.put c2 (by omega) (j := 2) (by omega) w3 f3 (hE.lst 2 (by omega))
  exact run_true (orS_sound (listS_sound K hE) (hS0 _)) c3 (.cons _ _ _ _ ((v1.mono e2).mono e3) (.cons _ _ _ _ (v2.mono e3) (.cons _ _ _ _ v3 .nil))) hrun
/-- ██ The walk of a law on two lists and a point, out of its runs. -/
theorem llp_walk {P : Program} {S0 : Sums} (hS0 : Always P S0) {F : Fns} {tInt fi fo fuel d f : Nat} (K : ListK P F.to F.eq F.mark F.inn F.of tInt) (KP : PointK P fi fo) {w : World}
    {len1 cap1 : Nat} {a1 : Option Addr} {zs1 : List Int} (w1 : IntRow w a1 len1 cap1 zs1) {len2 cap2 : Nat} {a2 : Option Addr} {zs2 : List Int} (w2 : IntRow w a2 len2 cap2 zs2) {len3 cap3 : Nat} {a3 : Option Addr} {zs3 : List Int} (w3 : IntRow w a3 len3 cap3 zs3)
    (hs : ∀ c1 ∈ classes, ∀ c2 ∈ classes, ∀ c3 ∈ pclasses, isTrue (llpRun P S0 F fi fo fuel d f c1 c2 c3) = true) :
    Calls P f #[.slice a1 len1 cap1, .slice a2 len2 cap2, .slice a3 len3 cap3] w fun e w' => e = .returned (.bool true) ∧ Below w.heap.size w w' := by
  obtain ⟨k1, hk1, f1⟩ := Cls.of_row w1
  obtain ⟨k2, hk2, f2⟩ := Cls.of_row w2
  obtain ⟨k3, hk3, f3⟩ := PCls.of_row w3
  have hrun := hs k1 hk1 k2 hk2 k3 hk3
  obtain ⟨t11, t12, t13⟩ := Cls.told_ok w1 f1
  obtain ⟨t21, t22, t23⟩ := Cls.told_ok w2 f2
  obtain ⟨t31, t32, t33⟩ := PCls.told_ok w3 f3
  let zs : Nat → List Int := fun j => if j = 0 then k1.told (zs1.take len1) else if j < 8 then k2.told (zs2.take len2) else k3.told (zs3.take len3)
  let ns : Nat → Int := fun j => nth (zs3.take len3) (j - 2199023255552)
  have all : ∀ {p : List Int → Prop}, p (k1.told (zs1.take len1)) → p (k2.told (zs2.take len2)) → p (k3.told (zs3.take len3)) → ∀ j, p (zs j) := fun {p} h1 h2 h3 j => by
    show p (if j = 0 then _ else if j < 8 then _ else _)
    split
    · exact h1
    · split
      · exact h2
      · exact h3
  have hz : ∀ j, (zs j).length < 9223372036854775808 := all (p := fun l => l.length < 9223372036854775808) t11 t21 t31
  have hn : ∀ j, -9223372036854775808 ≤ ns j ∧ ns j < 9223372036854775808 := fun j => nth_wf w3.wf _
  letI E : Env := argEnv zs hz ns hn
  have hno : ∀ j, j < 8 → ¬ ShareZ (nth (zs j)) (zs j).length := fun j hj => by
    show ¬ ShareZ (nth (if j = 0 then _ else if j < 8 then _ else _ : List Int)) (if j = 0 then _ else if j < 8 then _ else _ : List Int).length
    split
    · exact t13
    · exact t23
  have hE : ListE zs := { lst := fun j hj => listL_lst _ j hj, rng := all (p := fun l => ∀ x ∈ l, -9223372036854775808 ≤ x ∧ x < 9223372036854775808) t12 t22 t32, no := hno }
  have hP : ∀ j, 8 ≤ j → j < 16 → ¬ PtZ (nth (zs j)) (zs j).length := fun j h8 _ => by
    show ¬ PtZ (nth (if j = 0 then _ else if j < 8 then _ else _ : List Int)) (if j = 0 then _ else if j < 8 then _ else _ : List Int).length
    rw [if_neg (by omega), if_neg (by omega)]; exact t33
  have hpv : ∀ i, i < 8 → E.int (pvIx i) = nth (zs3.take len3) i := fun i hi => by
    have e : pvIx i = 2199023255552 + i := rfl
    show (if 1099511627776 ≤ pvIx i ∧ pvIx i < 1099511627776 + 1048576 then _ else nth (zs3.take len3) (pvIx i - 2199023255552)) = _
    rw [e, if_neg (by omega), show 2199023255552 + i - 2199023255552 = i from by omega]
  obtain ⟨ρ1, L1, c1, e1, v1⟩ := k1.put (Ctx.start w) (by omega) (j := 0) (by omega) w1 f1 (hE.lst 0 (by omega))
  have hn1 := k1.next_le 0
  have hn2 := k2.next_le (k1.next 0)
  obtain ⟨ρ2, L2, c2, e2, v2⟩ := k2.put c1 (by omega) (j := 1) (by omega) w2 f2 (hE.lst 1 (by omega))
  obtain ⟨ρ3, L3, c3, e3, v3⟩ := k3.put c2 (by omega) (j := 8) (by omega) w3 f3 (hE.lst 8 (by omega)) hpv
  exact run_true (orS_sound (orS_sound (listS_sound K hE) (pointS_sound KP hE hP)) (hS0 _)) c3 (.cons _ _ _ _ ((v1.mono e2).mono e3) (.cons _ _ _ _ (v2.mono e3) (.cons _ _ _ _ v3 .nil))) hrun
/-- ██ The walk of a law on a list and two ints, out of its runs. -/
theorem lii_walk {P : Program} {S0 : Sums} (hS0 : Always P S0) {F : Fns} {tInt fuel d f m2 m3 : Nat} (hm2 : m2 < 1000000) (hm3 : m3 < 1000000) (K : ListK P F.to F.eq F.mark F.inn F.of tInt) {w : World}
    {len1 cap1 : Nat} {a1 : Option Addr} {zs1 : List Int} (w1 : IntRow w a1 len1 cap1 zs1) {z2 z3 : Int} (w2 : (Lit.int .i64 z2).wf = true) (w3 : (Lit.int .i64 z3).wf = true)
    (hs : ∀ c1 ∈ classes, ∀ c2 ∈ iclasses m2, ∀ c3 ∈ iclasses m3, isTrue (liiRun P S0 F fuel d f c1 c2 c3) = true) :
    Calls P f #[.slice a1 len1 cap1, .int .i64 z2, .int .i64 z3] w fun e w' => e = .returned (.bool true) ∧ Below w.heap.size w w' := by
  obtain ⟨k1, hk1, f1⟩ := Cls.of_row w1
  obtain ⟨k2, hk2, f2⟩ := ICls.of_int m2 z2
  obtain ⟨k3, hk3, f3⟩ := ICls.of_int m3 z3
  have hrun := hs k1 hk1 k2 hk2 k3 hk3
  obtain ⟨t11, t12, t13⟩ := Cls.told_ok w1 f1
  letI E : Env := argEnv (fun _ => k1.told (zs1.take len1)) (fun _ => t11) (fun j => if j = 1 then z2 else z3) (fun j => by split; exact wf_i64 w2; exact wf_i64 w3)
  have hE : ListE (fun _ => k1.told (zs1.take len1)) := { lst := fun j hj => listL_lst _ j hj, rng := fun _ => t12, no := fun _ _ => t13 }
  obtain ⟨ρ1, L1, c1, e1, v1⟩ := k1.put (Ctx.start w) (by omega) (j := 0) (by omega) w1 f1 (hE.lst 0 (by omega))
  exact run_true (orS_sound (listS_sound K hE) (hS0 _)) c1 (.cons _ _ _ _ v1 (.cons _ _ _ _ (k2.put hk2 hm2 1 rfl f2) (.cons _ _ _ _ (k3.put hk3 hm3 2 rfl f3) .nil))) hrun
/-- ██ The walk of a law on four ints, out of its runs. -/
theorem iiii_walk {P : Program} {S0 : Sums} (hS0 : Always P S0) {fuel d f m1 m2 m3 m4 : Nat} (hm1 : m1 < 1000000) (hm2 : m2 < 1000000) (hm3 : m3 < 1000000) (hm4 : m4 < 1000000) {w : World}
    {z1 z2 z3 z4 : Int} (w1 : (Lit.int .i64 z1).wf = true) (w2 : (Lit.int .i64 z2).wf = true) (w3 : (Lit.int .i64 z3).wf = true) (w4 : (Lit.int .i64 z4).wf = true)
    (hs : ∀ c1 ∈ iclasses m1, ∀ c2 ∈ iclasses m2, ∀ c3 ∈ iclasses m3, ∀ c4 ∈ iclasses m4, isTrue (iiiiRun P S0 fuel d f c1 c2 c3 c4) = true) :
    Calls P f #[.int .i64 z1, .int .i64 z2, .int .i64 z3, .int .i64 z4] w fun e w' => e = .returned (.bool true) ∧ Below w.heap.size w w' := by
  obtain ⟨k1, hk1, f1⟩ := ICls.of_int m1 z1
  obtain ⟨k2, hk2, f2⟩ := ICls.of_int m2 z2
  obtain ⟨k3, hk3, f3⟩ := ICls.of_int m3 z3
  obtain ⟨k4, hk4, f4⟩ := ICls.of_int m4 z4
  have hrun := hs k1 hk1 k2 hk2 k3 hk3 k4 hk4
  letI E : Env := argEnv (fun _ => [7]) (fun _ => by decide) (fun j => if j = 1 then z1 else if j = 2 then z2 else if j = 3 then z3 else z4) (fun j => by
    split; exact wf_i64 w1; split; exact wf_i64 w2; split; exact wf_i64 w3; exact wf_i64 w4)
  exact run_true (hS0 _) (Ctx.start w) (.cons _ _ _ _ (k1.put hk1 hm1 1 rfl f1) (.cons _ _ _ _ (k2.put hk2 hm2 2 rfl f2) (.cons _ _ _ _ (k3.put hk3 hm3 3 rfl f3) (.cons _ _ _ _ (k4.put hk4 hm4 4 rfl f4) .nil)))) hrun
end Go.Eng

/- Laws on short lists whose numbers are parted by questions; on two lists and a point, with facts. -/
namespace Go.Eng
set_option linter.unusedSectionVars false
set_option linter.unusedSimpArgs false
set_option linter.unusedVariables false
open Go Go.RowKit

noncomputable section
/-- a run on a list between bounds, and ints -/
def rqRun (P : Program) (S0 : Sums) (F : Fns) (fN x fuel d f : Nat) (zw : List Nat) (bs : List (Nat × Nat)) : OR :=
  lrunN P S0 F fN x fuel d f (wS 0 1 0 bs.length 0 :: zw) (hset .nil 0 (.cells bs.length (listW (rowW bs 0)) 0 0 0 0)) 1
/-- a number's bounds, set -/
def setB (bs : List (Nat × Nat)) : Nat → (Nat × Nat) → List (Nat × Nat) :=
  List.rec (motive := fun _ => Nat → (Nat × Nat) → List (Nat × Nat)) (fun _ _ => []) (fun b l ih i v => Nat.rec (motive := fun _ => List (Nat × Nat)) (v :: l) (fun j _ => b :: ih j v) i) bs
def qIx (q : Nat) : Nat := Nat.sub (Nat.pred (Nat.div q 1099511627776)) 2199023255552
def qAt (q : Nat) : Nat := Nat.mod q 1099511627776
/-- a run for all numbers between bounds, parted where it asks -/
def chkRow (run : List (Nat × Nat) → OR) (k : Nat) : List (Nat × Nat) → Bool :=
  Nat.rec (motive := fun _ => List (Nat × Nat) → Bool) (fun _ => false)
    (fun _ ih bs => match run bs with
      | .ok v _ _ => Nat.beq v 18
      | .bad q => sel (sel (ltb (qIx q) bs.length) (Nat.ble 1 (qAt q)) false)
          (sel (ih (setB bs (qIx q) ((bs.getD (qIx q) bAll).1, Nat.pred (qAt q)))) (ih (setB bs (qIx q) (qAt q, (bs.getD (qIx q) bAll).2))) false) false) k
end
theorem setB_len : ∀ (bs : List (Nat × Nat)) (i : Nat) (v : Nat × Nat), (setB bs i v).length = bs.length
  | [], _, _ => rfl
  | b :: l, 0, v => rfl
  | b :: l, i + 1, v => by
    show (b :: setB l i v).length = _
    rw [List.length_cons, setB_len l i v, List.length_cons]
theorem setB_get : ∀ (bs : List (Nat × Nat)) (i : Nat) (v : Nat × Nat) (j : Nat), i < bs.length → (setB bs i v).getD j bAll = if j = i then v else bs.getD j bAll
  | [], _, _, _, h => by simp at h
  | b :: l, 0, v, j, _ => by
    show (v :: l).getD j bAll = _
    cases j with
    | zero => rfl
    | succ j => rw [if_neg (by omega)]; rfl
  | b :: l, i + 1, v, j, h => by
    show (b :: setB l i v).getD j bAll = _
    cases j with
    | zero => rw [if_neg (by omega)]; rfl
    | succ j =>
      have := setB_get l i v j (by simpa using h)
      simp only [List.getD_cons_succ]
      rw [this]
      by_cases hj : j = i
      · rw [if_pos hj, if_pos (by omega)]
      · rw [if_neg hj, if_neg (by omega)]
theorem chkRow_sound {run : List (Nat × Nat) → OR} {l : List Int} : ∀ (k : Nat) (bs : List (Nat × Nat)), chkRow run k bs = true → bs.length = l.length → (∀ i, i < bs.length → okB (bs.getD i bAll)) → (∀ i, i < bs.length → FitsB (bs.getD i bAll) (nth l i)) →
    ∃ bs', bs'.length = l.length ∧ (∀ i, i < bs'.length → okB (bs'.getD i bAll)) ∧ (∀ i, i < bs'.length → FitsB (bs'.getD i bAll) (nth l i)) ∧ isTrue (run bs') = true
  | 0, _, h, _, _, _ => by cases h
  | k + 1, bs, h, hl, ho, hf => by
    have e : chkRow run (k + 1) bs = (match run bs with
      | .ok v _ _ => Nat.beq v 18
      | .bad q => sel (sel (ltb (qIx q) bs.length) (Nat.ble 1 (qAt q)) false)
          (sel (chkRow run k (setB bs (qIx q) ((bs.getD (qIx q) bAll).1, Nat.pred (qAt q)))) (chkRow run k (setB bs (qIx q) (qAt q, (bs.getD (qIx q) bAll).2))) false) false) := rfl
    rw [e] at h
    cases hr : run bs with
    | ok v H n =>
      rw [hr] at h
      exact ⟨bs, hl, ho, hf, by rw [hr]; exact h⟩
    | bad q =>
      rw [hr] at h
      simp only at h
      obtain ⟨g, h⟩ := sel_andN h
      obtain ⟨h1, h2⟩ := sel_andN h
      obtain ⟨g1, g2⟩ := sel_andN g
      have g1 := (ltb_iff _ _).1 g1
      have g2 := Nat.le_of_ble_eq_true g2
      have hqa : qAt q < 1099511627776 := Nat.mod_lt _ (by omega)
      generalize qIx q = i at *
      generalize qAt q = c at *
      obtain ⟨o1, o2⟩ := ho i g1
      obtain ⟨f1, f2⟩ := hf i g1
      by_cases hc : (c : Int) - 549755813888 ≤ nth l i
      · refine chkRow_sound k _ h2 (by rw [setB_len]; exact hl) (fun j hj => ?_) (fun j hj => ?_)
        · rw [setB_get _ _ _ _ g1]; split
          · exact ⟨hqa, o2⟩
          · exact ho j (by rw [setB_len] at hj; exact hj)
        · rw [setB_get _ _ _ _ g1]; split
          · rename_i hji; subst hji; exact ⟨.inr hc, f2⟩
          · exact hf j (by rw [setB_len] at hj; exact hj)
      · have hp : Nat.pred c = c - 1 := rfl
        refine chkRow_sound k _ h1 (by rw [setB_len]; exact hl) (fun j hj => ?_) (fun j hj => ?_)
        · rw [setB_get _ _ _ _ g1]; split
          · exact ⟨o1, by rw [hp]; omega⟩
          · exact ho j (by rw [setB_len] at hj; exact hj)
        · rw [setB_get _ _ _ _ g1]; split
          · rename_i hji; subst hji; exact ⟨f1, .inr (by show nth l j ≤ ((Nat.pred c : Nat) : Int) - _; rw [hp]; omega)⟩
          · exact hf j (by rw [setB_len] at hj; exact hj)

def lc5 : List LC := [.nil, .zero, .emp, .more, .long]
section
variable {P : Program} {S0 : Sums} {F : Fns} {tInt fN x fuel dd f : Nat} {w : World} {a : Option Addr} {len cap : Nat} {zs : List Int}
/-- what a short list may be: one of five kinds, or a row -/
theorem lc_or_row (x : Nat) (h : RowA w a len cap zs) : (∃ c ∈ lc5, c.Fits 0 x a cap zs) ∨ (1 ≤ zs.length ∧ zs.length ≤ x) := by
  obtain ⟨c, hc, hf⟩ := LC.of 0 x h
  cases c with
  | nil => exact .inl ⟨_, by simp [lc5], hf⟩
  | zero => exact .inl ⟨_, by simp [lc5], hf⟩
  | emp => exact .inl ⟨_, by simp [lc5], hf⟩
  | more => exact .inl ⟨_, by simp [lc5], hf⟩
  | long => exact .inl ⟨_, by simp [lc5], hf⟩
  | ok n => obtain ⟨h1, h2, h3, _⟩ := hf; exact .inr ⟨by omega, by omega⟩
  | bad n p up => obtain ⟨h1, h2, h3, _⟩ := hf; exact .inr ⟨by omega, by omega⟩
/-- ██ The walk of a law on a short list and known words behind it, out of its runs. -/
theorem shq_core (hS0 : Always P S0) (hx : x < 100) (K : ListK P F.to F.eq F.mark F.inn F.of tInt) (KN : NoK P fN x) (w0 : IntRow w a len cap zs) (zw : List Nat) (vs : List Value) (A : Nat → Int) (hA : ∀ j, Rng (A j))
    (hv : ∀ (E : Env), (∀ j, j < 1000 → E.int j = A j) → ∀ ρ L, @AR E ρ L zw vs)
    (h0 : ∀ c ∈ lc5, isTrue (lrunN P S0 F fN x fuel dd f (c.word x 0 16 :: zw) (c.heap 0 0 16 0 .nil) 1) = true)
    (h1 : ∀ n, 1 ≤ n → n ≤ x → ∃ k, chkRow (rqRun P S0 F fN x fuel dd f zw) k (repB bAll n) = true) :
    Calls P f (.slice a len cap :: vs).toArray w fun e w' => e = .returned (.bool true) ∧ Below w.heap.size w w' := by
  have hr := w0.ra
  obtain ⟨w1, w2, w3⟩ := hr.wf
  obtain ⟨hz, hE⟩ := oneL_listE (l := zs.take len) ⟨w1, w2⟩ (A := A) (C := fun i => nth (zs.take len) i) (hA := hA) (hC := fun i => wf_of_nth w1 i)
  letI E : Env := sEnv A (fun i => nth (zs.take len) i) (fun _ => zero0) (oneL (zs.take len)) hA (fun i => wf_of_nth w1 i) (fun _ => zero0_size) (fun _ _ => txt0_ok) hz
  have hint : ∀ j, j < 1000 → E.int j = A j := fun j hj => sEnv_int hj
  rcases lc_or_row x hr with ⟨c, hc, hf⟩ | ⟨g1, g2⟩
  · obtain ⟨ρ, L, c1, _, hw⟩ := LC.put (n := 0) (j := 16) (o := 0) (Ctx.start w) (by omega) (by omega) hx (by omega) (by omega) hr hf ((sEnv_lst (by omega)).trans (by unfold oneL; rw [if_neg (by omega)])) (fun i _ _ => (sEnv_pv _).trans (by rw [Nat.zero_add]))
    exact run_true (orS_sound (orS_sound (listS_sound K hE) (noS_sound KN hE)) (hS0 _)) c1 (.cons _ _ _ _ hw (hv E hint _ _)) (h0 c hc)
  · obtain ⟨k, hk⟩ := h1 _ g1 g2
    have hb : okB bAll := ⟨by decide, by decide⟩
    obtain ⟨bs, hbl, hbo, hbf, hrun⟩ := chkRow_sound (l := zs.take len) k _ hk (repB_len _ _) (fun i hi => by rw [repB_get _ _ _ (by rw [repB_len] at hi; exact hi)]; exact hb) (fun i hi => by rw [repB_get _ _ _ (by rw [repB_len] at hi; exact hi)]; exact ⟨.inl rfl, .inl rfl⟩)
    have hrow : RowH w a len cap (zs.take len) := hr.resolve_right (fun ⟨_, _, h2, _⟩ => by rw [h2] at g1; simp at g1)
    obtain ⟨ρ, L, c1, _, hw⟩ := put_row (n := 0) (o := 0) (bs := bs) (Ctx.start w) (by omega) hrow (by omega) (by omega) (by omega) hbl (fun b hb => by
        obtain ⟨i, hi, rfl⟩ := List.mem_iff_getElem.1 hb
        have := hbo i hi
        rw [List.getD_eq_getElem?_getD, List.getElem?_eq_getElem hi] at this
        exact this) hbf (fun i _ => (sEnv_pv _).trans (by rw [Nat.zero_add])) (by omega)
    exact run_true (orS_sound (orS_sound (listS_sound K hE) (noS_sound KN hE)) (hS0 _)) c1 (.cons _ _ _ _ hw (hv E hint _ _)) hrun
/-- ██ The walk of a law on a short list, its numbers parted by questions. -/
theorem shq_walk (hS0 : Always P S0) (hx : x < 100) (K : ListK P F.to F.eq F.mark F.inn F.of tInt) (KN : NoK P fN x) (w0 : IntRow w a len cap zs)
    (h0 : ∀ c ∈ lc5, isTrue (lrunN P S0 F fN x fuel dd f [c.word x 0 16] (c.heap 0 0 16 0 .nil) 1) = true)
    (h1 : ∀ n, 1 ≤ n → n ≤ x → ∃ k, chkRow (rqRun P S0 F fN x fuel dd f []) k (repB bAll n) = true) :
    Calls P f #[.slice a len cap] w fun e w' => e = .returned (.bool true) ∧ Below w.heap.size w w' :=
  shq_core hS0 hx K KN w0 [] [] (fun _ => 0) (fun _ => rng0) (fun _ _ _ _ => .nil) h0 h1
/-- ██ The walk of a law on a short list, its numbers parted by questions, and an int. -/
theorem shqi_walk (hS0 : Always P S0) (hx : x < 100) {lo : Int} {k : Nat} (hlo : -10000000000 ≤ lo ∧ lo ≤ 10000000000) (hk : k ≤ 10000000000) (K : ListK P F.to F.eq F.mark F.inn F.of tInt) (KN : NoK P fN x) (w0 : IntRow w a len cap zs) {z : Int} (wz : (Lit.int .i64 z).wf = true)
    (h0 : ∀ c ∈ lc5, ∀ y ∈ zcs lo k, isTrue (lrunN P S0 F fN x fuel dd f [c.word x 0 16, y.word 950] (c.heap 0 0 16 0 .nil) 1) = true)
    (h1 : ∀ n, 1 ≤ n → n ≤ x → ∀ y ∈ zcs lo k, ∃ k, chkRow (rqRun P S0 F fN x fuel dd f [y.word 950]) k (repB bAll n) = true) :
    Calls P f #[.slice a len cap, .int .i64 z] w fun e w' => e = .returned (.bool true) ∧ Below w.heap.size w w' := by
  have hz0 : Rng z := wf_i64 wz
  obtain ⟨y, hy, hyf⟩ := ZC.of lo k z
  exact shq_core hS0 hx K KN w0 [y.word 950] [.int .i64 z] (fun _ => z) (fun _ => hz0) (fun E hE ρ L => .cons _ _ _ _ (ZC.put hyf (hE 950 (by omega)) hz0 (zcs_bound hy hlo hk)) .nil) (fun c hc => h0 c hc y hy) (fun n a b => h1 n a b y hy)
end

/-! ### two lists and a point, with facts -/
noncomputable section
def llpRunF (P : Program) (S0 : Sums) (F : Fns) (fi fo fuel d f : Nat) (c1 c2 : Cls) (c3 : PCls) (fs : List FE) : Bool :=
  sel (ltb fs.length 1000) (isTrue (prun P S0 F fi fo fuel d f [c1.word fs.length 0, c2.word (c1.next fs.length) 1, c3.word (c2.next (c1.next fs.length)) 8] (c3.heap (c2.next (c1.next fs.length)) 8 (c2.heap (c1.next fs.length) 1 (c1.heap fs.length 0 (feH fs 0 .nil)))) (c3.next (c2.next (c1.next fs.length))))) false
end
/-- ██ The walk of a law on two lists and a point, out of its runs with facts. -/
theorem llpF_walk {P : Program} {S0 : Sums} (hS0 : Always P S0) {F : Fns} {tInt fi fo fuel d f : Nat} (K : ListK P F.to F.eq F.mark F.inn F.of tInt) (KP : PointK P fi fo) {w : World}
    {len1 cap1 : Nat} {a1 : Option Addr} {zs1 : List Int} (w1 : IntRow w a1 len1 cap1 zs1) {len2 cap2 : Nat} {a2 : Option Addr} {zs2 : List Int} (w2 : IntRow w a2 len2 cap2 zs2) {len3 cap3 : Nat} {a3 : Option Addr} {zs3 : List Int} (w3 : IntRow w a3 len3 cap3 zs3)
    (hs : ∀ c1 ∈ classes, ∀ c2 ∈ classes, ∀ c3 ∈ pclasses, FtOk (llpRunF P S0 F fi fo fuel d f c1 c2 c3)) :
    Calls P f #[.slice a1 len1 cap1, .slice a2 len2 cap2, .slice a3 len3 cap3] w fun e w' => e = .returned (.bool true) ∧ Below w.heap.size w w' := by
  obtain ⟨k1, hk1, f1⟩ := Cls.of_row w1
  obtain ⟨k2, hk2, f2⟩ := Cls.of_row w2
  obtain ⟨k3, hk3, f3⟩ := PCls.of_row w3
  obtain ⟨t, ht⟩ := hs k1 hk1 k2 hk2 k3 hk3
  obtain ⟨t11, t12, t13⟩ := Cls.told_ok w1 f1
  obtain ⟨t21, t22, t23⟩ := Cls.told_ok w2 f2
  obtain ⟨t31, t32, t33⟩ := PCls.told_ok w3 f3
  let zs : Nat → List Int := fun j => if j = 0 then k1.told (zs1.take len1) else if j < 8 then k2.told (zs2.take len2) else k3.told (zs3.take len3)
  let ns : Nat → Int := fun j => nth (zs3.take len3) (j - 2199023255552)
  have all : ∀ {p : List Int → Prop}, p (k1.told (zs1.take len1)) → p (k2.told (zs2.take len2)) → p (k3.told (zs3.take len3)) → ∀ j, p (zs j) := fun {p} h1 h2 h3 j => by
    show p (if j = 0 then _ else if j < 8 then _ else _)
    split
    · exact h1
    · split
      · exact h2
      · exact h3
  have hz : ∀ j, (zs j).length < 9223372036854775808 := all (p := fun l => l.length < 9223372036854775808) t11 t21 t31
  have hn : ∀ j, -9223372036854775808 ≤ ns j ∧ ns j < 9223372036854775808 := fun j => nth_wf w3.wf _
  letI E : Env := argEnv zs hz ns hn
  have hno : ∀ j, j < 8 → ¬ ShareZ (nth (zs j)) (zs j).length := fun j hj => by
    show ¬ ShareZ (nth (if j = 0 then _ else if j < 8 then _ else _ : List Int)) (if j = 0 then _ else if j < 8 then _ else _ : List Int).length
    split
    · exact t13
    · exact t23
  have hE : ListE zs := { lst := fun j hj => listL_lst _ j hj, rng := all (p := fun l => ∀ x ∈ l, -9223372036854775808 ≤ x ∧ x < 9223372036854775808) t12 t22 t32, no := hno }
  have hP : ∀ j, 8 ≤ j → j < 16 → ¬ PtZ (nth (zs j)) (zs j).length := fun j h8 _ => by
    show ¬ PtZ (nth (if j = 0 then _ else if j < 8 then _ else _ : List Int)) (if j = 0 then _ else if j < 8 then _ else _ : List Int).length
    rw [if_neg (by omega), if_neg (by omega)]; exact t33
  have hpv : ∀ i, i < 8 → E.int (pvIx i) = nth (zs3.take len3) i := fun i hi => by
    have e : pvIx i = 2199023255552 + i := rfl
    show (if 1099511627776 ≤ pvIx i ∧ pvIx i < 1099511627776 + 1048576 then _ else nth (zs3.take len3) (pvIx i - 2199023255552)) = _
    rw [e, if_neg (by omega), show 2199023255552 + i - 2199023255552 = i from by omega]
  obtain ⟨fs, hfs, hrun⟩ := FT.sound E t [] ht (fun f h => by cases h)
  obtain ⟨hlen, hrun⟩ := sel_andN hrun
  have hlen := (ltb_iff _ _).1 hlen
  obtain ⟨L0, c0, _⟩ := put_fe fs 0 .nil _ _ w.heap.size w (Ctx.start w) (by omega) hfs
  rw [Nat.zero_add] at c0
  obtain ⟨ρ1, L1, c1, e1, v1⟩ := k1.put c0 (by omega) (j := 0) (by omega) w1 f1 (hE.lst 0 (by omega))
  have hn1 := k1.next_le fs.length
  have hn2 := k2.next_le (k1.next fs.length)
  obtain ⟨ρ2, L2, c2, e2, v2⟩ := k2.put c1 (by omega) (j := 1) (by omega) w2 f2 (hE.lst 1 (by omega))
  obtain ⟨ρ3, L3, c3, e3, v3⟩ := k3.put c2 (by omega) (j := 8) (by omega) w3 f3 (hE.lst 8 (by omega)) hpv
  exact run_true (orS_sound (orS_sound (listS_sound K hE) (pointS_sound KP hE hP)) (hS0 _)) c3 (.cons _ _ _ _ ((v1.mono e2).mono e3) (.cons _ _ _ _ (v2.mono e3) (.cons _ _ _ _ v3 .nil))) hrun

/-! ### four ints -/
noncomputable section
def zzzzRun (P : Program) (S0 : Sums) (fuel d f : Nat) (c1 c2 c3 c4 : ZC) : OR :=
  funE P (callN P S0 fuel d) fuel f [c1.word 1, c2.word 2, c3.word 3, c4.word 4] .nil 0
end
/-- ██ The walk of a law on four ints, out of its runs. -/
theorem zzzz_walk {P : Program} {S0 : Sums} (hS0 : Always P S0) {fuel d f : Nat} {l1 l2 l3 l4 : Int} {m1 m2 m3 m4 : Nat} (hl1 : -10000000000 ≤ l1 ∧ l1 ≤ 10000000000) (hl2 : -10000000000 ≤ l2 ∧ l2 ≤ 10000000000) (hl3 : -10000000000 ≤ l3 ∧ l3 ≤ 10000000000) (hl4 : -10000000000 ≤ l4 ∧ l4 ≤ 10000000000)
    (hm1 : m1 ≤ 10000000000) (hm2 : m2 ≤ 10000000000) (hm3 : m3 ≤ 10000000000) (hm4 : m4 ≤ 10000000000) {w : World}
    {z1 z2 z3 z4 : Int} (w1 : (Lit.int .i64 z1).wf = true) (w2 : (Lit.int .i64 z2).wf = true) (w3 : (Lit.int .i64 z3).wf = true) (w4 : (Lit.int .i64 z4).wf = true)
    (hs : ∀ c1 ∈ zcs l1 m1, ∀ c2 ∈ zcs l2 m2, ∀ c3 ∈ zcs l3 m3, ∀ c4 ∈ zcs l4 m4, isTrue (zzzzRun P S0 fuel d f c1 c2 c3 c4) = true) :
    Calls P f #[.int .i64 z1, .int .i64 z2, .int .i64 z3, .int .i64 z4] w fun e w' => e = .returned (.bool true) ∧ Below w.heap.size w w' := by
  obtain ⟨k1, hk1, f1⟩ := ZC.of l1 m1 z1
  obtain ⟨k2, hk2, f2⟩ := ZC.of l2 m2 z2
  obtain ⟨k3, hk3, f3⟩ := ZC.of l3 m3 z3
  obtain ⟨k4, hk4, f4⟩ := ZC.of l4 m4 z4
  have hrun := hs k1 hk1 k2 hk2 k3 hk3 k4 hk4
  letI E : Env := argEnv (fun _ => [7]) (fun _ => by decide) (fun j => if j = 1 then z1 else if j = 2 then z2 else if j = 3 then z3 else z4) (fun j => by
    split; exact wf_i64 w1; split; exact wf_i64 w2; split; exact wf_i64 w3; exact wf_i64 w4)
  exact run_true (hS0 _) (Ctx.start w) (.cons _ _ _ _ (ZC.put (j := 1) f1 rfl (wf_i64 w1) (zcs_bound hk1 hl1 hm1)) (.cons _ _ _ _ (ZC.put (j := 2) f2 rfl (wf_i64 w2) (zcs_bound hk2 hl2 hm2)) (.cons _ _ _ _ (ZC.put (j := 3) f3 rfl (wf_i64 w3) (zcs_bound hk3 hl3 hm3)) (.cons _ _ _ _ (ZC.put (j := 4) f4 rfl (wf_i64 w4) (zcs_bound hk4 hl4 hm4)) .nil)))) hrun
end Go.Eng
