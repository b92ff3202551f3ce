/- Part of the evaluator, in company. -/
import Derived.Test.YtadmpiidofncpacOCc
import Derived.Laws.AppendOwn
import Derived.Laws.MakeOwn
import Derived.Laws.Cells
set_option linter.unusedSectionVars false
set_option linter.unusedSimpArgs false
set_option linter.unusedVariables false
namespace Go.Eng
open Go Go.RowKit
variable [E : Env] [Pd : Pad]
theorem zan (c o m : Nat) : chunk c o m = (c >>> (128 * o)) % 2 ^ (128 * m) := rfl
theorem zc8 (a la b : Nat) : cat a la b = a ||| (b <<< (128 * la)) := rfl
theorem z1q (c o m j : Nat) (h : j < m) : getW (chunk c o m) j = getW c (o + j) := by
 apply Nat.eq_of_testBit_eq
 intro n
 rw [z0n, z0n, zan, Nat.testBit_mod_two_pow, Nat.testBit_shiftRight]
 by_cases hn : n < 128
 ·have : 128 * j + n < 128 * m := by omega
  simp [hn, this, show 128 * o + (128 * j + n) = 128 * (o + j) + n from by omega]
 ·simp [hn]
theorem z2h (c o m : Nat) : chunk c o m < 2 ^ (128 * m) := by rw [zan]; exact Nat.mod_lt _ (Nat.pow_pos (by omega))
theorem z0G (a la b j : Nat) (h : j < la) : getW (cat a la b) j = getW a j := by
 apply Nat.eq_of_testBit_eq
 intro n
 rw [z0n, z0n, zc8, Nat.testBit_or, Nat.testBit_shiftLeft]
 by_cases hn : n < 128
 ·have : ¬ (128 * la ≤ 128 * j + n) := by omega
  simp [hn, this]
 ·simp [hn]
theorem z11 (a la b j : Nat) (ha : a < 2 ^ (128 * la)) : getW (cat a la b) (la + j) = getW b j := by
 apply Nat.eq_of_testBit_eq
 intro n
 rw [z0n, z0n, zc8, Nat.testBit_or, Nat.testBit_shiftLeft]
 by_cases hn : n < 128
 ·have h1 : 128 * la ≤ 128 * (la + j) + n := by omega
  have h2 : a.testBit (128 * (la + j) + n) = false := Nat.testBit_lt_two_pow (Nat.lt_of_lt_of_le ha (Nat.pow_le_pow_right (by omega) (by omega)))
  have h3 : 128 * (la + j) + n - 128 * la = 128 * j + n := by omega
  rw [h2, h3]
  simp [hn, h1]
 ·simp [hn]
theorem z5O (a la b lb : Nat) (ha : a < 2 ^ (128 * la)) (hb : b < 2 ^ (128 * lb)) : cat a la b < 2 ^ (128 * (la + lb)) := by
 apply Nat.lt_pow_two_of_testBit
 intro n hn
 rw [zc8, Nat.testBit_or, Nat.testBit_shiftLeft]
 have h2 : a.testBit n = false := Nat.testBit_lt_two_pow (Nat.lt_of_lt_of_le ha (Nat.pow_le_pow_right (by omega) (by omega)))
 have h3 : b.testBit (n - 128 * la) = false := Nat.testBit_lt_two_pow (Nat.lt_of_lt_of_le hb (Nat.pow_le_pow_right (by omega) (by omega)))
 rw [h2, h3]; simp
theorem z9v (z : Nat) (hz : z < 2 ^ 128) : ∀ m, repW z m < 2 ^ (128 * m)
 | 0 => by show 0 < _; exact Nat.pow_pos (by omega)
 | m + 1 => by
  have := z5O (repW z m) m z 1 (z9v z hz m) (by simpa using hz)
  exact this
theorem z5P (z : Nat) (hz : z < 2 ^ 128) : ∀ m j, j < m → getW (repW z m) j = z
 | 0, j, h => by omega
 | m + 1, j, h => by
  have e : repW z (m + 1) = cat (repW z m) m z := rfl
  rw [e]
  by_cases hj : j < m
  ·rw [z0G _ _ _ _ hj]; exact z5P z hz m j hj
  ·have hjm : j = m + 0 := by omega
   rw [hjm, z11 _ _ _ _ (z9v z hz m), z1w]
   simp; exact hz
structure Ctx (base : Nat) (H : Trie) (n : Nat) (ρ : Rho) (L : Look) (w : World) : Prop where
 sim : Sim base ρ L w
 agree : Agree H L
 fresh : Fresh n ρ L
section
variable {base : Nat} {H : Trie} {n : Nat} {ρ : Rho} {L : Look} {w : World}
theorem cell_of_heap {w : World} {rb i : Nat} {cs : Array Value} {ty : TypeId} {fz : Nat × Nat} (h : w.heap[rb]? = some (.cells cs ty fz)) : w.cell? ⟨rb, i, none⟩ = cs[i]? := by
 simp [World.cell?, h]
theorem z7L (c : Ctx base H n ρ L w) {b o rb d sz : Nat} (hb : ρ b = some (rb, d, sz)) (h : tagOf (rd H b o) ≠ 15) :
  ∃ v, w.cell? ⟨rb, d + o, none⟩ = some v ∧ VR ρ L (rd H b o) v := by
 unfold rd at h ⊢
 cases ht : tget H b with
 | none => rw [ht] at h; exact absurd rfl h
 | some k =>
  rw [ht] at h
  cases k with
  | cells nb cb g kb sb mb =>
   simp only at h ⊢
   rw [zJ] at h ⊢
   by_cases h1 : o < nb
   ·rw [if_pos h1] at h ⊢
    cases hv : validE H b g kb sb with
    | false => rw [hv] at h; exact absurd rfl h
    | true =>
     rw [z0b]
     have hL := c.agree.2 _ _ ht
     have hl := z1E c.agree hL hv
     obtain ⟨k, hk, hbr⟩ := c.sim.blk b _ hb
     rw [hL] at hk; injection hk with hk; subst hk
     obtain ⟨cs, ty, fz, h2, _, _, _, h3⟩ := hbr hl
     obtain ⟨v, h4, h5, _⟩ := h3 o h1
     exact ⟨v, by rw [cell_of_heap h2]; exact h4, h5⟩
   ·rw [if_neg h1] at h; exact absurd rfl h
  | box => exact absurd rfl h
  | loop => exact absurd rfl h
  | defr => exact absurd rfl h
  | gone => exact absurd rfl h
  | opq => exact absurd rfl h
  | mp => exact absurd rfl h
  | chn => exact absurd rfl h
  | poly => exact absurd rfl h
theorem addr_add (rb i j : Nat) : (⟨rb, i, none⟩ : Addr).add j = ⟨rb, i + j, none⟩ := by
 unfold Addr.add; split <;> simp_all
structure Row (ρ : Rho) (L : Look) (w : World) (a : Addr) (m c : Nat) (vs : List Value) : Prop where
 len : vs.length = m
 cell : ∀ j u, vs[j]? = some u → w.cell? (a.add j) = some u
 word : ∀ j u, vs[j]? = some u → VR ρ L (getW c j) u ∧ storable (getW c j) = true
 lt : c < 2 ^ (128 * m)
theorem row_of {cs : Array Value} {ty : TypeId} {fz : Nat × Nat} {rb d nb cb o m : Nat} (hh : w.heap[rb]? = some (.cells cs ty fz))
  (h3 : ∀ i, i < nb → ∃ v, cs[d + i]? = some v ∧ VR ρ L (getW cb i) v ∧ storable (getW cb i) = true) (h1 : o + m ≤ nb) :
  ∃ vs, Row ρ L w ⟨rb, d + o, none⟩ m (chunk cb o m) vs := by
 refine ⟨(List.range m).map fun i => (cs[d + (o + i)]?).getD Go.undef, by simp, ?_, ?_, z2h _ _ _⟩
 ·intro j u hj
  rw [List.getElem?_map] at hj
  by_cases hjm : j < m
  ·rw [List.getElem?_range hjm] at hj
   obtain ⟨v, h4, _⟩ := h3 (o + j) (by omega)
   simp only [Option.map_some, h4, Option.getD_some, Option.some.injEq] at hj
   subst hj
   rw [addr_add, cell_of_heap hh, show d + o + j = d + (o + j) from by omega]; exact h4
  ·rw [List.getElem?_eq_none (by simp; omega)] at hj; cases hj
 ·intro j u hj
  rw [List.getElem?_map] at hj
  by_cases hjm : j < m
  ·rw [List.getElem?_range hjm] at hj
   obtain ⟨v, h4, h5⟩ := h3 (o + j) (by omega)
   simp only [Option.map_some, h4, Option.getD_some, Option.some.injEq] at hj
   subst hj
   rw [z1q _ _ _ _ hjm]; exact h5
  ·rw [List.getElem?_eq_none (by simp; omega)] at hj; cases hj
theorem z2i (c : Ctx base H n ρ L w) {b o m ch rb d sz : Nat} (hb : ρ b = some (rb, d, sz)) (h : rdRange H b o m = .some ch) :
  ∃ vs, Row ρ L w ⟨rb, d + o, none⟩ m ch vs := by
 unfold rdRange at h
 cases ht : tget H b with
 | none => rw [ht] at h; cases h
 | some k =>
  rw [ht] at h
  cases k with
  | cells nb cb g kb sb mb =>
   simp only at h
   rw [z0k] at h
   by_cases h1 : Nat.add o m ≤ nb
   ·rw [if_pos h1] at h
    cases hv : validE H b g kb sb with
    | false => rw [hv] at h; cases h
    | true =>
     rw [hv, z0b] at h
     injection h with h; subst h
     have hL := c.agree.2 _ _ ht
     have hl := z1E c.agree hL hv
     obtain ⟨k, hk, hbr⟩ := c.sim.blk b _ hb
     rw [hL] at hk; injection hk with hk; subst hk
     obtain ⟨cs, ty, fz, h2, _, _, _, h3⟩ := hbr hl
     exact row_of h2 h3 h1
   ·rw [if_neg h1] at h; cases h
  | box => cases h
  | loop => cases h
  | defr => cases h
  | gone => cases h
  | opq => cases h
  | mp => cases h
  | chn => cases h
  | poly => cases h
end
def Returns (P : Program) (fr : Frame) (w : World) (x : Value) (w' : World) (c : Frame) (cs : List Frame) : Prop := Steps P (lone fr (c :: cs) w) (lone (c.finish x) cs w')
inductive Does (P : Program) (s : Sem Next) (w : World) (x : Value) (w' : World) (c : Frame) (cs : List Frame) : Prop
 | value (h : s.run P w = .ok (.value x) w')
 | skip (h : s.run P w = .ok .skip w') (hx : x = Go.undef)
 | enter (f : FuncId) (args : Array Value) (w1 : World) (h : s.run P w = .ok (.enter f args) w1) (hr : Returns P (Frame.enter P f args .normal) w1 x w' c cs)
 | round (l : Nat) (f : FuncId) (tmps : Array Value) (assign body : Code) (w1 : World) (h : s.run P w = .ok (.round l f tmps assign body) w1)
   (hr : Returns P (Frame.round l f tmps assign body .normal) w1 x w' c cs)
def After (base : Nat) (H : Trie) (n : Nat) (ρ : Rho) (L : Look) (w : World) (v : Nat) (H' : Trie) (n' : Nat) (R : Value → World → Prop) : Prop :=
 ∃ ρ' L' w' x, Ctx base H' n' ρ' L' w' ∧ Ext ρ L ρ' L' ∧ Below base w w' ∧ Loc H n ρ L ρ' L' ∧ n ≤ n' ∧ VR ρ' L' v x ∧ R x w'
section
variable {base : Nat} {H : Trie} {n : Nat} {ρ : Rho} {L : Look} {w : World} {P : Program}
theorem After.pure {v : Nat} {x : Value} {R : Value → World → Prop} (c : Ctx base H n ρ L w) (hv : VR ρ L v x) (hR : R x w) : After base H n ρ L w v H n R :=
 ⟨ρ, L, w, x, c, .refl _ _, Below.refl _ _, .refl _ _ _ _, Nat.le_refl _, hv, hR⟩
theorem After.mono {v : Nat} {H' : Trie} {n' : Nat} {R R' : Value → World → Prop} (h : After base H n ρ L w v H' n' R) (hR : ∀ x w', R x w' → R' x w') : After base H n ρ L w v H' n' R' :=
 let ⟨ρ', L', w', x, a, b, c, d, e, f, g⟩ := h; ⟨ρ', L', w', x, a, b, c, d, e, f, hR _ _ g⟩
theorem z0N {v v' : Nat} {H H' : Trie} {n n' : Nat} (h : okv v H n = .ok v' H' n') : tagOf v ≠ 15 ∧ v' = v ∧ H' = H ∧ n' = n := by
 unfold okv at h
 rw [z8] at h
 split at h
 ·cases h
 ·injection h with h1 h2 h3; exact ⟨by assumption, h1.symm, h2.symm, h3.symm⟩
theorem z1B (c : Ctx base H n ρ L w) {len ch : Nat} {k : Trie → OR} {r : OR} (h : fresh H n len ch k = r) (hr : ∀ q, r ≠ .bad q) :
  n < 16384 ∧ k (hset H n (.cells len ch (n + 1) n n len)) = r ∧
  ∀ (w' : World) (cs : Array Value) (ty : TypeId), w'.heap = w.heap.push (.cells cs ty (0, 0)) → w'.os = w.os → w'.tape = w.tape → w'.output = w.output →
   len ≤ cs.size → (∀ i, i < len → ∃ v, cs[i]? = some v ∧ VR ρ L (getW ch i) v ∧ storable (getW ch i) = true) →
   Ctx base (hset H n (.cells len ch (n + 1) n n len)) (n + 1) (updR ρ n (w.heap.size, 0, cs.size)) (upd L n (.cells len ch (n + 1) n n len)) w' ∧
   Ext ρ L (updR ρ n (w.heap.size, 0, cs.size)) (upd L n (.cells len ch (n + 1) n n len)) ∧ Below base w w' ∧
   Loc H n ρ L (updR ρ n (w.heap.size, 0, cs.size)) (upd L n (.cells len ch (n + 1) n n len)) := by
 unfold fresh at h
 rw [zJ] at h
 split at h
 ·rename_i hn
  refine ⟨hn, h, fun w' cs ty hw h1 h2 h3 hlen hc => ?_⟩
  have e : Ext ρ L (updR ρ n (w.heap.size, 0, cs.size)) (upd L n (.cells len ch (n + 1) n n len)) := .fresh c.fresh _ _
  have hk : OwnK n (.cells len ch (n + 1) n n len) := ⟨rfl, rfl, rfl, Nat.le_refl _⟩
  have hhead : w'.heap[w.heap.size]? = some (.cells cs ty (0, 0)) := by rw [hw]; simp
  have hb : BR (updR ρ n (w.heap.size, 0, cs.size)) (upd L n (.cells len ch (n + 1) n n len)) w' (w.heap.size, 0, cs.size) (.cells len ch (n + 1) n n len) :=
   ⟨cs, ty, (0, 0), hhead, by simp, hlen, fun _ => rfl, fun i hi => by
    obtain ⟨v, a, b, d⟩ := hc i hi
    exact ⟨v, by simpa using a, b.mono e, d⟩⟩
  refine ⟨⟨c.sim.fresh c.fresh hw hk hb, c.agree.hset hn _, c.fresh.upd _ _⟩, e, ?_, .fresh _ _⟩
  refine ⟨h1, h2, h3, by rw [hw]; simp, fun j hj => ?_⟩
  have := c.sim.bs
  rw [hw, Array.getElem?_push, if_neg (by omega)]
 ·exact absurd h.symm (hr _)
theorem z1a {ρ : Rho} {L : Look} {b es n k rb sz c : Nat} (hb : ρ b = some (rb, 0, sz)) (he : es < 256) (hn : n < 1048576) (hk : k < 1048576) (hc : n ≤ c) (hc2 : c < 9223372036854775808) (h1 : k = 0 ∨ k = c + 1) (h2 : c * es ≤ sz) :
  VR ρ L (wS b es 0 n k) (.slice (some ⟨rb, 0, none⟩) n c) :=
 .slice b es 0 n k rb 0 sz c ⟨rb, 0, none⟩ hb he (by omega) hn hk hc hc2 h1 (.inr ⟨by simp, by omega⟩)
theorem z1V {ρ : Rho} {L : Look} {b rb sz : Nat} (hb : ρ b = some (rb, 0, sz)) : VR ρ L (wP b 0) (.pointer (some ⟨rb, 0, none⟩)) := .ptr b 0 rb 0 sz hb (by omega)
theorem z2t {t : TypeId} (h : plain P t = true) : ∃ i d, P.info? t = some i ∧ i.size = 1 ∧ P.underlying t = some d ∧ (∀ fs, d ≠ .struct fs) ∧ (∀ n e, d ≠ .array n e) := by
 unfold plain at h
 rw [z8] at h
 split at h
 ·rename_i h1
  unfold tsz at h1
  cases hi : P.info? t with
  | none => rw [hi] at h1; cases h1
  | some i =>
   rw [hi] at h1
   cases hu : P.underlying t with
   | none => unfold tagg at h; rw [hu] at h; cases h
   | some d =>
    refine ⟨i, d, rfl, h1, rfl, ?_, ?_⟩
    ·rintro fs rfl; unfold tagg at h; rw [hu] at h; cases h
    ·rintro m e rfl; unfold tagg at h; rw [hu] at h; cases h
 ·cases h
theorem run_isAgg_plain {t : TypeId} (h : plain P t = true) : (isAgg t).run P w = .ok false w := by
 obtain ⟨i, d, _, _, hu, h1, h2⟩ := z2t h
 unfold isAgg
 simp [run_underlying hu]
theorem z5n {t : TypeId} (h : plain P t = true) : (sizeOf t).run P w = .ok 1 w := by
 obtain ⟨i, d, hi, hs, _⟩ := z2t h
 simp [sizeOf, typeInfo, hi, hs]
theorem z0M {t : TypeId} {d r : OR} {k : TypeId → OR} (h : telem P t d k = r) (hd : d = .bad 0) (hr : ∀ q, r ≠ .bad q) : ∃ e, P.underlying t = some (.slice e) ∧ (∃ i, P.info? e = some i) ∧ k e = r := by
 unfold telem at h
 split at h
 ·split at h
  ·exact ⟨_, by assumption, ⟨_, by assumption⟩, h⟩
  ·subst hd; exact absurd h.symm (hr _)
 ·subst hd; exact absurd h.symm (hr _)
theorem z13 (ρ : Rho) (L : Look) {t : TypeId} (h : storable (tzero P t) = true) : ∃ i z, P.info? t = some i ∧ i.zero = some z ∧ VR ρ L (tzero P t) z := by
 have hb := ((z0g _).1 h).2.2.1
 unfold tzero at hb ⊢
 split at hb
 ·rename_i i hi
  split at hb
  ·rename_i z hz
   exact ⟨i, z, hi, hz, z4J ρ L z hb⟩
  ·exact absurd rfl hb
 ·exact absurd rfl hb
end
end Go.Eng
namespace Go.Eng
open Go Go.RowKit
variable [E : Env] [Pd : Pad]
theorem z4K (x : Nat) (l : List Nat) : listW (x :: l) = cat x 1 (listW l) := rfl
theorem z3t {x : Nat} {l : List Nat} (h : allSlot (x :: l) = true) : x < 2 ^ 128 ∧ allSlot l = true := by
 have e : allSlot (x :: l) = sel (ltb x 340282366920938463463374607431768211456) (allSlot l) false := rfl
 rw [e, zJ] at h
 split at h
 ·exact ⟨by assumption, h⟩
 ·cases h
theorem z0X : ∀ (l : List Nat), allSlot l = true → ∀ i, getW (listW l) i = l.getD i 0
 | [], _, i => by show getW 0 i = _; rw [z8i]; simp
 | x :: l, h, 0 => by
  obtain ⟨h1, h2⟩ := z3t h
  rw [z4K, z0G _ _ _ _ (by omega), z1w]
  simpa using h1
 | x :: l, h, i + 1 => by
  obtain ⟨h1, h2⟩ := z3t h
  rw [z4K, show i + 1 = 1 + i from by omega, z11 _ _ _ _ (by simpa using h1), z0X l h2 i]
  simp [show 1 + i = i + 1 from by omega]
theorem z9w : ∀ (d : Nat) (t : Trie) (i : Nat) (k : Blk), Dep d t → tget t i = some k → i < 2 ^ d
 | d, .nil, i, k, _, h => by cases h
 | d, .leaf b, i, k, _, h => by
  rw [z3m] at h
  split at h
  ·rename_i hi; subst hi; exact Nat.pow_pos (by omega)
  ·cases h
 | 0, .node l r, i, k, hd, h => hd.elim
 | d + 1, .node l r, i, k, hd, h => by
  rw [z4i] at h
  rw [Nat.pow_succ]
  split at h
  ·have := z9w d l (i / 2) k hd.1 h; omega
  ·have := z9w d r (i / 2) k hd.2 h; omega
theorem Agree.lt {H : Trie} {L : Look} (h : Agree H L) {b : Nat} {k : Blk} (hb : tget H b = some k) : b < 16384 := z9w 14 H b k h.1 hb
theorem wordOf (w : Nat) : w = mk (tagOf w) (payOf w) := by
 show w = 16 * (w / 16) + w % 16
 omega
def wdOf (k : Blk) (id : Nat) : Nat :=
 match k with
 | .box kd _ _ => if kd = 2 ∨ kd = 3 then mk 10 id else mk 6 id
 | .poly .. => polyW id
 | _ => 0
def Calm (ρ : Rho) (L : Look) (H : Trie) (n v : Nat) (H' : Trie) (n' : Nat) (x : Value) : Prop :=
 (H' = H ∧ n' = n ∧ VR ρ L v x) ∨
 ∃ k, IsBox k ∧ H' = hset H n k ∧ n' = n + 1 ∧ n < 16384 ∧ v = wdOf k n ∧ ∀ (ρ' : Rho) (L' : Look) (id : Nat), Ext0 ρ L ρ' L' → L' id = some k → VR ρ' L' (wdOf k id) x
def CalmD (ρ : Rho) (L : Look) (H : Trie) (n : Nat) (w : World) (v : Nat) (H' : Trie) (n' : Nat) (R : Value → World → Prop) : Prop := ∃ x, Calm ρ L H n v H' n' x ∧ R x w
section
variable {base : Nat} {H H' : Trie} {n n' nt T v : Nat} {ρ : Rho} {L : Look} {w : World} {P : Program} {R R' : Value → World → Prop}
theorem CalmD.pure {x : Value} (c : Ctx base H n ρ L w) (hv : VR ρ L v x) (hR : R x w) : CalmD ρ L H n w v H n R := ⟨x, .inl ⟨rfl, rfl, hv⟩, hR⟩
theorem CalmD.mono (h : CalmD ρ L H n w v H' n' R) (hR : ∀ x, R x w → R' x w) : CalmD ρ L H n w v H' n' R' := let ⟨x, a, b⟩ := h; ⟨x, a, hR x b⟩
theorem CalmD.after (c : Ctx base H n ρ L w) (h : CalmD ρ L H n w v H' n' R) : After base H n ρ L w v H' n' R := by
 obtain ⟨x, ⟨rfl, rfl, hv⟩ | ⟨k, hk, rfl, rfl, hn, rfl, hv⟩, hR⟩ := h
 ·exact .pure c hv hR
 ·have e : Ext ρ L ρ (upd L n k) := .freshL c.fresh _
  exact ⟨ρ, upd L n k, w, x, ⟨c.sim.boxB c.fresh hk, c.agree.hset hn _, c.fresh.updL _⟩, e, Below.refl _ _, .freshL _, Nat.le_succ _, hv ρ _ n e.toExt0 (upd_same _ _ _), hR⟩
theorem z2R {kd len c w : Nat} (h : newBox H n kd len c w = .ok v H' n') : n < 16384 ∧ v = w ∧ H' = hset H n (.box kd len c) ∧ n' = n + 1 := by
 unfold newBox at h
 rw [zJ] at h
 split at h
 ·rename_i hn
  injection h with h1 h2 h3
  exact ⟨hn, h1.symm, h2.symm, h3.symm⟩
 ·cases h
theorem z5v {m c : Nat} {vs : Array Value} (hc : CellsR ρ L m c vs) (h : newBox H n 0 m c (mk 6 n) = .ok v H' n') (hR : R (.agg vs) w) : CalmD ρ L H n w v H' n' R := by
 obtain ⟨h1, h2, h3, h4⟩ := z2R h
 exact ⟨.agg vs, .inr ⟨.box 0 m c, trivial, h3, h4, h1, h2, fun ρ' L' id e hL => (hc.mono0 e).agg hL⟩, hR⟩
theorem z2S {m : Nat} {r : ON} (h : boxN r H n m = .ok v H' n') : ∃ c, r = .some c ∧ newBox H n 0 m c (mk 6 n) = .ok v H' n' := by
 unfold boxN at h
 split at h
 ·exact ⟨_, rfl, h⟩
 ·cases h
theorem CellsR.one {x : Nat} {u : Value} (hx : VR ρ L x u) (hs : storable x = true) : CellsR ρ L 1 x u.cells := by
 obtain ⟨h1, _⟩ := hx.cell hs
 have hlt := ((z0g _).1 hs).2.2.2
 rw [h1]
 refine ⟨rfl, by simpa using hlt, fun i hi => ?_⟩
 obtain rfl : i = 0 := by omega
 have e : getW x 0 = x := by rw [z1w]; simpa using hlt
 rw [e]
 exact ⟨u, rfl, hx, hs⟩
theorem CellsR.oneCell {m c : Nat} {vs : Array Value} (h : CellsR ρ L m c vs) : ∀ u ∈ vs.toList, u.oneCell' = true := by
 intro u hu
 obtain ⟨i, hi, he⟩ := Array.mem_iff_getElem.1 (Array.mem_toList_iff.1 hu)
 obtain ⟨u', a1, a2, a3⟩ := h.2.2 i (by rw [← h.1]; exact hi)
 rw [Array.getElem?_eq_getElem hi] at a1; injection a1 with a1
 rw [← he, a1]
 exact (a2.cell a3).2
theorem z3u (c : Ctx base H n ρ L w) {x m ch : Nat} {u : Value} (hx : VR ρ L x u) (h : cellsN H x m = .some ch) : CellsR ρ L m ch u.cells := by
 unfold cellsN at h
 rw [z8] at h
 split at h
 ·rename_i h6
  split at h
  ·rename_i m' c' hget
   rw [z8] at h
   split at h
   ·rename_i hm
    injection h with h
    subst h; subst hm
    obtain ⟨vs, rfl, hc⟩ := hx.z2L h6 (c.agree.2 _ _ hget)
    exact hc
   ·cases h
  ·cases h
 ·rw [z8] at h
  split at h
  ·rename_i hm
   rw [zf] at h
   split at h
   ·rename_i hs
    injection h with h
    subst h; subst hm
    exact CellsR.one hx hs
   ·cases h
  ·cases h
theorem CellsR.zdJ {a : Addr} {m c : Nat} {vs : List Value} (h : Row ρ L w a m c vs) : CellsR ρ L m c vs.toArray := by
 refine ⟨by simp [h.len], h.lt, fun i hi => ?_⟩
 have hi' : i < vs.length := by rw [h.len]; exact hi
 obtain ⟨q1, q2⟩ := h.word i vs[i] (List.getElem?_eq_getElem hi')
 exact ⟨vs[i], by simp [hi'], q1, q2⟩
theorem CellsR.chunk {m c o k : Nat} {vs : Array Value} (h : CellsR ρ L m c vs) (hk : o + k ≤ m) : CellsR ρ L k (Eng.chunk c o k) (vs.extract o (o + k)) := by
 refine ⟨by simp [h.1]; omega, z2h _ _ _, fun i hi => ?_⟩
 rw [z1q _ _ _ _ hi]
 obtain ⟨u, a, b, d⟩ := h.2.2 (o + i) (by omega)
 refine ⟨u, ?_, b, d⟩
 rw [Array.getElem?_extract]
 have hs : vs.size = m := h.1
 have : i < min (o + k) vs.size - o := by omega
 simp [this, a]
def putAt (vs : Array Value) (o : Nat) (ns : Array Value) : Array Value := (vs.toList.take o ++ ns.toList ++ vs.toList.drop (o + ns.size)).toArray
theorem get_put (l ns : List Value) (o i : Nat) (h : o + ns.length ≤ l.length) :
  (l.take o ++ ns ++ l.drop (o + ns.length))[i]? = if i < o then l[i]? else if i < o + ns.length then ns[i - o]? else l[i]? := by
 have ht : (l.take o).length = o := by rw [List.length_take]; omega
 by_cases h1 : i < o
 ·rw [if_pos h1, List.append_assoc, List.getElem?_append_left (by omega), List.getElem?_take, if_pos h1]
 ·rw [if_neg h1]
  by_cases h2 : i < o + ns.length
  ·rw [if_pos h2, List.getElem?_append_left (by rw [List.length_append]; omega), List.getElem?_append_right (by omega), ht]
  ·rw [if_neg h2, List.getElem?_append_right (by rw [List.length_append]; omega), List.getElem?_drop, List.length_append, ht]
   congr 1; omega
theorem CellsR.splice {n m c o d : Nat} {vs ns : Array Value} (h : CellsR ρ L n c vs) (k : CellsR ρ L m d ns) (hm : o + m ≤ n) : CellsR ρ L n (Eng.splice c o m n d) (putAt vs o ns) := by
 have hvs : vs.toList.length = n := by simpa using h.1
 have hns : ns.toList.length = m := by simpa using k.1
 have hns2 : ns.size = m := k.1
 have l1 : (Eng.chunk c 0 o) < 2 ^ (128 * o) := z2h _ _ _
 have l2 : cat (Eng.chunk c 0 o) o d < 2 ^ (128 * (o + m)) := z5O _ _ _ _ l1 k.2.1
 have l3 : Eng.splice c o m n d < 2 ^ (128 * ((o + m) + (n - (o + m)))) := z5O _ _ _ _ l2 (z2h _ _ _)
 have hget : ∀ i, (putAt vs o ns)[i]? = if i < o then vs[i]? else if i < o + m then ns[i - o]? else vs[i]? := by
  intro i
  have := get_put vs.toList ns.toList o i (by omega)
  unfold putAt
  rw [List.getElem?_toArray, hns2]
  rw [hns] at this
  rw [this]
  simp
 refine ⟨?_, by rw [show (o + m) + (n - (o + m)) = n from by omega] at l3; exact l3, fun i hi => ?_⟩
 ·unfold putAt
  simp only [List.size_toArray, List.length_append, List.length_take, List.length_drop]
  omega
 ·rw [hget]
  unfold Eng.splice
  by_cases h1 : i < o
  ·obtain ⟨u, a, b, e⟩ := h.2.2 i hi
   rw [if_pos h1, show Nat.add o m = o + m from rfl, z0G _ _ _ _ (by omega), z0G _ _ _ _ h1, z1q _ _ _ _ h1, Nat.zero_add]
   exact ⟨u, a, b, e⟩
  ·rw [if_neg h1]
   by_cases h2 : i < o + m
   ·obtain ⟨u, a, b, e⟩ := k.2.2 (i - o) (by omega)
    have q : getW (cat (Eng.chunk c 0 o) o d) i = getW d (i - o) := by
     have := z11 (Eng.chunk c 0 o) o d (i - o) l1
     rwa [show o + (i - o) = i from by omega] at this
    rw [if_pos h2, show Nat.add o m = o + m from rfl, z0G _ _ _ _ h2, q]
    exact ⟨u, a, b, e⟩
   ·obtain ⟨u, a, b, e⟩ := h.2.2 i hi
    have q : getW (cat (cat (Eng.chunk c 0 o) o d) (o + m) (Eng.chunk c (o + m) (n - (o + m)))) i = getW c i := by
     have := z11 (cat (Eng.chunk c 0 o) o d) (o + m) (Eng.chunk c (o + m) (n - (o + m))) (i - (o + m)) l2
     rw [show o + m + (i - (o + m)) = i from by omega, z1q _ _ _ _ (by omega), show o + m + (i - (o + m)) = i from by omega] at this
     exact this
    rw [if_neg h2]
    show ∃ u, vs[i]? = some u ∧ VR ρ L (getW (cat (cat (Eng.chunk c 0 o) o d) (o + m) (Eng.chunk c (o + m) (n - (o + m)))) i) u ∧ storable (getW (cat (cat (Eng.chunk c 0 o) o d) (o + m) (Eng.chunk c (o + m) (n - (o + m)))) i) = true
    rw [q]
    exact ⟨u, a, b, e⟩
theorem z4L : ∀ l : List Value, encs l = l.map encC
 | [] => rfl
 | x :: l => by show encC x :: encs l = _; rw [z4L l]; rfl
theorem z7M {α : Type} : ∀ l : List α, lenN l = l.length
 | [] => rfl
 | x :: l => by show Nat.succ (lenN l) = _; rw [z7M l]; rfl
theorem z5Q : ∀ l : List Nat, allStor l = true ↔ ∀ x ∈ l, storable x = true
 | [] => by simp [allStor]
 | x :: l => by
  have e : allStor (x :: l) = sel (storable x) (allStor l) false := rfl
  rw [e, zf]
  have := z5Q l
  by_cases h : storable x = true <;> simp [h, this]
theorem z3c : ∀ (l : List Nat), (∀ x ∈ l, x < 2 ^ 128) → allSlot l = true
 | [], _ => rfl
 | x :: l, h => by
  have e : allSlot (x :: l) = sel (ltb x 340282366920938463463374607431768211456) (allSlot l) false := rfl
  rw [e, zJ, if_pos (h x List.mem_cons_self)]
  exact z3c l fun y hy => h y (List.mem_cons_of_mem _ hy)
theorem zao : ∀ l : List Nat, allSlot l = true → listW l < 2 ^ (128 * l.length)
 | [], _ => by show 0 < _; exact Nat.pow_pos (by omega)
 | x :: l, h => by
  obtain ⟨h1, h2⟩ := z3t h
  rw [z4K]
  have := z5O x 1 (listW l) l.length (by simpa using h1) (zao l h2)
  rw [List.length_cons, Nat.add_comm l.length 1]; exact this
theorem z2m {t : TypeId} {k : Nat → OR} {r : OR} (h : zcells P t k = r) (hr : ∀ q, r ≠ .bad q) :
  ∃ i z c, P.info? t = some i ∧ i.zero = some z ∧ k c = r ∧ ∀ (ρ : Rho) (L : Look), CellsR ρ L i.size c z.cells := by
 unfold zcells at h
 split at h
 ·rename_i i hi
  split at h
  ·rename_i z hz
   simp only at h
   rw [z8] at h
   split at h
   ·rename_i hl
    rw [zf] at h
    split at h
    ·rename_i hs
     refine ⟨i, z, _, hi, hz, h, fun ρ L => ?_⟩
     rw [z5Q] at hs
     rw [z7M, z4L, List.length_map] at hl
     have hsl : allSlot (encs z.cells.toList) = true := z3c _ fun x hx => ((z0g _).1 (hs x hx)).2.2.2
     refine ⟨by simpa using hl, ?_, fun j hj => ?_⟩
     ·have := zao _ hsl
      rw [z4L, List.length_map, hl] at this
      rw [z4L]; exact this
     ·rw [z0X _ hsl]
      have hj' : j < z.cells.toList.length := by omega
      have e : (encs z.cells.toList).getD j 0 = encC z.cells.toList[j] := by
       rw [z4L, List.getD_eq_getElem?_getD, List.getElem?_map, List.getElem?_eq_getElem hj']; rfl
      have hm : encC z.cells.toList[j] ∈ encs z.cells.toList := by rw [z4L]; exact List.mem_map_of_mem (List.getElem_mem hj')
      rw [e]
      have hst := hs _ hm
      exact ⟨z.cells.toList[j], by simp at hj' ⊢, z4J ρ L _ ((z0g _).1 hst).2.2.1, hst⟩
    ·exact absurd h.symm (hr _)
   ·exact absurd h.symm (hr _)
  ·exact absurd h.symm (hr _)
 ·exact absurd h.symm (hr _)
theorem z1K {t : TypeId} {i : TypeInfo} {z : Value} (hi : P.info? t = some i) (hz : i.zero = some z) : (zeroValue t).run P w = .ok z w := by
 simp [zeroValue, typeInfo, hi, hz]
theorem z0L {t : TypeId} {i : TypeInfo} (hi : P.info? t = some i) : (sizeOf t).run P w = .ok i.size w := by simp [sizeOf, typeInfo, hi]
theorem z1C {t : TypeId} {i : TypeInfo} (hi : P.info? t = some i) : tsz P t = i.size := by simp [tsz, hi]
theorem z1k {t : TypeId} (h : hasInfo P t = true) : ∃ i, P.info? t = some i := by
 unfold hasInfo at h
 split at h
 ·exact ⟨_, by assumption⟩
 ·cases h
theorem z1L {t : TypeId} (h : aggT P t = true) : (∃ fs, P.underlying t = some (.struct fs)) ∨ ∃ n e, P.underlying t = some (.array n e) := by
 unfold aggT at h
 split at h
 ·exact .inl ⟨_, by assumption⟩
 ·exact .inr ⟨_, _, by assumption⟩
 ·cases h
theorem z2u {t : TypeId} {d : TypeDesc} (h : P.underlying t = some d) : ∃ i, P.info? t = some i := by
 unfold Program.underlying at h
 cases hi : P.info? t with
 | none => rw [hi] at h; cases h
 | some i => exact ⟨i, rfl⟩
theorem z4x {t : TypeId} (h : aggT P t = true) : (isAgg t).run P w = .ok true w := by
 unfold isAgg
 rcases z1L h with ⟨fs, hu⟩ | ⟨m, e, hu⟩ <;> simp [run_underlying hu]
structure MakesA (P : Program) (S : Sem Value) (ρ : Rho) (L : Look) (H : Trie) (i v : Nat) (H' : Trie) (n' : Nat) : Prop where
 ex : ∃ (len ch : Nat) (cs : Array Value) (ty : TypeId) (X : Nat → Value), H' = hset H i (.cells len ch (i + 1) i i len) ∧ n' = i + 1 ∧ i < 16384 ∧ len ≤ cs.size ∧
  (∀ j, j < len → ∃ u, cs[j]? = some u ∧ VR ρ L (getW ch j) u ∧ storable (getW ch j) = true) ∧
  (∀ w : World, S.run P w = .ok (X w.heap.size) { w with heap := w.heap.push (.cells cs ty) }) ∧
  (∀ (ρ' : Rho) (L' : Look) (rb : Nat), ρ' i = some (rb, 0, cs.size) → VR ρ' L' v (X rb))
theorem z5R {i len ch : Nat} {k : Trie → OR} {r : OR} (h : fresh H i len ch k = r) (hr : ∀ q, r ≠ .bad q) : i < 16384 ∧ k (hset H i (.cells len ch (i + 1) i i len)) = r := by
 unfold fresh at h
 rw [zJ] at h
 split at h
 ·exact ⟨by assumption, h⟩
 ·exact absurd h.symm (hr _)
theorem MakesA.after {S : Sem Value} (c : Ctx base H n ρ L w) (h : MakesA P S ρ L H n v H' n') : After base H n ρ L w v H' n' (fun x w' => S.run P w = .ok x w') := by
 obtain ⟨len, ch, cs, ty, X, rfl, rfl, hn, hle, hc, hS, hX⟩ := h.ex
 have hf : fresh H n len ch (fun H' => .ok v H' (n + 1)) = .ok v (hset H n (.cells len ch (n + 1) n n len)) (n + 1) := by
  unfold fresh; rw [zJ, if_pos (show n < maxBlk from hn)]
 obtain ⟨_, _, hmk⟩ := z1B c hf (by simp)
 obtain ⟨c', e, hb, hl⟩ := hmk { w with heap := w.heap.push (.cells cs ty) } cs ty rfl rfl rfl rfl hle hc
 exact ⟨_, _, _, _, c', e, hb, hl, Nat.le_succ _, hX _ _ _ (zU _ _ _), hS w⟩
theorem z5a {t : TypeId} (h : allocA P t H n = .ok v H' n') : MakesA P (Instr.alloc t true (.tuple #[])) ρ L H n v H' n' := by
 unfold allocA at h
 obtain ⟨i, z, c, hi, hz, h, hc⟩ := z2m h (by simp)
 obtain ⟨hn, hk⟩ := z5R h (by simp)
 injection hk with h1 h2 h3
 rw [z1C hi] at h2
 have hcr := hc ρ L
 refine ⟨i.size, c, z.cells, t, fun b => .pointer (some ⟨b, 0, none⟩), h2.symm, h3.symm, hn, by rw [hcr.1]; exact Nat.le_refl _, hcr.2.2, fun w => ?_, fun ρ' L' rb hb => ?_⟩
 ·simp [Instr.alloc, z1K hi hz, newVar, newRow]
 ·rw [← h1]; exact z1V hb
theorem z6V (c : Ctx base H n ρ L w) {t : TypeId} {x i : Nat} {u : Value} (hx : VR ρ L x u) (h : boxA x H i = .ok v H' n') : MakesA P (Instr.box t u) ρ L H i v H' n' := by
 unfold boxA at h
 rw [z8] at h
 split at h
 ·rename_i h6
  split at h
  ·rename_i m ch hget
   obtain ⟨vs, rfl, hcr⟩ := hx.z2L h6 (c.agree.2 _ _ hget)
   obtain ⟨hn, hk⟩ := z5R h (by simp)
   injection hk with h1 h2 h3
   refine ⟨m, ch, vs, t, fun b => .pointer (some ⟨b, 0, none⟩), h2.symm, h3.symm, hn, by rw [hcr.1]; exact Nat.le_refl _, hcr.2.2, fun w => ?_, fun ρ' L' rb hb => ?_⟩
   ·simp [Instr.box, newVar, newRow, Value.cells]
   ·rw [← h1]; exact z1V hb
  ·cases h
 ·cases h
theorem z6W (c : Ctx base H n ρ L w) {t : TypeId} {x : Nat} {u : Value} (hx : VR ρ L x u) (h : loadA P t x H n = .ok v H' n') :
  CalmD ρ L H n w v H' n' (fun y w' => (Instr.loadAt t u).run P w' = .ok y w') := by
 unfold loadA at h
 rw [zf] at h
 split at h
 ·rename_i ha
  rw [z8] at h
  split at h
  ·rename_i h3
   rw [z8] at h
   split at h
   ·cases h
   ·rename_i hnz
    obtain ⟨ch, hrd, h⟩ := z2S h
    rcases hx.z1j h3 with ⟨h4, _⟩ | ⟨b, off, rb, d, sz, hb, ho, hw, rfl⟩
    ·rw [h4] at hnz; exact absurd rfl hnz
    ·obtain ⟨_, p2, p3⟩ := z2p b off ho
     rw [hw, p2, p3, Nat.pred_succ] at hrd
     obtain ⟨vs, ro⟩ := z2i c hb hrd
     obtain ⟨i, hi⟩ : ∃ i, P.info? t = some i := by
      rcases z1L ha with ⟨fs, hu⟩ | ⟨m, e, hu⟩ <;> exact z2u hu
     refine z5v (CellsR.zdJ ro) h ?_
     have hl : vs.length = i.size := by rw [ro.len, z1C hi]
     have := run_loadCells_list (P := P) w ⟨rb, d + off, none⟩ vs (fun j u hj => ro.cell j u hj)
     rw [hl] at this
     simp [Instr.loadAt, Instr.sureAddr, loadVar, z4x ha, z0L hi, this]
  ·cases h
 ·cases h
theorem z6X (c : Ctx base H n ρ L w) {t : TypeId} {m ch off : Nat} {vs : Array Value} (hc : CellsR ρ L m ch vs) (h : partE P t m ch off H n = .ok v H' n') :
  CalmD ρ L H n w v H' n' (fun y w' => (part t vs off).run P w' = .ok y w') := by
 unfold partE at h
 rw [zf] at h
 split at h
 ·rename_i hp
  rw [zJ] at h
  split at h
  ·rename_i hlt
   obtain ⟨h1, rfl, rfl, rfl⟩ := z0N h
   obtain ⟨u, a, b, _⟩ := hc.2.2 off hlt
   refine .pure c b ?_
   simp [part, run_isAgg_plain hp, a]
  ·cases h
 ·rw [zf] at h
  split at h
  ·rename_i ha
   rw [z0k] at h
   split at h
   ·rename_i hle
    obtain ⟨i, hi⟩ : ∃ i, P.info? t = some i := by
     rcases z1L ha with ⟨fs, hu⟩ | ⟨m, e, hu⟩ <;> exact z2u hu
    refine z5v (hc.chunk hle) h ?_
    simp [part, z4x ha, z0L hi, z1C hi]
   ·cases h
  ·cases h
theorem z9x (c : Ctx base H n ρ L w) {t : TypeId} {x i : Nat} {u : Value} (hx : VR ρ L x u) (h : fieldA P t x i H n = .ok v H' n') :
  CalmD ρ L H n w v H' n' (fun y w' => (Instr.field t u i).run P w' = .ok y w') := by
 unfold fieldA at h
 rw [z8] at h
 split at h
 ·rename_i h6
  split at h
  ·rename_i m ch hget
   obtain ⟨vs, rfl, hcr⟩ := hx.z2L h6 (c.agree.2 _ _ hget)
   split at h
   ·rename_i fs hu
    split at h
    ·rename_i f hf
     refine (z6X c hcr h).mono fun y hy => ?_
     simp [Instr.field, run_underlying hu, hf, asAgg, hy]
    ·cases h
   ·cases h
  ·cases h
 ·cases h
theorem zc9 {a b c : Nat} (h : sel (ltb a b) (ltb a c) false = true) : a < b ∧ a < c := by
 rw [zJ] at h
 split at h
 ·exact ⟨by assumption, (z08 _ _).1 h⟩
 ·cases h
theorem z9y (c : Ctx base H n ρ L w) {t : TypeId} {x y : Nat} {u ui : Value} (hx : VR ρ L x u) (hy : VR ρ L y ui) (h : indexA P t x y H n = .ok v H' n') :
  CalmD ρ L H n w v H' n' (fun z w' => (Instr.index t u ui).run P w' = .ok z w') := by
 unfold indexA at h
 rw [z8] at h
 split at h
 ·rename_i h6
  split at h
  ·rename_i m ch hget
   obtain ⟨vs, rfl, hcr⟩ := hx.z2L h6 (c.agree.2 _ _ hget)
   split at h
   ·rename_i len e hu
    rw [zf] at h
    split at h
    ·rename_i hinf
     obtain ⟨i, hi⟩ := z1k hinf
     rw [z8] at h
     split at h
     ·rename_i h1
      rw [zf] at h
      split at h
      ·rename_i hlt
       obtain ⟨hsm, hlt⟩ := zc9 hlt
       obtain ⟨p, hp, _, hpp, rfl⟩ := hy.z0i h1
       rw [hpp] at hlt hsm h
       rw [z1C hi] at h
       refine (z6X c hcr h).mono fun z hz => ?_
       have hsI : sInt p = (p : Int) := by unfold sInt; rw [if_pos (by omega)]
       rw [hsI]
       have hz' : (part e vs (p * i.size)).run P w = .ok z w := hz
       simp [Instr.index, asIntOf, run_underlying hu, hlt, z0L hi, hz']
      ·cases h
     ·cases h
    ·cases h
   ·cases h
  ·cases h
 ·cases h
theorem z6Y (c : Ctx base H n ρ L w) {x d : Nat} {u : Value} (hx : VR ρ L x u) (h : ptrAt x d H n = .ok v H' n') (hR : ∀ a, u = .pointer (some a) → R (.pointer (some (a.add d))) w) : CalmD ρ L H n w v H' n' R := by
 unfold ptrAt at h
 rw [z8] at h
 split at h
 ·rename_i h3
  rw [z8] at h
  split at h
  ·cases h
  ·rename_i hnz
   rw [zJ] at h
   split at h
   ·rename_i hlt
    rcases hx.z1j h3 with ⟨h4, _⟩ | ⟨b, off, rb, dd, sz, hb, ho, hw, rfl⟩
    ·rw [h4] at hnz; exact absurd rfl hnz
    ·obtain ⟨_, p2, p3⟩ := z2p b off ho
     rw [hw, p2] at hlt
     injection h with e1 e2 e3
     subst e2; subst e3
     rw [hw, p2, p3, Nat.pred_succ] at e1
     subst e1
     have := hR _ rfl
     rw [addr_add] at this
     refine .pure c (.ptr b (off + d) rb dd sz hb hlt) ?_
     rw [show dd + (off + d) = dd + off + d from by omega]; exact this
   ·cases h
 ·cases h
theorem z5S (c : Ctx base H n ρ L w) {s : TypeId} {x f : Nat} {u : Value} (hx : VR ρ L x u) (h : fieldAddrA P s x f H n = .ok v H' n') :
  CalmD ρ L H n w v H' n' (fun y w' => (Instr.fieldAt s u f).run P w' = .ok y w') := by
 unfold fieldAddrA at h
 split at h
 ·rename_i fs hu
  split at h
  ·rename_i fl hf
   rw [zf] at h
   split at h
   ·rename_i hinf
    obtain ⟨i, hi⟩ := z1k hinf
    rw [z8] at h
    split at h
    ·cases h
    ·rename_i hsz
     rw [z1C hi] at hsz
     refine z6Y c hx h fun a ha => ?_
     subst ha
     simp [Instr.fieldAt, run_underlying hu, hf, Instr.sureAddr, fieldPlace, z0L hi, hsz]
   ·cases h
  ·cases h
 ·cases h
theorem z5T (c : Ctx base H n ρ L w) {t : TypeId} {x y : Nat} {u ui : Value} (hx : VR ρ L x u) (hy : VR ρ L y ui) (h : indexAddrA P t x y H n = .ok v H' n') :
  CalmD ρ L H n w v H' n' (fun z w' => (Instr.indexAt t u ui).run P w' = .ok z w') := by
 unfold indexAddrA at h
 split at h
 ·rename_i len e hu
  rw [zf] at h
  split at h
  ·rename_i hinf
   obtain ⟨i, hi⟩ := z1k hinf
   rw [z8] at h
   split at h
   ·rename_i h1
    rw [zf] at h
    split at h
    ·rename_i hlt
     obtain ⟨hsm, hlt⟩ := zc9 hlt
     obtain ⟨p, hp, _, hpp, rfl⟩ := hy.z0i h1
     rw [hpp] at hlt hsm h
     rw [z1C hi] at h
     have hsI : sInt p = (p : Int) := by unfold sInt; rw [if_pos (by omega)]
     refine z6Y c hx h fun a ha => ?_
     subst ha
     rw [hsI]
     simp [Instr.indexAt, asIntOf, run_underlying hu, Instr.sureAddr, hlt, z0L hi]
    ·cases h
   ·cases h
  ·cases h
 ·cases h
theorem z8q : ∀ (ns : List Value) (o : Nat) (vs : Array Value) (k : Nat), o + k + ns.length ≤ vs.size →
  (ns.zipIdx k).foldl (fun cs (p : Value × Nat) => cs.setIfInBounds (o + p.2) p.1) vs = (vs.toList.take (o + k) ++ ns ++ vs.toList.drop (o + k + ns.length)).toArray
 | [], o, vs, k, h => by simp
 | x :: ns, o, vs, k, h => by
  simp only [List.length_cons] at h
  rw [List.zipIdx_cons, List.foldl_cons, z8q ns o _ (k + 1) (by simp; omega)]
  congr 1
  have hl : vs.toList.length = vs.size := by simp
  apply List.ext_getElem?
  intro j
  have e1 := get_put (vs.setIfInBounds (o + k) x).toList ns (o + (k + 1)) j (by simp; omega)
  have e2 := get_put vs.toList (x :: ns) (o + k) j (by simp; omega)
  rw [e1, e2]
  simp only [Array.toList_setIfInBounds, List.getElem?_set, List.length_cons]
  by_cases h1 : j < o + k
  ·simp [h1, show j < o + (k + 1) from by omega, show ¬ (o + k = j) from by omega]
  ·by_cases h2 : j = o + k
   ·subst h2
    simp [show o + k < o + (k + 1) from by omega, show o + k < vs.size from by omega]
   ·have h3 : ¬ j < o + (k + 1) := by omega
    rw [if_neg h3, if_neg h1]
    by_cases h4 : j < o + (k + 1) + ns.length
    ·rw [if_pos h4, if_pos (by omega), show j - (o + k) = (j - (o + (k + 1))) + 1 from by omega, List.getElem?_cons_succ]
    ·rw [if_neg h4, if_neg (by omega), if_neg (by omega)]
theorem z8r (place : Nat → Option (Nat × Nat)) {vs : Array Value} {i off sz : Nat} {u : Value} {rest : List (Nat × Value)} (hp : place i = some (off, sz)) (hs : u.cells.size = sz) (hle : off + sz ≤ vs.size) :
  Instr.fill place vs ((i, u) :: rest) = Instr.fill place (putAt vs off u.cells) rest := by
 have hf := z8q u.cells.toList off vs 0 (by simp [hs]; exact hle)
 have e : u.cells.zipIdx.foldl (fun cs (x : Value × Nat) => cs.setIfInBounds (off + x.2) x.1) vs = putAt vs off u.cells := by
  rw [← Array.foldl_toList, Array.toList_zipIdx]
  unfold putAt
  simpa using hf
 have h1 : ¬ (vs.size < off + sz) := by omega
 simp only [Instr.fill, hp]
 rw [← e]
 simp [hs, h1]
theorem z5U (c : Ctx base H n ρ L w) {tmps : Array Value} (ht : TR ρ L nt T tmps) {fs : Array Field} {tot : Nat} {places : Array (Nat × Nat)} (hpl : ∀ (i : Nat) (f : Field), fs[i]? = some f → places[i]? = some (f.offset, tsz P f.type)) :
  ∀ (ps : List (Nat × Operand)) (ch ch' : Nat) (vs : Array Value), CellsR ρ L tot ch vs → fillS P H T fs tot ps ch = .some ch' →
  ∃ vs', Instr.fill (places[·]?) vs (ps.map fun p => (p.1, evT tmps p.2)) = some vs' ∧ CellsR ρ L tot ch' vs'
 | [], ch, ch', vs, hc, h => by
  have e : fillS P H T fs tot [] ch = .some ch := rfl
  rw [e] at h; injection h with h; subst h
  exact ⟨vs, rfl, hc⟩
 | p :: ps, ch, ch', vs, hc, h => by
  have e : fillS P H T fs tot (p :: ps) ch = match fs[p.1]? with
   | some f => (match cellsN H (ev T p.2) (tsz P f.type) with
    | .some d => sel (Nat.ble (Nat.add f.offset (tsz P f.type)) tot) (fillS P H T fs tot ps (splice ch f.offset (tsz P f.type) tot d)) .none
    | .none => .none)
   | none => .none := rfl
  rw [e] at h
  split at h
  ·rename_i f hf
   split at h
   ·rename_i d hd
    rw [z0k] at h
    split at h
    ·rename_i hle
     have hle' : f.offset + tsz P f.type ≤ tot := hle
     have hnb : tagOf (ev T p.2) ≠ 15 := by
      intro hb
      unfold cellsN at hd
      rw [z8, if_neg (by omega), z8] at hd
      split at hd
      ·rw [zf] at hd
       split at hd
       ·rename_i hs; exact ((z0g _).1 hs).2.2.1 hb
       ·cases hd
      ·cases hd
     have hcr := z3u c (zC ht p.2 hnb) hd
     obtain ⟨vs', h1, h2⟩ := z5U c ht hpl ps _ ch' _ (hc.splice hcr hle') h
     refine ⟨vs', ?_, h2⟩
     rw [List.map_cons, z8r _ (hpl _ _ hf) hcr.1 (by rw [hc.1]; exact hle')]
     exact h1
    ·cases h
   ·cases h
  ·cases h
theorem z3Y (c : Ctx base H n ρ L w) {tmps : Array Value} (ht : TR ρ L nt T tmps) {sz tot : Nat} :
  ∀ (ps : List (Nat × Operand)) (ch ch' : Nat) (vs : Array Value), CellsR ρ L tot ch vs → fillR H T sz tot ps ch = .some ch' →
  ∃ vs', Instr.fill (fun i => some (i * sz, sz)) vs (ps.map fun p => (p.1, evT tmps p.2)) = some vs' ∧ CellsR ρ L tot ch' vs'
 | [], ch, ch', vs, hc, h => by
  have e : fillR H T sz tot [] ch = .some ch := rfl
  rw [e] at h; injection h with h; subst h
  exact ⟨vs, rfl, hc⟩
 | p :: ps, ch, ch', vs, hc, h => by
  have e : fillR H T sz tot (p :: ps) ch = match cellsN H (ev T p.2) sz with
   | .some d => sel (Nat.ble (Nat.add (Nat.mul p.1 sz) sz) tot) (fillR H T sz tot ps (splice ch (Nat.mul p.1 sz) sz tot d)) .none
   | .none => .none := rfl
  rw [e] at h
  split at h
  ·rename_i d hd
   rw [z0k] at h
   split at h
   ·rename_i hle
    have hle' : p.1 * sz + sz ≤ tot := hle
    have hnb : tagOf (ev T p.2) ≠ 15 := by
     intro hb
     unfold cellsN at hd
     rw [z8, if_neg (by omega), z8] at hd
     split at hd
     ·rw [zf] at hd
      split at hd
      ·rename_i hs; exact ((z0g _).1 hs).2.2.1 hb
      ·cases hd
     ·cases hd
    have hcr := z3u c (zC ht p.2 hnb) hd
    obtain ⟨vs', h1, h2⟩ := z3Y c ht ps _ ch' _ (hc.splice hcr hle') h
    refine ⟨vs', ?_, h2⟩
    rw [List.map_cons, z8r (off := p.1 * sz) (sz := sz) _ rfl hcr.1 (by rw [hc.1]; exact hle')]
    exact h1
   ·cases h
  ·cases h
theorem z4y {α β : Type} {f : α → Sem β} {g : α → β} : ∀ (l : List α), (∀ x ∈ l, (f x).run P w = .ok (g x) w) → (l.mapM f).run P w = .ok (l.map g) w
 | [], _ => by simp
 | x :: l, h => by
  rw [List.mapM_cons]
  simp only [Sem.run_bind, h x (by simp), Result.andThen_ok, z4y l (fun y hy => h y (by simp [hy])), Sem.run_pure, List.map_cons]
theorem z6K {α β : Type} {f : α → Sem β} {g : α → β} (a : Array α) (h : ∀ x ∈ a.toList, (f x).run P w = .ok (g x) w) : (a.mapM f).run P w = .ok (a.map g) w := by
 rw [Array.mapM_eq_mapM_toList]
 have := z4y (P := P) (w := w) a.toList h
 show ((List.mapM f a.toList) >>= fun l => (pure l.toArray : Sem (Array β))).run P w = _
 simp only [Sem.run_bind, this, Result.andThen_ok, Sem.run_pure]
 congr 1
 apply Array.ext'
 simp
theorem z6Z : ∀ (l : List Field), infosE P l = true → ∀ f ∈ l, ∃ i, P.info? f.type = some i
 | [], _, f, hf => by cases hf
 | x :: l, h, f, hf => by
  have e : infosE P (x :: l) = sel (hasInfo P x.type) (infosE P l) false := rfl
  rw [e, zf] at h
  split at h
  ·rename_i h1
   rcases List.mem_cons.1 hf with rfl | hf
   ·exact z1k h1
   ·exact z6Z l h f hf
  ·cases h
theorem z9z (c : Ctx base H n ρ L w) {tmps : Array Value} (ht : TR ρ L nt T tmps) {t : TypeId} {ps : Array (Nat × Operand)} (h : buildA P T t ps H n = .ok v H' n') :
  CalmD ρ L H n w v H' n' (fun y w' => (Instr.build t (ps.map fun (i, x) => (i, evT tmps x))).run P w' = .ok y w') := by
 unfold buildA at h
 obtain ⟨i, z, c0, hi, hz, h, hc⟩ := z2m h (by simp)
 have hps : (ps.map fun (x : Nat × Operand) => (x.1, evT tmps x.2)).toList = ps.toList.map fun p => (p.1, evT tmps p.2) := by simp
 split at h
 ·rename_i fs hu
  rw [zf] at h
  split at h
  ·rename_i hinf
   obtain ⟨ch, hf, h⟩ := z2S h
   rw [z1C hi] at h hf
   have hin := z6Z _ hinf
   have hm := z6K (P := P) (w := w) (f := fun f : Field => do pure (f.offset, ← sizeOf f.type)) (g := fun f : Field => (f.offset, tsz P f.type)) fs (fun f hf => by
    obtain ⟨j, hj⟩ := hin f hf
    simp [z0L hj, z1C hj])
   obtain ⟨vs', h1, h2⟩ := z5U (places := fs.map fun f : Field => (f.offset, tsz P f.type)) c ht (fun k f hk => by simp [hk]) ps.toList c0 ch z.cells (hc ρ L) hf
   refine z5v h2 h ?_
   show (Instr.build t (ps.map fun (x : Nat × Operand) => (x.1, evT tmps x.2))).run P w = _
   simp only [Instr.build, Sem.run_bind, z1K hi hz, Result.andThen_ok, run_underlying hu, hm, hps]
   rw [h1]
   simp
  ·cases h
 ·rename_i len e hu
  rw [zf] at h
  split at h
  ·rename_i hinf
   obtain ⟨j, hj⟩ := z1k hinf
   obtain ⟨ch, hf, h⟩ := z2S h
   rw [z1C hi] at h
   rw [z1C hi, z1C hj] at hf
   obtain ⟨vs', h1, h2⟩ := z3Y c ht ps.toList c0 ch z.cells (hc ρ L) hf
   refine z5v h2 h ?_
   show (Instr.build t (ps.map fun (x : Nat × Operand) => (x.1, evT tmps x.2))).run P w = _
   simp only [Instr.build, Sem.run_bind, z1K hi hz, Result.andThen_ok, run_underlying hu, z0L hj, hps]
   rw [h1]
   simp
  ·cases h
 ·cases h
theorem z8s (z sz m : Nat) : repC z sz (m + 1) = cat (repC z sz m) (sz * m) z := rfl
theorem z9A {z sz : Nat} (hz : z < 2 ^ (128 * sz)) : ∀ m, repC z sz m < 2 ^ (128 * (sz * m))
 | 0 => by show 0 < _; exact Nat.pow_pos (by omega)
 | m + 1 => by
  rw [z8s, Nat.mul_succ]
  exact z5O _ _ _ _ (z9A hz m) hz
theorem z8t {z sz : Nat} (hz : z < 2 ^ (128 * sz)) : ∀ m j, j < sz * m → getW (repC z sz m) j = getW z (j % sz)
 | 0, j, h => by omega
 | m + 1, j, h => by
  rw [z8s]
  by_cases hj : j < sz * m
  ·rw [z0G _ _ _ _ hj]; exact z8t hz m j hj
  ·rw [Nat.mul_succ] at h
   have := z11 (repC z sz m) (sz * m) z (j - sz * m) (z9A hz m)
   rw [show sz * m + (j - sz * m) = j from by omega] at this
   rw [this]
   congr 1
   rw [show j = (j - sz * m) + sz * m from by omega, Nat.add_mul_mod_self_left, Nat.mod_eq_of_lt (by omega)]
   omega
theorem z2T (c : Ctx base H n ρ L w) {tmps : Array Value} (ht : TR ρ L nt T tmps) {t e : TypeId} {len i : Nat} {ps : Array (Nat × Operand)} (hu : P.underlying t = some (.slice e)) (h : buildSliceA P T e len ps H i = .ok v H' n') :
  MakesA P (Instr.buildSlice t len (ps.map fun (i, x) => (i, evT tmps x))) ρ L H i v H' n' := by
 unfold buildSliceA at h
 rw [zJ] at h
 split at h
 ·rename_i h256
  rw [z8] at h
  split at h
  ·cases h
  ·rename_i hsz0
   rw [zJ] at h
   split at h
   ·rename_i hsm
    obtain ⟨q, z, c0, hq, hz, h, hc⟩ := z2m h (by simp)
    rw [z1C hq] at h256 hsz0 hsm h
    have hsm' : (len + 1) * q.size < 1048576 := hsm
    have hc0 := hc ρ L
    split at h
    ·rename_i ch hf
     obtain ⟨hn, hk⟩ := z5R h (by simp)
     injection hk with h1 h2 h3
     have hzs : z.cells.size = q.size := hc0.1
     have hrow : CellsR ρ L (len * q.size) (repC c0 q.size len) ((Array.range (len * q.size)).map (z.cells[· % z.cells.size]!)) := by
      refine ⟨by simp, by rw [Nat.mul_comm len]; exact z9A hc0.2.1 len, fun j hj => ?_⟩
      rw [z8t hc0.2.1 len j (by rw [Nat.mul_comm]; exact hj)]
      have hjm : j % q.size < q.size := Nat.mod_lt _ (by omega)
      obtain ⟨u, a, b, d⟩ := hc0.2.2 (j % q.size) hjm
      refine ⟨u, ?_, b, d⟩
      have hlt : j % q.size < z.cells.size := by omega
      rw [Array.getElem?_eq_getElem hlt] at a
      injection a with a
      simp only [Array.getElem?_map, Array.getElem?_range, hj, if_true, Option.map_some, hzs]
      rw [getElem!_pos z.cells _ hlt, a]
     obtain ⟨vs', f1, f2⟩ := z3Y c ht ps.toList _ ch _ hrow hf
     have hps : (ps.map fun (x : Nat × Operand) => (x.1, evT tmps x.2)).toList = ps.toList.map fun p => (p.1, evT tmps p.2) := by simp
     have hle : len * q.size ≤ (len + 1) * q.size := Nat.mul_le_mul_right _ (Nat.le_succ _)
     have hlen : len + 1 < 1048576 := by
      have : (len + 1) * 1 ≤ (len + 1) * q.size := Nat.mul_le_mul_left _ (by omega)
      omega
     refine ⟨len * q.size, ch, vs', e, fun b => .slice (some ⟨b, 0, none⟩) len len, h2.symm, h3.symm, hn, by rw [f2.1]; exact Nat.le_refl _, f2.2.2, fun w => ?_, fun ρ' L' rb hb => ?_⟩
     ·have hno : ¬ (16777216 < len * q.size) := by omega
      show (Instr.buildSlice t len (ps.map fun (x : Nat × Operand) => (x.1, evT tmps x.2))).run P w = _
      by_cases hl : len = 0
      ·subst hl
       have r0 : ∀ f : Nat → Value, (Array.range 0).map f = #[] := fun f => Array.eq_empty_of_size_eq_zero (by simp)
       simp only [Nat.zero_mul, r0] at f1
       simp [Instr.buildSlice, run_underlying hu, z0L hq, newRow, r0]
       rw [f1]
       simp [newRow]
      ·have hne : ¬ (len * q.size = 0) := by
        intro hh
        rcases Nat.mul_eq_zero.1 hh with hh | hh <;> omega
       simp only [Instr.buildSlice, Sem.run_bind, run_underlying hu, Result.andThen_ok, z0L hq, hps]
       have h24 : ¬ (len * q.size > 2 ^ 24) := by
        have : (2 : Nat) ^ 24 = 16777216 := by decide
        omega
       rw [Sem.run_ite, if_neg h24, Sem.run_ite, if_neg hne]
       simp only [Sem.run_bind, z1K hq hz, Result.andThen_ok, Sem.run_pure, f1]
       simp [newRow]
     ·rw [← h1]
      exact z1a hb h256 (by omega) (by omega) (Nat.le_refl _) (by omega) (.inr rfl) (by rw [f2.1]; exact Nat.le_refl _)
    ·cases h
   ·cases h
 ·cases h
theorem z5V : ∀ (l : List Field) (off tot : Nat), runsE P l off tot = true → P.runs off l = some tot
 | [], off, tot, h => by
  have e : runsE P [] off tot = Nat.beq off tot := rfl
  rw [e] at h
  simp [Program.runs, Nat.eq_of_beq_eq_true h]
 | f :: l, off, tot, h => by
  have e : runsE P (f :: l) off tot = sel (Nat.beq f.offset off) (runsE P l (Nat.add off (P.cellsOf f.type)) tot) false := rfl
  rw [e, z8] at h
  split at h
  ·rename_i ho
   simp only [Program.runs, ho, if_true]
   exact z5V l _ tot h
  ·cases h
theorem z4M (p : Field → Bool) : ∀ l : List Field, allFld p l = true → ∀ f ∈ l, p f = true
 | [], _, f, hf => by cases hf
 | x :: l, h, f, hf => by
  have e : allFld p (x :: l) = sel (p x) (allFld p l) false := rfl
  rw [e, zf] at h
  split at h
  ·rename_i h1
   rcases List.mem_cons.1 hf with rfl | hf
   ·exact h1
   ·exact z4M p l h f hf
  ·cases h
def IntCell (v : Value) : Prop := ∃ n : Int, v = .int .i64 n ∧ (Lit.int .i64 n).wf = true
theorem z9B {α β : Type} {f : α → Option β} : ∀ (l : List α), (∀ x ∈ l, ∃ y, f x = some y) → ∃ ys, l.mapM f = some ys
 | [], _ => ⟨[], by simp⟩
 | x :: l, h => by
  obtain ⟨y, hy⟩ := h x (by simp)
  obtain ⟨ys, hys⟩ := z9B l fun z hz => h z (by simp [hz])
  exact ⟨y :: ys, by simp [List.mapM_cons, hy, hys]⟩
theorem zca : ∀ (l : List Field) (off tot : Nat), P.runs off l = some tot → off ≤ tot ∧ ∀ f ∈ l, f.offset + P.cellsOf f.type ≤ tot
 | [], off, tot, h => by
  simp only [Program.runs, Option.some.injEq] at h
  exact ⟨by omega, by intro f hf; cases hf⟩
 | x :: l, off, tot, h => by
  simp only [Program.runs] at h
  split at h
  ·rename_i ho
   obtain ⟨h1, h2⟩ := zca l _ tot h
   refine ⟨by omega, fun f hf => ?_⟩
   rcases List.mem_cons.1 hf with rfl | hf
   ·omega
   ·exact h2 f hf
  ·cases h
theorem z3Z : ∀ (m : Nat) (t : TypeId), intT P m t = true → ∀ (D : Nat) (cs : List Value), m ≤ D → cs.length = P.cellsOf t → (∀ v ∈ cs, IntCell v) → ∃ l, P.keyLits D t cs = some l
 | 0, _, h, _, _, _, _, _ => by cases h
 | m + 1, t, h, D, cs, hD, hl, hc => by
  have e : intT P (m + 1) t = match P.underlying t with
   | some (.int .i64) => Nat.beq (P.cellsOf t) 1
   | some (.array n e) => sel (Nat.beq (P.cellsOf t) (Nat.mul n (P.cellsOf e))) (intT P m e) false
   | some (.struct fs) => sel (runsE P fs.toList 0 (P.cellsOf t)) (allFld (fun f => sel (f.name != "_") (intT P m f.type) false) fs.toList) false
   | _ => false := rfl
  rw [e] at h
  obtain ⟨D, rfl⟩ : ∃ d, D = d + 1 := ⟨D - 1, by omega⟩
  split at h
  ·rename_i hu
   have h1 := Nat.eq_of_beq_eq_true h
   rw [h1] at hl
   obtain ⟨v, rfl⟩ := List.length_eq_one_iff.1 hl
   obtain ⟨k, rfl, hw⟩ := hc v (by simp)
   exact ⟨[.int .i64 k], by simp [Program.keyLits, hu, hw]⟩
  ·rename_i k e' hu
   rw [z8] at h
   split at h
   ·rename_i hsz
    have hsz' : P.cellsOf t = k * P.cellsOf e' := hsz
    obtain ⟨ys, hys⟩ := z9B (f := fun i => P.keyLits D e' ((cs.drop (i * P.cellsOf e')).take (P.cellsOf e'))) (List.range k) fun i hi => by
     have hik : i < k := by simpa using hi
     have hle : i * P.cellsOf e' + P.cellsOf e' ≤ k * P.cellsOf e' := by
      rw [← Nat.succ_mul]; exact Nat.mul_le_mul_right _ hik
     exact z3Z m e' h D _ (by omega) (by rw [List.length_take, List.length_drop]; omega) fun v hv => hc v (List.mem_of_mem_drop (List.mem_of_mem_take hv))
    exact ⟨ys.flatten, by simp [Program.keyLits, hu, hl, hys]⟩
   ·cases h
  ·rename_i fs hu
   rw [zf] at h
   split at h
   ·rename_i hr
    have hr' := z5V _ _ _ hr
    have hall := z4M _ _ h
    obtain ⟨_, hle⟩ := zca _ _ _ hr'
    have hall' : ∀ f ∈ fs.toList, (f.name != "_") = true ∧ intT P m f.type = true := fun f hf => by
     have := hall f hf
     rw [zf] at this
     split at this
     ·exact ⟨by assumption, this⟩
     ·cases this
    obtain ⟨ys, hys⟩ := z9B (f := fun f : Field => P.keyLits D f.type ((cs.drop f.offset).take (P.cellsOf f.type))) fs.toList fun f hf =>
     z3Z m f.type (hall' f hf).2 D _ (by omega) (by have := hle f hf; rw [List.length_take, List.length_drop]; omega) fun v hv => hc v (List.mem_of_mem_drop (List.mem_of_mem_take hv))
    have hnm : fs.all (·.name != "_") = true := by
     rw [Array.all_eq_true_iff_forall_mem]
     intro f hf
     exact (hall' f (Array.mem_toList_iff.2 hf)).1
    refine ⟨ys.flatten, ?_⟩
    have hne : ∀ v, cs = [v] → True := fun _ _ => trivial
    simp only [Program.keyLits, hu, hl, hnm, and_self, if_true, hys, Option.map_some]
   ·cases h
  ·cases h
theorem z7a : ∀ (m c : Nat), allInt m c = true → ∀ i, i < m → tagOf (getW c i) = 1
 | 0, _, _, i, hi => by omega
 | m + 1, c, h, i, hi => by
  have e : allInt (m + 1) c = sel (Nat.beq (tagOf (getW c 0)) 1) (allInt m (Nat.shiftRight c 128)) false := rfl
  rw [e, z8] at h
  split at h
  ·rename_i h0
   cases i with
   | zero => exact h0
   | succ i =>
    have := z7a m _ h i (by omega)
    have e2 : getW (Nat.shiftRight c 128) i = getW c (i + 1) := by
     apply Nat.eq_of_testBit_eq
     intro k
     rw [z0n, z0n]
     have : (Nat.shiftRight c 128).testBit (128 * i + k) = c.testBit (128 + (128 * i + k)) := Nat.testBit_shiftRight ..
     rw [this, show 128 * (i + 1) + k = 128 + (128 * i + k) from by omega]
    rw [← e2]; exact this
  ·cases h
theorem zcb {m c c' : Nat} (h : c < 2 ^ (128 * m)) (h' : c' < 2 ^ (128 * m)) (hg : ∀ i, i < m → getW c i = getW c' i) : c = c' := by
 apply Nat.eq_of_testBit_eq
 intro k
 by_cases hk : k < 128 * m
 ·have := congrArg (fun x => x.testBit (k % 128)) (hg (k / 128) (by omega))
  simp only [z0n] at this
  have hm : k % 128 < 128 := Nat.mod_lt _ (by omega)
  simp only [hm, decide_true, Bool.true_and] at this
  rw [show 128 * (k / 128) + k % 128 = k from by omega] at this
  exact this
 ·rw [Nat.testBit_lt_two_pow (Nat.lt_of_lt_of_le h (Nat.pow_le_pow_right (by omega) (by omega))), Nat.testBit_lt_two_pow (Nat.lt_of_lt_of_le h' (Nat.pow_le_pow_right (by omega) (by omega)))]
theorem intCells {m c : Nat} {vs : Array Value} (h : CellsR ρ L m c vs) (hi : allInt m c = true) : (∀ v ∈ vs.toList, IntCell v) ∧ ∀ i, i < m → ∃ p, p < 18446744073709551616 ∧ getW c i = wI p ∧ vs[i]? = some (.int .i64 (sInt p)) := by
 have key : ∀ i, i < m → ∃ p, p < 18446744073709551616 ∧ getW c i = wI p ∧ vs[i]? = some (.int .i64 (sInt p)) := by
  intro i him
  obtain ⟨u, a, b, _⟩ := h.2.2 i him
  obtain ⟨p, hp, hw, _, hv⟩ := b.z0i (z7a m c hi i him)
  exact ⟨p, hp, hw, by rw [a, hv]⟩
 refine ⟨fun v hv => ?_, key⟩
 obtain ⟨i, him, he⟩ := Array.mem_iff_getElem.1 (Array.mem_toList_iff.1 hv)
 obtain ⟨p, hp, _, h2⟩ := key i (by rw [← h.1]; exact him)
 rw [Array.getElem?_eq_getElem him, he] at h2
 injection h2 with h2
 refine ⟨sInt p, h2, ?_⟩
 have h1 : -9223372036854775808 ≤ sInt p ∧ sInt p < 9223372036854775808 := by unfold sInt; split <;> omega
 have e1 : IntKind.i64.min = -9223372036854775808 := by decide
 have e2 : IntKind.i64.max = 9223372036854775807 := by decide
 simp only [Lit.wf, e1, e2]
 simp
 omega
theorem z5w {t : TypeId} (h : keyT P t = true) : P.keyType t = true ∧ intT P 8 t = true ∧ aggT P t = true ∧ 7 ≤ P.types.size ∧ P.types.size ≤ 9999 := by
 unfold keyT at h
 rw [zf] at h
 split at h
 ·rw [zf] at h
  split at h
  ·rw [zf] at h
   split at h
   ·rw [z0k] at h
    split at h
    ·exact ⟨by assumption, by assumption, by assumption, by assumption, Nat.le_of_ble_eq_true h⟩
    ·cases h
   ·cases h
  ·cases h
 ·cases h
theorem z3H : ∀ (m : Nat) (t : TypeId), intT P m t = true → P.tiled m t = true
 | 0, _, h => by cases h
 | m + 1, t, h => by
  have e : intT P (m + 1) t = match P.underlying t with
   | some (.int .i64) => Nat.beq (P.cellsOf t) 1
   | some (.array n e) => sel (Nat.beq (P.cellsOf t) (Nat.mul n (P.cellsOf e))) (intT P m e) false
   | some (.struct fs) => sel (runsE P fs.toList 0 (P.cellsOf t)) (allFld (fun f => sel (f.name != "_") (intT P m f.type) false) fs.toList) false
   | _ => false := rfl
  rw [e] at h
  unfold Program.tiled
  split at h
  ·rename_i hu
   simp [hu]
  ·rename_i k e' hu
   rw [z8] at h
   split at h
   ·rename_i hsz
    have hsz' : P.cellsOf t = k * P.cellsOf e' := hsz
    simp [hu, hsz', z3H m e' h]
   ·cases h
  ·rename_i fs hu
   rw [zf] at h
   split at h
   ·rename_i hr
    have hr' := z5V _ _ _ hr
    have hall := z4M _ _ h
    simp only [hu, hr', beq_self_eq_true, Bool.true_and]
    rw [Array.all_eq_true_iff_forall_mem]
    intro f hf
    have := hall f (Array.mem_toList_iff.2 hf)
    rw [zf] at this
    split at this
    ·exact z3H m f.type this
    ·cases this
   ·cases h
  ·cases h
theorem z3v {t : TypeId} (hk : keyT P t = true) {m c c' : Nat} {vs vs' : Array Value} (hm : m = P.cellsOf t) (h : CellsR ρ L m c vs) (h' : CellsR ρ L m c' vs') (hi : allInt m c = true) (hi' : allInt m c' = true)
  (w : World) : (Op.equal t (.agg vs) (.agg vs')).run P w = .ok (Nat.beq c c') w := by
 obtain ⟨k1, k2, k3, hty, hd⟩ := z5w hk
 obtain ⟨a1, a2⟩ := intCells h hi
 obtain ⟨b1, b2⟩ := intCells h' hi'
 obtain ⟨l, hl⟩ := z3Z 8 t k2 (P.types.size + 1) vs.toList (by omega) (by rw [Array.length_toList, h.1, hm]) a1
 obtain ⟨l', hl'⟩ := z3Z 8 t k2 (P.types.size + 1) vs'.toList (by omega) (by rw [Array.length_toList, h'.1, hm]) b1
 have fm : ∀ xs : Array Value, xs.size = m → (Value.agg xs).formed P t = true := by
  intro xs hx
  unfold Value.formed
  rcases z1L k3 with ⟨fs, hu⟩ | ⟨q, e, hu⟩ <;> simp [hu, hx, hm]
 have ko : ∀ (xs : Array Value) (ls : List Lit), xs.size = m → P.keyLits (P.types.size + 1) t xs.toList = some ls → keyOf P t (.agg xs) = some (.string (keyBytes ls)) := by
  intro xs ls hx hls
  unfold keyOf
  rcases z1L k3 with ⟨fs, hu⟩ | ⟨q, e, hu⟩ <;> simp [hu, k1, fm xs hx, Value.cells, hls]
 have wide : (match P.underlying t with | some (.array _ _) | some (.struct _) => true | _ => false) = true := by
  rcases z1L k3 with ⟨fs, hu⟩ | ⟨q, e, hu⟩ <;> rw [hu]
 obtain ⟨r, hr, hiff⟩ := run_equal_deep w (show P.types.size + 1 ≤ 10000 by omega) k1 wide (ko vs l h.1 hl) (ko vs' l' h'.1 hl')
 have : r = Nat.beq c c' := by
  rw [Bool.eq_iff_iff, hiff]
  constructor
  ·intro e
   have el : l = l' := keyLits_inj hl hl' (by simpa using e)
   have c1 := cells_of_lits 8 t (z3H 8 t k2) _ _ _ hl
   have c2 := cells_of_lits 8 t (z3H 8 t k2) _ _ _ hl'
   have ev : vs = vs' := Array.ext' (by rw [c1, c2, el])
   subst ev
   have : c = c' := zcb h.2.1 h'.2.1 fun i him => by
    obtain ⟨p, hp, q1, q2⟩ := a2 i him
    obtain ⟨p', hp', q1', q2'⟩ := b2 i him
    rw [q2] at q2'
    injection q2' with q2'; injection q2' with _ q2'
    rw [q1, q1', (z5t p p' hp hp').1 q2']
   rw [this]; simp
  ·intro e
   have e := Nat.eq_of_beq_eq_true e
   subst e
   have ev : vs = vs' := by
    apply Array.ext
    ·rw [h.1, h'.1]
    ·intro i h1 h2
     obtain ⟨p, hp, q1, q2⟩ := a2 i (by rw [← h.1]; exact h1)
     obtain ⟨p', hp', q1', q2'⟩ := b2 i (by rw [← h.1]; exact h1)
     rw [Array.getElem?_eq_getElem h1] at q2
     rw [Array.getElem?_eq_getElem h2] at q2'
     injection q2 with q2; injection q2' with q2'
     rw [q1] at q1'
     have : p = p' := by
      have := congrArg payOf q1'
      rwa [z8k, z8k] at this
     rw [q2, q2', this]
   subst ev
   rw [hl] at hl'; injection hl' with hl'
   rw [hl']
 rw [hr, this]
theorem z6L {t : TypeId} (hk : keyT P t = true) {m : Nat} {vs vs' : Array Value} (hm : m = P.cellsOf t) (h1 : vs.size = m) (h2 : vs'.size = m) (a1 : ∀ v ∈ vs.toList, IntCell v) (b1 : ∀ v ∈ vs'.toList, IntCell v)
  (w : World) : ∃ r, (Op.equal t (.agg vs) (.agg vs')).run P w = .ok r w ∧ (r = true ↔ vs = vs') := by
 obtain ⟨k1, k2, k3, hty, hd⟩ := z5w hk
 obtain ⟨l, hl⟩ := z3Z 8 t k2 (P.types.size + 1) vs.toList (by omega) (by rw [Array.length_toList, h1, hm]) a1
 obtain ⟨l', hl'⟩ := z3Z 8 t k2 (P.types.size + 1) vs'.toList (by omega) (by rw [Array.length_toList, h2, hm]) b1
 have fm : ∀ xs : Array Value, xs.size = m → (Value.agg xs).formed P t = true := by
  intro xs hx
  unfold Value.formed
  rcases z1L k3 with ⟨fs, hu⟩ | ⟨q, e, hu⟩ <;> simp [hu, hx, hm]
 have ko : ∀ (xs : Array Value) (ls : List Lit), xs.size = m → P.keyLits (P.types.size + 1) t xs.toList = some ls → keyOf P t (.agg xs) = some (.string (keyBytes ls)) := by
  intro xs ls hx hls
  unfold keyOf
  rcases z1L k3 with ⟨fs, hu⟩ | ⟨q, e, hu⟩ <;> simp [hu, k1, fm xs hx, Value.cells, hls]
 have wide : (match P.underlying t with | some (.array _ _) | some (.struct _) => true | _ => false) = true := by
  rcases z1L k3 with ⟨fs, hu⟩ | ⟨q, e, hu⟩ <;> rw [hu]
 obtain ⟨r, hr, hiff⟩ := run_equal_deep w (show P.types.size + 1 ≤ 10000 by omega) k1 wide (ko vs l h1 hl) (ko vs' l' h2 hl')
 refine ⟨r, hr, hiff.trans ⟨fun e => ?_, fun e => ?_⟩⟩
 ·have el : l = l' := keyLits_inj hl hl' (by simpa using e)
  have c1 := cells_of_lits 8 t (z3H 8 t k2) _ _ _ hl
  have c2 := cells_of_lits 8 t (z3H 8 t k2) _ _ _ hl'
  exact Array.ext' (by rw [c1, c2, el])
 ·subst e
  rw [hl] at hl'; injection hl' with hl'
  rw [hl']
theorem zd9 {x : Nat} {k : Nat → OR} {r : OR} (h : isI x k = r) (hr : ∀ q, r ≠ .bad q) : tagOf x = 1 ∧ k (payOf x) = r := by
 unfold isI at h
 rw [z8] at h
 split at h
 ·exact ⟨by assumption, h⟩
 ·exact absurd h.symm (hr _)
theorem z4z {tmps : Array Value} {q : Option Operand} {d : Nat} {k : Nat → OR} {r : OR} (h : optI q T d k = r) (hr : ∀ q, r ≠ .bad q) (ht : TR ρ L nt T tmps) :
  ∃ p, ((q = none ∧ p = d) ∨ ∃ x, q = some x ∧ p < 18446744073709551616 ∧ evT tmps x = .int .i64 (sInt p)) ∧ k p = r := by
 cases q with
 | none => exact ⟨d, .inl ⟨rfl, rfl⟩, h⟩
 | some x =>
  obtain ⟨h1, h2⟩ := zd9 h hr
  obtain ⟨p, hp, _, hpp, hv⟩ := (zC ht x (by omega)).z0i h1
  rw [hpp] at h2
  exact ⟨p, .inr ⟨x, rfl, hp, hv⟩, h2⟩
theorem z5o {lo hi mx : Option Value} {len l h m : Nat} (hm : (mx = none ∧ m = len) ∨ (mx = some (.int .i64 (m : Int)) ∧ hi ≠ none)) (hh : (hi = none ∧ h = len) ∨ hi = some (.int .i64 (h : Int)))
  (hl : (lo = none ∧ l = 0) ∨ lo = some (.int .i64 (l : Int))) (h1 : m ≤ len) (h2 : h ≤ m) (h3 : l ≤ h) : (Instr.sliceBounds false len len lo hi mx).run P w = .ok (l, h, m) w := by
 have h4 : h ≤ len := Nat.le_trans h2 h1
 rcases hm with ⟨rfl, rfl⟩ | ⟨rfl, hne⟩ <;> rcases hh with ⟨rfl, rfl⟩ | rfl <;> rcases hl with ⟨rfl, rfl⟩ | rfl <;>
  first
  | exact absurd rfl hne
  | simp [Instr.sliceBounds, Instr.sliceBound, asIntOf, h1, h2, h3, h4]
theorem z7N (c : Ctx base H n ρ L w) {tmps : Array Value} (ht : TR ρ L nt T tmps) {t : TypeId} {x : Nat} {vx : Value} {lo hi mx : Option Operand} (hx : VR ρ L x vx) (h : sliceArr P T t x lo hi mx H n = .ok v H' n') :
  CalmD ρ L H n w v H' n' (fun y w' => (Instr.sliceAt t vx (lo.map (evT tmps)) (hi.map (evT tmps)) (mx.map (evT tmps))).run P w' = .ok y w') := by
 unfold sliceArr at h
 split at h
 ·rename_i len e hu
  rw [zf] at h
  split at h
  ·rename_i hinf
   obtain ⟨j, hj⟩ := z1k hinf
   rw [z1C hj] at h
   rw [z8] at h
   split at h
   ·rename_i h3
    rw [z8] at h
    split at h
    ·cases h
    ·rename_i hnz
     rcases hx.z1j h3 with ⟨h4, _⟩ | ⟨b, off, rb, d, sz, hb, ho, hw, rfl⟩
     ·rw [h4] at hnz; exact absurd rfl hnz
     ·obtain ⟨_, p2, p3⟩ := z2p b off ho
      rw [hw, p2, p3, Nat.pred_succ] at h
      split at h
      ·rename_i nb cb g keep since mm hget
       rw [zf] at h
       split at h
       ·rename_i hc
        rw [z0k] at hc
        split at hc
        ·rename_i hle
         rw [zf] at hc
         split at hc
         ·rename_i hval
          rw [zJ] at hc
          split at hc
          ·rename_i h256
           rw [zJ] at hc
           split at hc
           ·rename_i hsm
            have hls := (z08 _ _).1 hc
            have hle' : off + len * j.size ≤ nb := hle
            have hsm' : off + len * j.size < 1048576 := hsm
            have hls' : len + 1 < 1048576 := hls
            have hL := c.agree.2 _ _ hget
            have hl := z1E c.agree hL hval
            obtain ⟨kk, hk, hbr⟩ := c.sim.blk b _ hb
            rw [hL] at hk; injection hk with hk; subst hk
            obtain ⟨cs, ty, fz, q1, q2, q3, _, _⟩ := hbr hl
            obtain ⟨m, hm, h⟩ := z4z h (by simp) ht
            obtain ⟨hh, hhh, h⟩ := z4z h (by simp) ht
            obtain ⟨l, hlo, h⟩ := z4z h (by simp) ht
            rw [zf] at h
            split at h
            ·rename_i hb3
             rw [zf] at hb3
             split at hb3
             ·rename_i hmx
              rw [z0k] at hb3
              split at hb3
              ·rename_i hml
               rw [z0k] at hb3
               split at hb3
               ·rename_i hhm
                have hlh := Nat.le_of_ble_eq_true hb3
                injection h with e1 e2 e3
                subst e1; subst e2; subst e3
                have sI : ∀ p : Nat, p ≤ len → sInt p = (p : Int) := fun p hp => by unfold sInt; rw [if_pos (by omega)]
                have b1 : (Instr.sliceBounds false len len (lo.map (evT tmps)) (hi.map (evT tmps)) (mx.map (evT tmps))).run P w = .ok (l, hh, m) w := by
                 refine z5o ?_ ?_ ?_ hml hhm hlh
                 ·rcases hm with ⟨rfl, rfl⟩ | ⟨y, rfl, _, hy⟩
                  ·exact .inl ⟨rfl, rfl⟩
                  ·refine .inr ⟨by simp [hy, sI m hml], ?_⟩
                   cases hi with
                   | none => cases hmx
                   | some _ => simp
                 ·rcases hhh with ⟨rfl, rfl⟩ | ⟨y, rfl, _, hy⟩
                  ·exact .inl ⟨rfl, rfl⟩
                  ·exact .inr (by simp [hy, sI hh (by omega)])
                 ·rcases hlo with ⟨rfl, rfl⟩ | ⟨y, rfl, _, hy⟩
                  ·exact .inl ⟨rfl, rfl⟩
                  ·exact .inr (by simp [hy, sI l (by omega)])
                have hls2 : l * j.size ≤ len * j.size := Nat.mul_le_mul_right _ (by omega)
                refine .pure (x := .slice (some (if m = l then ⟨rb, d + off, none⟩ else (⟨rb, d + off, none⟩ : Addr).add (l * j.size))) (hh - l) (m - l)) c ?_ ?_
                ·refine .slice b j.size (off + l * j.size) (hh - l) (m - l + 1) rb d sz (m - l) _ hb h256 (by omega) (by omega) (by omega) (by omega) (by omega) (.inr rfl) ?_
                 by_cases hml2 : m = l
                 ·exact .inl (by omega)
                 ·right
                  rw [if_neg hml2, addr_add, Nat.add_assoc]
                  refine ⟨rfl, ?_⟩
                  have : l * j.size + (m - l) * j.size ≤ len * j.size := by
                   rw [← Nat.add_mul]; exact Nat.mul_le_mul_right _ (by omega)
                  have q3' : nb ≤ sz := q3
                  omega
                ·simp [Instr.sliceAt, run_underlying hu, Instr.sureAddr, b1, z0L hj]
               ·cases hb3
              ·cases hb3
             ·cases hb3
            ·cases h
           ·cases hc
          ·cases hc
         ·cases hc
        ·cases hc
       ·cases h
      ·cases h
   ·cases h
  ·cases h
 ·cases h
end
end Go.Eng
namespace Go.Eng
open Go Go.RowKit
variable [E : Env] [Pd : Pad]
theorem zda (b : Nat) : tagOf (mapW b) = 7 := zW _
theorem z3d (b : Nat) : payOf (mapW b) = 17 + 4 * b := z05 7 _ (by omega)
theorem zcc (b : Nat) : isMapW (mapW b) = true ∧ mapBlk (mapW b) = b := by
 have h1 : xKind (17 + 4 * b) = 1 := by
  unfold xKind
  rw [zJ, if_neg (by omega)]
  show (17 + 4 * b) % 4 = 1; omega
 refine ⟨?_, ?_⟩
 ·unfold isMapW; rw [zda, z3d, h1]; rfl
 ·unfold mapBlk; rw [z3d]; show (17 + 4 * b - 16) / 4 = b; omega
theorem z1r {p : Nat} (h : 16 ≤ p) : xKind p = p % 4 := by
 unfold xKind
 rw [zJ, if_neg (by omega)]; rfl
section
variable {base : Nat} {H H' : Trie} {n n' nt T v : Nat} {ρ : Rho} {L : Look} {w : World} {P : Program} {R R' : Value → World → Prop}
theorem VR.z4N {x : Nat} {u : Value} (h : VR ρ L x u) (hx : x = 39) : u = .map none := by
 have h2 : tagOf x = 7 := by rw [hx]; rfl
 cases h with
 | mapNil => rfl
 | int p hp => rw [z1i] at h2; cases h2
 | bool b => rw [z15] at h2; cases h2
 | ptr => rw [z0P] at h2; cases h2
 | slice => rw [z1e] at h2; cases h2
 | agg => rw [z0h] at h2; cases h2
 | tup => rw [z0h] at h2; cases h2
 | clo => rw [zS] at h2; cases h2
 | iface => rw [zS] at h2; cases h2
 | chan => rw [zS] at h2; cases h2
 | fn => rw [z0U] at h2; cases h2
 | yld => rw [z0D] at h2; cases h2
 | var => rw [z1t] at h2; cases h2
 | opq => rw [z1u] at h2; cases h2
 | btw => rw [z1v] at h2; cases h2
 | u64 => rw [z0V] at h2; cases h2
 | map b => have := congrArg payOf hx; rw [z3d] at this; have h3 : payOf 39 = 2 := rfl; omega
 | ostr j lo hi =>
  have := congrArg payOf hx
  unfold ostrW at this
  rw [z05 7 _ (by omega)] at this
  have h3 : payOf 39 = 2 := rfl
  have h4 : ∀ k, Nat.add 18 (Nat.mul 4 k) = 18 + 4 * k := fun _ => rfl
  rw [h4] at this
  omega
 | str s =>
  have := congrArg payOf hx
  unfold strW at this
  rw [z05 7 _ (by omega)] at this
  have h3 : payOf 39 = 2 := rfl
  have h4 : Nat.add 19 (Nat.mul 4 (bytesW s.data.toList)) = 19 + 4 * bytesW s.data.toList := rfl
  omega
 | poly id =>
  have := congrArg payOf hx
  unfold polyW at this
  rw [z05 7 _ (by omega)] at this
  have h3 : payOf 39 = 2 := rfl
  have h4 : Nat.add 16 (Nat.mul 4 id) = 16 + 4 * id := rfl
  omega
 | _ => cases hx
theorem VR.z5W {x : Nat} {u : Value} (h : VR ρ L x u) (hx : isMapW x = true) : ∃ rb d sz, ρ (mapBlk x) = some (rb, d, sz) ∧ u = .map (some rb) := by
 unfold isMapW at hx
 rw [z8] at hx
 split at hx
 ·rename_i h2
  have hk := Nat.eq_of_beq_eq_true hx
  cases h with
  | map b rb d sz hb => rw [(zcc b).2]; exact ⟨rb, d, sz, hb, rfl⟩
  | int p hp => rw [z1i] at h2; cases h2
  | bool b => rw [z15] at h2; cases h2
  | ptr => rw [z0P] at h2; cases h2
  | slice => rw [z1e] at h2; cases h2
  | agg => rw [z0h] at h2; cases h2
  | tup => rw [z0h] at h2; cases h2
  | clo => rw [zS] at h2; cases h2
  | iface => rw [zS] at h2; cases h2
  | chan => rw [zS] at h2; cases h2
  | fn => rw [z0U] at h2; cases h2
  | yld => rw [z0D] at h2; cases h2
  | var => rw [z1t] at h2; cases h2
  | opq => rw [z1u] at h2; cases h2
  | btw => rw [z1v] at h2; cases h2
  | u64 => rw [z0V] at h2; cases h2
  | ostr j lo hi =>
   unfold ostrW at hk
   rw [z05 7 _ (by omega)] at hk
   have h4 : ∀ k, Nat.add 18 (Nat.mul 4 k) = 18 + 4 * k := fun _ => rfl
   rw [h4, z1r (by omega)] at hk; omega
  | str s =>
   unfold strW at hk
   rw [z05 7 _ (by omega)] at hk
   have h4 : Nat.add 19 (Nat.mul 4 (bytesW s.data.toList)) = 19 + 4 * bytesW s.data.toList := rfl
   rw [h4, z1r (by omega)] at hk; omega
  | poly id =>
   unfold polyW at hk
   rw [z05 7 _ (by omega)] at hk
   have h4 : Nat.add 16 (Nat.mul 4 id) = 16 + 4 * id := rfl
   rw [h4, z1r (by omega)] at hk; omega
  | _ => cases hk
 ·cases hx
theorem z2F {t : TypeId} (hk : keyT P t = true) {m c : Nat} {vs : Array Value} (hm : m = P.cellsOf t) (h : CellsR ρ L m c vs) (hi : allInt m c = true) (em : Bool) (w : World) :
  (Instr.checkKey em 10000 t (.agg vs)).run P w = .ok () w := by
 obtain ⟨k1, k2, k3, hty, hd⟩ := z5w hk
 obtain ⟨a1, a2⟩ := intCells h hi
 obtain ⟨l, hl⟩ := z3Z 8 t k2 (P.types.size + 1) vs.toList (by omega) (by rw [Array.length_toList, h.1, hm]) a1
 have fm : (Value.agg vs).formed P t = true := by
  unfold Value.formed
  rcases z1L k3 with ⟨fs, hu⟩ | ⟨q, e, hu⟩ <;> simp [hu, h.1, hm]
 have := run_checkKey_deep em (10000 - (P.types.size + 1)) (P.types.size + 1) t k1 w (P.types.size + 1) (.agg vs) l fm hl
 rw [show 10000 - (P.types.size + 1) + (P.types.size + 1) = 10000 by omega] at this
 exact this
theorem z5x {kt : TypeId} {x : Nat} {u : Value} {k : Nat → OR} {r : OR} (c : Ctx base H n ρ L w) (hx : VR ρ L x u) (h : keyE P kt H x k = r) (hr : ∀ q, r ≠ .bad q) :
  ∃ kc vs, u = .agg vs ∧ CellsR ρ L (P.cellsOf kt) kc vs ∧ allInt (P.cellsOf kt) kc = true ∧ k kc = r := by
 unfold keyE at h
 rw [z8] at h
 split at h
 ·rename_i h6
  split at h
  ·rename_i m ch hget
   rw [z8] at h
   split at h
   ·rename_i hm
    rw [zf] at h
    split at h
    ·rename_i hi
     obtain ⟨vs, rfl, hcr⟩ := hx.z2L h6 (c.agree.2 _ _ hget)
     subst hm
     exact ⟨ch, vs, rfl, hcr, hi, h⟩
    ·exact absurd h.symm (hr _)
   ·exact absurd h.symm (hr _)
  ·exact absurd h.symm (hr _)
 ·exact absurd h.symm (hr _)
theorem z3I {t : TypeId} {k : TypeId → TypeId → OR} {r : OR} (h : tmap P t k = r) (hr : ∀ q, r ≠ .bad q) : ∃ kt et, P.underlying t = some (.map kt et) ∧ keyT P kt = true ∧ k kt et = r := by
 unfold tmap at h
 split at h
 ·rename_i kt et hu
  rw [zf] at h
  split at h
  ·exact ⟨kt, et, hu, by assumption, h⟩
  ·exact absurd h.symm (hr _)
 ·exact absurd h.symm (hr _)
def EntR (ρ : Rho) (L : Look) (m : Nat) (es : List (Nat × Nat)) (ents : List MapEntry) : Prop :=
 ents.length = es.length ∧ ∀ (i : Nat) (kv : Nat × Nat), es[i]? = some kv → ∃ e : MapEntry, ents[i]? = some e ∧ KR ρ L 1 m kv.1 e.key ∧ VR ρ L kv.2 e.val ∧ storable kv.2 = true
theorem z7O {kt : TypeId} (hk : keyT P kt = true) {kc : Nat} {vs : Array Value} (hc : CellsR ρ L (P.cellsOf kt) kc vs) (hi : allInt (P.cellsOf kt) kc = true) (w : World) :
  ∀ (es : List (Nat × Nat)) (ents : List MapEntry) (i : Nat), EntR ρ L (P.cellsOf kt) es ents →
  ∃ r, (Instr.findAsking kt (.agg vs) ents i).run P w = .ok r w ∧
   (match findM es kc with
    | .some v => ∃ j e, r = some (i + j, e.val) ∧ es[j]? = some (kc, v) ∧ ents[j]? = some e ∧ VR ρ L v e.val ∧ ∀ u, putM es kc u = es.set j (kc, u)
    | .none => r = none ∧ ∀ u, putM es kc u = es ++ [(kc, u)])
 | [], ents, i, h => by
  have : ents = [] := List.eq_nil_of_length_eq_zero (by rw [h.1]; rfl)
  subst this
  exact ⟨none, by simp [Instr.findAsking], rfl, fun u => rfl⟩
 | kv :: es, [], i, h => by have := h.1; simp at this
 | kv :: es, e :: ents, i, h => by
  obtain ⟨e0, he0, hkr, hv, hst⟩ := h.2 0 kv rfl
  simp only [List.getElem?_cons_zero, Option.some.injEq] at he0
  subst he0
  rcases hkr with ⟨hz, _⟩ | ⟨_, hi2, vs2, hkey, hc2⟩
  ·cases hz
  have heq := z3v (P := P) hk rfl hc hc2 hi hi2 w
  rw [← hkey] at heq
  have e1 : findM (kv :: es) kc = sel (Nat.beq kv.1 kc) (.some kv.2) (findM es kc) := rfl
  have e2 : ∀ u, putM (kv :: es) kc u = sel (Nat.beq kv.1 kc) ((kc, u) :: es) (kv :: putM es kc u) := fun u => rfl
  have hsym : Nat.beq kc kv.1 = Nat.beq kv.1 kc := by rw [nbeq, nbeq]; congr 1; exact propext eq_comm
  rw [hsym] at heq
  by_cases hh : kv.1 = kc
  ·have hb : Nat.beq kv.1 kc = true := by rw [hh]; simp
   rw [hb] at heq
   refine ⟨some (i, e.val), by simp [Instr.findAsking, heq], ?_⟩
   rw [e1, hb, z0b]
   simp only
   refine ⟨0, e, rfl, ?_, rfl, hv, fun u => by rw [e2, hb]; rfl⟩
   obtain ⟨a, b⟩ := kv
   simp only at hh
   subst hh; rfl
  ·have hb : Nat.beq kv.1 kc = false := by rw [nbeq]; simp [hh]
   rw [hb] at heq
   have htail : EntR ρ L (P.cellsOf kt) es ents := ⟨by have := h.1; simpa using this, fun j kv' hj => by
    obtain ⟨e', a, b⟩ := h.2 (j + 1) kv' (by simpa using hj)
    exact ⟨e', by simpa using a, b⟩⟩
   obtain ⟨r, hr, hm⟩ := z7O hk hc hi w es ents (i + 1) htail
   refine ⟨r, by simp [Instr.findAsking, heq, hr], ?_⟩
   rw [e1, hb, z0f]
   cases hf : findM es kc with
   | none =>
    rw [hf] at hm
    exact ⟨hm.1, fun u => by rw [e2, hb, z0f, hm.2 u]; rfl⟩
   | some v =>
    rw [hf] at hm
    obtain ⟨j, e', h1, h2, h3, h4, h5⟩ := hm
    exact ⟨j + 1, e', by rw [h1]; congr 2; omega, by simpa using h2, by simpa using h3, h4, fun u => by rw [e2, hb, z0f, h5 u]; rfl⟩
theorem z9C {kt : TypeId} (hk : keyT P kt = true) : (match P.underlying kt with | some (.array _ _) | some (.struct _) => true | _ => false) = true := by
 obtain ⟨_, _, k3, _, _⟩ := z5w hk
 rcases z1L k3 with ⟨fs, hu⟩ | ⟨q, e, hu⟩ <;> rw [hu]
theorem z5X (c : Ctx base H n ρ L w) {x ag m : Nat} {es : List (Nat × Nat)} {rb d sz : Nat} (hb : ρ (mapBlk x) = some (rb, d, sz)) (hget : tget H (mapBlk x) = some (.mp ag m es)) (h3 : ag ≠ 3) :
  L (mapBlk x) = some (.mp ag m es) ∧ ∃ ents clock, w.heap[rb]? = some (.map ents clock) ∧ ents.size = es.length ∧
   ∀ (i : Nat) (kv : Nat × Nat), es[i]? = some kv → ∃ e : MapEntry, ents[i]? = some e ∧ KR ρ L ag m kv.1 e.key ∧ VR ρ L kv.2 e.val ∧ storable kv.2 = true := by
 have hL := c.agree.2 _ _ hget
 obtain ⟨k, hk, hbr⟩ := c.sim.blk _ _ hb
 rw [hL] at hk; injection hk with hk; subst hk
 have hlive : live L (mapBlk x) := NoRow.live (k := .mp ag m es) trivial hL
 obtain ⟨ents, clock, h1, h2, h4⟩ := hbr hlive
 exact ⟨hL, ents, clock, h1, h2 h3, h4 h3⟩
theorem zb4 (c : Ctx base H n ρ L w) {b ag m : Nat} {es : List (Nat × Nat)} {rb d sz : Nat} (hb : ρ b = some (rb, d, sz)) (hget : tget H b = some (.mp ag m es)) :
  L b = some (.mp ag m es) ∧ ∃ ents clock, w.heap[rb]? = some (.map ents clock) := by
 have hL := c.agree.2 _ _ hget
 obtain ⟨k, hk, hbr⟩ := c.sim.blk _ _ hb
 rw [hL] at hk; injection hk with hk; subst hk
 have hlive : live L b := NoRow.live (k := .mp ag m es) trivial hL
 obtain ⟨ents, clock, h1, h2, h4⟩ := hbr hlive
 exact ⟨hL, ents, clock, h1⟩
theorem run_getObj_map {r : Nat} {ents : Array MapEntry} {clock : Nat} (h : w.heap[r]? = some (.map ents clock)) : (getObj r).run P w = .ok (.map ents clock) w := by
 simp [getObj, Sem.run, h]
theorem run_setObj_map {r : Nat} {ents : Array MapEntry} {clock : Nat} {o : Obj} (h : w.heap[r]? = some (.map ents clock)) : (setObj r o).run P w = .ok () { w with heap := w.heap.setIfInBounds r o } := by
 simp [setObj, Sem.run, h]
theorem z5b {q : Nat} {b ok : Bool} {x : Value} (c : Ctx base H n ρ L w) (hx : VR ρ L q x) (hs : storable q = true) (h : lookFin q b ok H n = .ok v H' n') (hR : R (if ok then .tuple #[x, .bool b] else x) w) :
  CalmD ρ L H n w v H' n' R := by
 unfold lookFin at h
 cases ok with
 | true =>
  rw [z0b] at h
  obtain ⟨h1, h2, h3, h4⟩ := z2R h
  have hq := ((z0g _).1 hs).2.2.2
  have hsl : allSlot [q, wB b] = true := z3c _ fun y hy => by
   simp only [List.mem_cons, List.not_mem_nil, or_false] at hy
   rcases hy with rfl | rfl
   ·exact hq
   ·cases b <;> decide
  refine ⟨.tuple #[x, .bool b], .inr ⟨.box 1 2 (listW [q, wB b]), trivial, h3, h4, h1, h2, fun ρ' L' id e hL => ?_⟩, by simpa using hR⟩
  refine .tup id _ _ _ hL rfl fun i hi => ?_
  rw [z0X _ hsl]
  have : i = 0 ∨ i = 1 := by simp at hi; omega
  rcases this with rfl | rfl
  ·exact hx.mono0 e
  ·exact .bool b
 | false =>
  rw [z0f] at h
  obtain ⟨h1, rfl, rfl, rfl⟩ := z0N h
  exact .pure c hx (by simpa using hR)
theorem z8u (c : Ctx base H n ρ L w) {t : TypeId} {x y : Nat} {u uk : Value} {ok : Bool} (hx : VR ρ L x u) (hy : VR ρ L y uk) (h : lookupE P t x y ok H n = .ok v H' n') :
  CalmD ρ L H n w v H' n' (fun z w' => (Instr.lookup t u uk ok).run P w' = .ok z w') := by
 unfold lookupE at h
 obtain ⟨kt, et, hu, hk, h⟩ := z3I h (by simp)
 obtain ⟨kc, vs, rfl, hcr, hai, h⟩ := z5x c hy h (by simp)
 have hchk : ∀ em, (Instr.checkKey em 10000 kt (.agg vs)).run P w = .ok () w := fun em => z2F hk rfl hcr hai em w
 have zero : lookZero P et ok H n = .ok v H' n' → (∀ z, (zeroValue et).run P w = .ok z w → (Instr.lookup t u (.agg vs) ok).run P w = .ok (if ok then .tuple #[z, .bool false] else z) w) →
   CalmD ρ L H n w v H' n' (fun z w' => (Instr.lookup t u (.agg vs) ok).run P w' = .ok z w') := by
  intro h hm
  unfold lookZero at h
  simp only at h
  rw [zf] at h
  split at h
  ·rename_i hs
   obtain ⟨i, z, hi, hz, hzx⟩ := z13 ρ L hs
   exact z5b c hzx hs h (hm z (z1K hi hz))
  ·cases h
 rw [z8] at h
 split at h
 ·rename_i hn
  obtain rfl := hx.z4N hn
  refine zero h fun z hz => ?_
  simp only [Instr.lookup, Sem.run_bind, run_underlying hu, Result.andThen_ok, Sem.run_pure, hchk]
  rw [run_findKey_eq w (z9C hk)]
  simp only [Instr.findAsking, Sem.run_pure, Result.andThen_ok, Sem.run_bind, hz]
 ·rw [zf] at h
  split at h
  ·rename_i hmw
   obtain ⟨rb, d, sz, hb, rfl⟩ := hx.z5W hmw
   split at h
   ·rename_i m es hget
    rw [z8] at h
    split at h
    ·rename_i hm
     obtain ⟨hL, ents, clock, h1, h2, h3⟩ := z5X c hb hget (by decide)
     rw [hm] at h3
     have hent : EntR ρ L (P.cellsOf kt) es ents.toList := ⟨by simpa using h2, fun i kv hi => by
      obtain ⟨e, a, b⟩ := h3 i kv hi
      exact ⟨e, by simpa using a, b⟩⟩
     obtain ⟨r, hr, hmat⟩ := z7O hk hcr hai w es ents.toList 0 hent
     have hfind : (Instr.findKey kt (.agg vs) ents.toList).run P w = .ok r w := by rw [run_findKey_eq w (z9C hk)]; exact hr
     have hmodelS : ∀ a q, r = some (a, q) → (Instr.lookup t (.map (some rb)) (.agg vs) ok).run P w = .ok (if ok then .tuple #[q, .bool true] else q) w := by
      intro a q hrq
      rw [hrq] at hfind
      simp only [Instr.lookup, Sem.run_bind, run_underlying hu, Result.andThen_ok, Sem.run_pure, hchk, run_getObj_map h1, hfind]
     have hmodelN : ∀ z, r = none → (zeroValue et).run P w = .ok z w → (Instr.lookup t (.map (some rb)) (.agg vs) ok).run P w = .ok (if ok then .tuple #[z, .bool false] else z) w := by
      intro z hrq hz
      rw [hrq] at hfind
      simp only [Instr.lookup, Sem.run_bind, run_underlying hu, Result.andThen_ok, Sem.run_pure, hchk, run_getObj_map h1, hfind, hz]
     split at h
     ·rename_i q hf
      rw [hf] at hmat
      obtain ⟨j, e, rfl, hj, hje, hv, _⟩ := hmat
      obtain ⟨e', a, _, _, hst⟩ := hent.2 j _ hj
      exact z5b c hv hst h (hmodelS _ _ rfl)
     ·rename_i hf
      rw [hf] at hmat
      obtain ⟨rfl, _⟩ := hmat
      exact zero h fun z hz => hmodelN z rfl hz
    ·cases h
   ·cases h
  ·cases h
theorem Ext.swapM {b : Nat} {ag m ag' m' : Nat} {es es' : List (Nat × Nat)} (hL : L b = some (.mp ag m es)) : Ext ρ L ρ (upd L b (.mp ag' m' es')) := by
 have ne : ∀ j (k : Blk), L j = some k → (∀ a b c, k ≠ .mp a b c) → j ≠ b := fun j k hj hk hjb => by
  subst hjb; rw [hL] at hj; injection hj with hj; exact hk _ _ _ hj.symm
 refine ⟨⟨fun _ _ h => h, fun j kd q c hj => ?_, fun j p q s d lo hi hj => ?_, fun j hj => ?_⟩, fun j hj => ?_⟩
 ·rw [upd_ne _ _ (ne j _ hj (by intros; simp))]; exact hj
 ·rw [upd_ne _ _ (ne j _ hj (by intros; simp))]; exact hj
 ·rcases hj with hj | hj
  ·left; rw [upd_ne _ _ (ne j _ hj (by intros; simp))]; exact hj
  ·right; rw [upd_ne _ _ (ne j _ hj (by intros; simp))]; exact hj
 ·rw [upd_ne _ _ (ne j _ hj (by intros; simp))]; exact hj
theorem z7P (c : Ctx base H n ρ L w) {b ag ag' m : Nat} {es es' : List (Nat × Nat)} {rb d sz : Nat} (hb : ρ b = some (rb, d, sz)) (hget : tget H b = some (.mp ag m es)) {ents ents' : Array MapEntry} {clock clock' : Nat}
  (hh : w.heap[rb]? = some (.map ents clock)) (hsz : ents'.size = es'.length)
  (hent : ∀ (i : Nat) (kv : Nat × Nat), es'[i]? = some kv → ∃ e : MapEntry, ents'[i]? = some e ∧ KR ρ L ag' m kv.1 e.key ∧ VR ρ L kv.2 e.val ∧ storable kv.2 = true) :
  ∃ L', Ctx base (hset H b (.mp ag' m es')) n ρ L' { w with heap := w.heap.setIfInBounds rb (.map ents' clock') } ∧ Ext ρ L ρ L' ∧ Below base w { w with heap := w.heap.setIfInBounds rb (.map ents' clock') } ∧ Loc H n ρ L ρ L' := by
 have hL := c.agree.2 _ _ hget
 have hlt : b < 16384 := c.agree.lt hget
 have e : Ext ρ L ρ (upd L b (.mp ag' m es')) := Ext.swapM hL
 have hbase : base ≤ rb := c.sim.rw b _ hb (by rw [NoRow.grp (k := .mp ag m es) trivial hL]; omega)
 have hrb : rb < w.heap.size := c.sim.bnd b _ hb
 have s1 := c.sim.swap (w' := { w with heap := w.heap.setIfInBounds rb (.map ents' clock') }) hb hL (k' := .mp ag' m es') trivial trivial e.toExt0
  (fun x hx => by simp only; rw [Array.getElem?_setIfInBounds, if_neg (by simp only at hx; omega)]) (by simp)
  ⟨ents', clock', by simp [hrb], fun _ => hsz, fun _ i kv hi => by
   obtain ⟨en, a1, a2, a3, a4⟩ := hent i kv hi
   exact ⟨en, a1, a2.mono0 e.toExt0, a3.mono e, a4⟩⟩
 refine ⟨_, ⟨s1, c.agree.hset hlt _, fun j hj => ⟨by rw [upd_ne _ _ (by have := c.fresh.lt hb; omega)]; exact (c.fresh j hj).1, (c.fresh j hj).2⟩⟩, e,
  ⟨rfl, rfl, rfl, by simp, fun j hj => by simp only; rw [Array.getElem?_setIfInBounds, if_neg (by omega)]⟩, ⟨fun j hj hjn => ⟨upd_ne _ _ (fun h => by subst h; rw [hb] at hjn; cases hjn), hjn⟩⟩⟩
theorem z6M (c : Ctx base H n ρ L w) {t : TypeId} {r : Option Value} (hr : r = none ∨ ∃ k z, r = some (.int k z)) (h : makeMapE P t H n = .ok v H' n') :
  After base H n ρ L w v H' n' (fun x w' => (Instr.makeMap t r).run P w = .ok x w') := by
 unfold makeMapE at h
 obtain ⟨kt, et, hu, hk, h⟩ := z3I h (by simp)
 rw [zJ] at h
 split at h
 ·rename_i hn
  have hn' : n < 16384 := hn
  injection h with h1 h2 h3
  subst h1; subst h2; subst h3
  have e : Ext ρ L (updR ρ n (w.heap.size, 0, 0)) (upd L n (.mp 1 (P.cellsOf kt) [])) := .fresh c.fresh _ _
  have hs := c.sim.fresh (w' := w.alloc (.map #[] 0)) c.fresh (o := .map #[] 0) rfl (k := .mp 1 (P.cellsOf kt) []) trivial (sz := 0)
   ⟨#[], 0, by show (w.heap.push _)[w.heap.size]? = _; simp, fun _ => rfl, fun _ i kv hi => by cases hi⟩
  refine ⟨_, _, w.alloc (.map #[] 0), .map (some w.heap.size), ⟨hs, c.agree.hset hn' _, c.fresh.upd _ _⟩, e, ?_, .fresh _ _, Nat.le_succ _, .map n _ _ _ (zU _ _ _), ?_⟩
  ·have := c.sim.bs
   refine ⟨rfl, rfl, rfl, by simp, fun j hj => ?_⟩
   show (w.heap.push _)[j]? = _
   rw [Array.getElem?_push, if_neg (by omega)]
  ·rcases hr with rfl | ⟨k, z, rfl⟩
   ·simp [Instr.makeMap]
   ·simp [Instr.makeMap, run_underlying hu, asInt, asIntOf]
 ·cases h
theorem z8v (k : Nat) (a : Int) : Instr.sameBits (k + 1) (.int .i64 a) (.int .i64 a) = true := by simp [Instr.sameBits]
theorem z6N {vs : Array Value} (h : ∀ v ∈ vs.toList, IntCell v) (k : Nat) : Instr.sameBits (k + 2) (.agg vs) (.agg vs) = true := by
 have : ((vs.toList.zip vs.toList).all fun (p : Value × Value) => Instr.sameBits (k + 1) p.1 p.2) = true := by
  rw [List.all_eq_true]
  rintro ⟨x, y⟩ hxy
  have hz : ∀ (l : List Value) (p : Value × Value), p ∈ l.zip l → p.1 ∈ l ∧ p.1 = p.2 := by
   intro l
   induction l with
   | nil => intro p hp; cases hp
   | cons a l ih =>
    intro p hp
    rw [List.zip_cons_cons] at hp
    rcases List.mem_cons.1 hp with rfl | hp
    ·exact ⟨List.mem_cons_self, rfl⟩
    ·obtain ⟨h1, h2⟩ := ih p hp; exact ⟨List.mem_cons_of_mem _ h1, h2⟩
  obtain ⟨h1, h2⟩ := hz _ _ hxy
  simp only at h1 h2 ⊢
  subst h2
  obtain ⟨z, rfl, _⟩ := h x h1
  exact z8v k z
 simp only [Instr.sameBits, beq_self_eq_true, Bool.true_and]
 exact this
theorem z8w (c : Ctx base H n ρ L w) {t : TypeId} {x y z : Nat} {u uk uv : Value} (hx : VR ρ L x u) (hy : VR ρ L y uk) (hz : VR ρ L z uv) (h : mapUpE P t x y z H n = .ok v H' n') :
  After base H n ρ L w v H' n' (fun r W => r = Go.undef ∧ (Instr.mapUpdate t u uk uv).run P w = .ok () W) := by
 unfold mapUpE at h
 obtain ⟨kt, et, hu, hk, h⟩ := z3I h (by simp)
 obtain ⟨kc, vs, rfl, hcr, hai, h⟩ := z5x c hy h (by simp)
 have hchk : ∀ em, (Instr.checkKey em 10000 kt (.agg vs)).run P w = .ok () w := fun em => z2F hk rfl hcr hai em w
 rw [zf] at h
 split at h
 ·rename_i hst
  rw [zf] at h
  split at h
  ·rename_i hmw
   obtain ⟨rb, d, sz, hb, rfl⟩ := hx.z5W hmw
   split at h
   ·rename_i m es hget
    rw [z8] at h
    split at h
    ·rename_i hm
     injection h with h1 h2 h3
     subst h1; subst h2; subst h3
     obtain ⟨hL, ents, clock, q1, q2, q3⟩ := z5X c hb hget (by decide)
     have hent : EntR ρ L (P.cellsOf kt) es ents.toList := ⟨by simpa using q2, fun i kv hi => by
      obtain ⟨e, a, b⟩ := q3 i kv hi
      rw [hm] at b
      exact ⟨e, by simpa using a, b⟩⟩
     obtain ⟨r, hr, hmat⟩ := z7O hk hcr hai w es ents.toList 0 hent
     have hfind : (Instr.findKey kt (.agg vs) ents.toList).run P w = .ok r w := by rw [run_findKey_eq w (z9C hk)]; exact hr
     cases hf : findM es kc with
     | some q =>
      rw [hf] at hmat
      obtain ⟨j, e, rfl, hj, hje, hv, hput⟩ := hmat
      have hjs : j < ents.size := by
       have := (List.getElem?_eq_some_iff.1 hje).1; simpa using this
      have hej : ents[j]? = some e := by simpa using hje
      obtain ⟨e', a1, a2, _, _⟩ := hent.2 j _ hj
      rw [hje] at a1; injection a1 with a1; subst a1
      rcases a2 with ⟨hzz, _⟩ | ⟨_, hi2, vs2, hkey, hc2⟩
      ·cases hzz
      have hvv : vs2 = vs := by
       obtain ⟨_, b2⟩ := intCells hcr hai
       obtain ⟨_, b2'⟩ := intCells hc2 hi2
       apply Array.ext
       ·rw [hc2.1, hcr.1]
       ·intro i h1 h2
        obtain ⟨p, hp, w1, w2⟩ := b2 i (by rw [← hcr.1]; exact h2)
        obtain ⟨p', hp', w1', w2'⟩ := b2' i (by rw [← hc2.1]; exact h1)
        rw [Array.getElem?_eq_getElem h1] at w2'
        rw [Array.getElem?_eq_getElem h2] at w2
        injection w2 with w2; injection w2' with w2'
        rw [w1] at w1'
        have : p = p' := by
         have := congrArg payOf w1'
         rwa [z8k, z8k] at this
        rw [w2, w2', this]
      subst hvv
      have hsame : Instr.sameBits 10000 (.agg vs2) (.agg vs2) = true := z6N (intCells hcr hai).1 9998
      have hstay : (Instr.keyThatStays (((ents[j]?).map (·.key)).getD (.agg vs2)) (.agg vs2)).run P w = .ok (.agg vs2) w := by
       rw [hej]
       simp only [Option.map_some, Option.getD_some, hkey, Instr.keyThatStays, hsame, if_true, Sem.run_pure]
      obtain ⟨L', hc', he, hbel, hloc⟩ := z7P (ag' := 1) (es' := es.set j (kc, z)) (ents' := ents.modify j fun en => { en with key := .agg vs2, val := uv }) (clock' := clock) c hb hget q1 (by simpa using q2) (fun i kv hi => by
       rw [List.getElem?_set] at hi
       split at hi
       ·rename_i hji
        subst hji
        split at hi
        ·injection hi with hi; subst hi
         refine ⟨{ e with key := .agg vs2, val := uv }, by simp [Array.getElem?_modify, hej], ?_, hz, hst⟩
         rw [hm]; exact .inr ⟨rfl, hai, vs2, rfl, hcr⟩
        ·cases hi
       ·rename_i hji
        obtain ⟨en, b1, b2⟩ := q3 i kv hi
        exact ⟨en, by rw [Array.getElem?_modify, if_neg (by omega)]; exact b1, b2⟩)
      rw [hput z]
      refine ⟨ρ, L', _, Go.undef, hc', he, hbel, hloc, Nat.le_refl _, .undef, rfl, ?_⟩
      simp only [Instr.mapUpdate, Sem.run_bind, run_underlying hu, Result.andThen_ok, run_getObj_map q1, hchk, hfind, Nat.zero_add, hstay]
      exact run_setObj_map q1
     | none =>
      rw [hf] at hmat
      obtain ⟨rfl, hput⟩ := hmat
      have hes : es.length = ents.size := q2.symm
      obtain ⟨L', hc', he, hbel, hloc⟩ := z7P (ag' := 1) (es' := es ++ [(kc, z)]) (ents' := ents.push { key := .agg vs, val := uv, born := clock }) (clock' := clock + 1) c hb hget q1 (by simp [q2]) (fun i kv hi => by
       rw [List.getElem?_append] at hi
       split at hi
       ·rename_i hlt
        obtain ⟨en, b1, b2⟩ := q3 i kv hi
        exact ⟨en, by rw [Array.getElem?_push, if_neg (by omega)]; exact b1, b2⟩
       ·rename_i hge
        have hi0 : i - es.length = 0 := by
         rcases Nat.eq_zero_or_pos (i - es.length) with h0 | h0
         ·exact h0
         ·rw [List.getElem?_eq_none (by simp; omega)] at hi; cases hi
        rw [hi0] at hi
        simp only [List.getElem?_cons_zero, Option.some.injEq] at hi
        subst hi
        have : i = ents.size := by omega
        subst this
        refine ⟨{ key := .agg vs, val := uv, born := clock }, by simp, ?_, hz, hst⟩
        rw [hm]; exact .inr ⟨rfl, hai, vs, rfl, hcr⟩)
      rw [hput z]
      refine ⟨ρ, L', _, Go.undef, hc', he, hbel, hloc, Nat.le_refl _, .undef, rfl, ?_⟩
      simp only [Instr.mapUpdate, Sem.run_bind, run_underlying hu, Result.andThen_ok, run_getObj_map q1, hchk, hfind]
      exact run_setObj_map q1
    ·cases h
   ·cases h
  ·cases h
 ·cases h
theorem z8x (c : Ctx base H n ρ L w) {ts : List TypeId} {ty : TypeId} {x : Nat} {u : Value} (hx : VR ρ L x u) (h : clearE P ts x H n = .ok v H' n') :
  After base H n ρ L w v H' n' (fun r W => (Builtin.clear_ ts.toArray ty #[u]).run P w = .ok r W) := by
 unfold clearE at h
 split at h
 ·rename_i t
  split at h
  ·rename_i kt et hu
   rw [z8] at h
   split at h
   ·rename_i hn
    obtain rfl := hx.z4N hn
    injection h with h1 h2 h3
    subst h1; subst h2; subst h3
    exact .pure c .undef (by simp [Builtin.clear_, run_underlying hu])
   ·rw [zf] at h
    split at h
    ·rename_i hmw
     obtain ⟨rb, d, sz, hb, rfl⟩ := hx.z5W hmw
     split at h
     ·rename_i ag m es hget
      injection h with h1 h2 h3
      subst h1; subst h2; subst h3
      obtain ⟨hL, ents, clock, q1⟩ := zb4 c hb hget
      obtain ⟨L', hc', he, hbel, hloc⟩ := z7P (ag' := sel (Nat.beq ag 3) 1 ag) (es' := []) (ents' := #[]) (clock' := clock) c hb hget q1 rfl (fun i kv hi => by cases hi)
      refine ⟨ρ, L', _, Go.undef, hc', he, hbel, hloc, Nat.le_refl _, .undef, ?_⟩
      simp [Builtin.clear_, run_underlying hu, run_getObj_map q1, run_setObj_map q1]
      rfl
     ·cases h
    ·cases h
  ·cases h
 ·cases h
end
end Go.Eng
