/- One operation: what the model does is what the evaluator says. -/
import Derived.Test.YthcdiaahpodkoabEngF
import Derived.Laws.AppendOwn
import Derived.Laws.MakeOwn
namespace Go.Eng
set_option linter.unusedSectionVars false
set_option linter.unusedSimpArgs false
set_option linter.unusedVariables false
open Go Go.RowKit
variable [E : Env]

/-! ### rows of numbers -/
theorem chunk_eq (c o m : Nat) : chunk c o m = (c >>> (128 * o)) % 2 ^ (128 * m) := rfl
theorem cat_eq (a la b : Nat) : cat a la b = a ||| (b <<< (128 * la)) := rfl
theorem getW_chunk (c o m j : Nat) (h : j < m) : getW (chunk c o m) j = getW c (o + j) := by
  apply Nat.eq_of_testBit_eq
  intro n
  rw [getW_testBit, getW_testBit, chunk_eq, Nat.testBit_mod_two_pow, Nat.testBit_shiftRight]
  by_cases hn : n < 128
  · have : 128 * j + n < 128 * m := by omega
    simp [hn, this, show 128 * o + (128 * j + n) = 128 * (o + j) + n from by omega]
  · simp [hn]
theorem chunk_lt (c o m : Nat) : chunk c o m < 2 ^ (128 * m) := by rw [chunk_eq]; exact Nat.mod_lt _ (Nat.pow_pos (by omega))
theorem getW_cat_lt (a la b j : Nat) (h : j < la) : getW (cat a la b) j = getW a j := by
  apply Nat.eq_of_testBit_eq
  intro n
  rw [getW_testBit, getW_testBit, cat_eq, Nat.testBit_or, Nat.testBit_shiftLeft]
  by_cases hn : n < 128
  · have : ¬ (128 * la ≤ 128 * j + n) := by omega
    simp [hn, this]
  · simp [hn]
theorem getW_cat_ge (a la b j : Nat) (ha : a < 2 ^ (128 * la)) : getW (cat a la b) (la + j) = getW b j := by
  apply Nat.eq_of_testBit_eq
  intro n
  rw [getW_testBit, getW_testBit, cat_eq, Nat.testBit_or, Nat.testBit_shiftLeft]
  by_cases hn : n < 128
  · have h1 : 128 * la ≤ 128 * (la + j) + n := by omega
    have h2 : a.testBit (128 * (la + j) + n) = false := Nat.testBit_lt_two_pow (Nat.lt_of_lt_of_le ha (Nat.pow_le_pow_right (by omega) (by omega)))
    have h3 : 128 * (la + j) + n - 128 * la = 128 * j + n := by omega
    rw [h2, h3]
    simp [hn, h1]
  · simp [hn]
theorem cat_lt (a la b lb : Nat) (ha : a < 2 ^ (128 * la)) (hb : b < 2 ^ (128 * lb)) : cat a la b < 2 ^ (128 * (la + lb)) := by
  apply Nat.lt_pow_two_of_testBit
  intro n hn
  rw [cat_eq, Nat.testBit_or, Nat.testBit_shiftLeft]
  have h2 : a.testBit n = false := Nat.testBit_lt_two_pow (Nat.lt_of_lt_of_le ha (Nat.pow_le_pow_right (by omega) (by omega)))
  have h3 : b.testBit (n - 128 * la) = false := Nat.testBit_lt_two_pow (Nat.lt_of_lt_of_le hb (Nat.pow_le_pow_right (by omega) (by omega)))
  rw [h2, h3]; simp
theorem repW_succ (z m : Nat) : repW z (m + 1) = repW z m ||| (z <<< (128 * m)) := rfl
theorem repW_lt (z : Nat) (hz : z < 2 ^ 128) : ∀ m, repW z m < 2 ^ (128 * m)
  | 0 => by show 0 < _; exact Nat.pow_pos (by omega)
  | m + 1 => by
    have := cat_lt (repW z m) m z 1 (repW_lt z hz m) (by simpa using hz)
    exact this
theorem getW_repW (z : Nat) (hz : z < 2 ^ 128) : ∀ m j, j < m → getW (repW z m) j = z
  | 0, j, h => by omega
  | m + 1, j, h => by
    have e : repW z (m + 1) = cat (repW z m) m z := rfl
    rw [e]
    by_cases hj : j < m
    · rw [getW_cat_lt _ _ _ _ hj]; exact getW_repW z hz m j hj
    · have hjm : j = m + 0 := by omega
      rw [hjm, getW_cat_ge _ _ _ _ (repW_lt z hz m), getW_eq]
      simp; exact hz

/-! ### reading -/
structure Ctx (base : Nat) (H : Trie) (n : Nat) (ρ : Rho) (L : Look) (w : World) : Prop where
  sim : Sim base ρ L w
  agree : Agree H L
  fresh : Fresh n ρ L

section
variable {base : Nat} {H : Trie} {n : Nat} {ρ : Rho} {L : Look} {w : World}

theorem cell_of_heap {w : World} {rb i : Nat} {cs : Array Value} {ty : TypeId} {fz : Nat × Nat} (h : w.heap[rb]? = some (.cells cs ty fz)) : w.cell? ⟨rb, i, none⟩ = cs[i]? := by
  simp [World.cell?, h]

theorem rd_sound (c : Ctx base H n ρ L w) {b o rb d sz : Nat} (hb : ρ b = some (rb, d, sz)) (h : tagOf (rd H b o) ≠ 15) :
    ∃ v, w.cell? ⟨rb, d + o, none⟩ = some v ∧ VR ρ L (rd H b o) v := by
  unfold rd at h ⊢
  cases ht : tget H b with
  | none => rw [ht] at h; exact absurd rfl h
  | some k =>
    rw [ht] at h
    cases k with
    | cells nb cb g kb sb mb =>
      simp only at h ⊢
      rw [sel_ltb] at h ⊢
      by_cases h1 : o < nb
      · rw [if_pos h1] at h ⊢
        cases hv : validE H b g kb sb with
        | false => rw [hv] at h; exact absurd rfl h
        | true =>
          rw [sel_true]
          have hL := c.agree.2 _ _ ht
          have hl := validE_iff c.agree hL hv
          obtain ⟨k, hk, hbr⟩ := c.sim.blk b _ hb
          rw [hL] at hk; injection hk with hk; subst hk
          obtain ⟨cs, ty, fz, h2, _, _, _, h3⟩ := hbr hl
          obtain ⟨v, h4, h5, _⟩ := h3 o h1
          exact ⟨v, by rw [cell_of_heap h2]; exact h4, h5⟩
      · rw [if_neg h1] at h; exact absurd rfl h
    | box => exact absurd rfl h
    | loop => exact absurd rfl h
    | defr => exact absurd rfl h
    | gone => exact absurd rfl h
    | opq => exact absurd rfl h
    | mp => exact absurd rfl h
    | poly => exact absurd rfl h

theorem addr_add (rb i j : Nat) : (⟨rb, i, none⟩ : Addr).add j = ⟨rb, i + j, none⟩ := by
  unfold Addr.add; split <;> simp_all

/-- What is read of a row. -/
structure Row (ρ : Rho) (L : Look) (w : World) (a : Addr) (m c : Nat) (vs : List Value) : Prop where
  len : vs.length = m
  cell : ∀ j u, vs[j]? = some u → w.cell? (a.add j) = some u
  word : ∀ j u, vs[j]? = some u → VR ρ L (getW c j) u ∧ storable (getW c j) = true
  lt : c < 2 ^ (128 * m)

theorem row_of {cs : Array Value} {ty : TypeId} {fz : Nat × Nat} {rb d nb cb o m : Nat} (hh : w.heap[rb]? = some (.cells cs ty fz))
    (h3 : ∀ i, i < nb → ∃ v, cs[d + i]? = some v ∧ VR ρ L (getW cb i) v ∧ storable (getW cb i) = true) (h1 : o + m ≤ nb) :
    ∃ vs, Row ρ L w ⟨rb, d + o, none⟩ m (chunk cb o m) vs := by
  refine ⟨(List.range m).map fun i => (cs[d + (o + i)]?).getD Go.undef, by simp, ?_, ?_, chunk_lt _ _ _⟩
  · intro j u hj
    rw [List.getElem?_map] at hj
    by_cases hjm : j < m
    · rw [List.getElem?_range hjm] at hj
      obtain ⟨v, h4, _⟩ := h3 (o + j) (by omega)
      simp only [Option.map_some, h4, Option.getD_some, Option.some.injEq] at hj
      subst hj
      rw [addr_add, cell_of_heap hh, show d + o + j = d + (o + j) from by omega]; exact h4
    · rw [List.getElem?_eq_none (by simp; omega)] at hj; cases hj
  · intro j u hj
    rw [List.getElem?_map] at hj
    by_cases hjm : j < m
    · rw [List.getElem?_range hjm] at hj
      obtain ⟨v, h4, h5⟩ := h3 (o + j) (by omega)
      simp only [Option.map_some, h4, Option.getD_some, Option.some.injEq] at hj
      subst hj
      rw [getW_chunk _ _ _ _ hjm]; exact h5
    · rw [List.getElem?_eq_none (by simp; omega)] at hj; cases hj

theorem rdRange_sound (c : Ctx base H n ρ L w) {b o m ch rb d sz : Nat} (hb : ρ b = some (rb, d, sz)) (h : rdRange H b o m = .some ch) :
    ∃ vs, Row ρ L w ⟨rb, d + o, none⟩ m ch vs := by
  unfold rdRange at h
  cases ht : tget H b with
  | none => rw [ht] at h; cases h
  | some k =>
    rw [ht] at h
    cases k with
    | cells nb cb g kb sb mb =>
      simp only at h
      rw [sel_ble] at h
      by_cases h1 : Nat.add o m ≤ nb
      · rw [if_pos h1] at h
        cases hv : validE H b g kb sb with
        | false => rw [hv] at h; cases h
        | true =>
          rw [hv, sel_true] at h
          injection h with h; subst h
          have hL := c.agree.2 _ _ ht
          have hl := validE_iff c.agree hL hv
          obtain ⟨k, hk, hbr⟩ := c.sim.blk b _ hb
          rw [hL] at hk; injection hk with hk; subst hk
          obtain ⟨cs, ty, fz, h2, _, _, _, h3⟩ := hbr hl
          exact row_of h2 h3 h1
      · rw [if_neg h1] at h; cases h
    | box => cases h
    | loop => cases h
    | defr => cases h
    | gone => cases h
    | opq => cases h
    | mp => cases h
    | poly => cases h
end

/-! ### what comes of an operation -/
def Returns (P : Program) (fr : Frame) (w : World) (x : Value) (w' : World) (c : Frame) (cs : List Frame) : Prop := Steps P (lone fr (c :: cs) w) (lone (c.finish x) cs w')

inductive Does (P : Program) (s : Sem Next) (w : World) (x : Value) (w' : World) (c : Frame) (cs : List Frame) : Prop
  | value (h : s.run P w = .ok (.value x) w')
  | skip (h : s.run P w = .ok .skip w') (hx : x = Go.undef)
  | enter (f : FuncId) (args : Array Value) (w1 : World) (h : s.run P w = .ok (.enter f args) w1) (hr : Returns P (Frame.enter P f args .normal) w1 x w' c cs)
  | round (l : Nat) (f : FuncId) (tmps : Array Value) (assign body : Code) (w1 : World) (h : s.run P w = .ok (.round l f tmps assign body) w1)
      (hr : Returns P (Frame.round l f tmps assign body .normal) w1 x w' c cs)

def After (base : Nat) (H : Trie) (n : Nat) (ρ : Rho) (L : Look) (w : World) (v : Nat) (H' : Trie) (n' : Nat) (R : Value → World → Prop) : Prop :=
  ∃ ρ' L' w' x, Ctx base H' n' ρ' L' w' ∧ Ext ρ L ρ' L' ∧ Below base w w' ∧ Loc H n ρ L ρ' L' ∧ n ≤ n' ∧ VR ρ' L' v x ∧ R x w'

section
variable {base : Nat} {H : Trie} {n : Nat} {ρ : Rho} {L : Look} {w : World} {P : Program}

theorem After.pure {v : Nat} {x : Value} {R : Value → World → Prop} (c : Ctx base H n ρ L w) (hv : VR ρ L v x) (hR : R x w) : After base H n ρ L w v H n R :=
  ⟨ρ, L, w, x, c, .refl _ _, Below.refl _ _, .refl _ _ _ _, Nat.le_refl _, hv, hR⟩

theorem After.mono {v : Nat} {H' : Trie} {n' : Nat} {R R' : Value → World → Prop} (h : After base H n ρ L w v H' n' R) (hR : ∀ x w', R x w' → R' x w') : After base H n ρ L w v H' n' R' :=
  let ⟨ρ', L', w', x, a, b, c, d, e, f, g⟩ := h; ⟨ρ', L', w', x, a, b, c, d, e, f, hR _ _ g⟩

theorem okv_inv {v v' : Nat} {H H' : Trie} {n n' : Nat} (h : okv v H n = .ok v' H' n') : tagOf v ≠ 15 ∧ v' = v ∧ H' = H ∧ n' = n := by
  unfold okv at h
  rw [sel_beq] at h
  split at h
  · cases h
  · injection h with h1 h2 h3; exact ⟨by assumption, h1.symm, h2.symm, h3.symm⟩

/-- A fresh row. -/
theorem fresh_sound (c : Ctx base H n ρ L w) {len ch : Nat} {k : Trie → OR} {r : OR} (h : fresh H n len ch k = r) (hr : ∀ q, r ≠ .bad q) :
    n < 16384 ∧ k (hset H n (.cells len ch (n + 1) n n len)) = r ∧
    ∀ (w' : World) (cs : Array Value) (ty : TypeId), w'.heap = w.heap.push (.cells cs ty (0, 0)) → w'.os = w.os → w'.tape = w.tape → w'.output = w.output →
      len ≤ cs.size → (∀ i, i < len → ∃ v, cs[i]? = some v ∧ VR ρ L (getW ch i) v ∧ storable (getW ch i) = true) →
      Ctx base (hset H n (.cells len ch (n + 1) n n len)) (n + 1) (updR ρ n (w.heap.size, 0, cs.size)) (upd L n (.cells len ch (n + 1) n n len)) w' ∧
      Ext ρ L (updR ρ n (w.heap.size, 0, cs.size)) (upd L n (.cells len ch (n + 1) n n len)) ∧ Below base w w' ∧
      Loc H n ρ L (updR ρ n (w.heap.size, 0, cs.size)) (upd L n (.cells len ch (n + 1) n n len)) := by
  unfold fresh at h
  rw [sel_ltb] at h
  split at h
  · rename_i hn
    refine ⟨hn, h, fun w' cs ty hw h1 h2 h3 hlen hc => ?_⟩
    have e : Ext ρ L (updR ρ n (w.heap.size, 0, cs.size)) (upd L n (.cells len ch (n + 1) n n len)) := .fresh c.fresh _ _
    have hk : OwnK n (.cells len ch (n + 1) n n len) := ⟨rfl, rfl, rfl, Nat.le_refl _⟩
    have hhead : w'.heap[w.heap.size]? = some (.cells cs ty (0, 0)) := by rw [hw]; simp
    have hb : BR (updR ρ n (w.heap.size, 0, cs.size)) (upd L n (.cells len ch (n + 1) n n len)) w' (w.heap.size, 0, cs.size) (.cells len ch (n + 1) n n len) :=
      ⟨cs, ty, (0, 0), hhead, by simp, hlen, fun _ => rfl, fun i hi => by
        obtain ⟨v, a, b, d⟩ := hc i hi
        exact ⟨v, by simpa using a, b.mono e, d⟩⟩
    refine ⟨⟨c.sim.fresh c.fresh hw hk hb, c.agree.hset hn _, c.fresh.upd _ _⟩, e, ?_, .fresh _ _⟩
    refine ⟨h1, h2, h3, by rw [hw]; simp, fun j hj => ?_⟩
    have := c.sim.bs
    rw [hw, Array.getElem?_push, if_neg (by omega)]
  · exact absurd h.symm (hr _)

theorem vr_slice_new {ρ : Rho} {L : Look} {b es n k rb sz c : Nat} (hb : ρ b = some (rb, 0, sz)) (he : es < 256) (hn : n < 1048576) (hk : k < 1048576) (hc : n ≤ c) (hc2 : c < 9223372036854775808) (h1 : k = 0 ∨ k = c + 1) (h2 : c * es ≤ sz) :
    VR ρ L (wS b es 0 n k) (.slice (some ⟨rb, 0, none⟩) n c) :=
  .slice b es 0 n k rb 0 sz c ⟨rb, 0, none⟩ hb he (by omega) hn hk hc hc2 h1 (.inr ⟨by simp, by omega⟩)
theorem vr_ptr_new {ρ : Rho} {L : Look} {b rb sz : Nat} (hb : ρ b = some (rb, 0, sz)) : VR ρ L (wP b 0) (.pointer (some ⟨rb, 0, none⟩)) := .ptr b 0 rb 0 sz hb (by omega)

/-! ### types -/
theorem plain_inv {t : TypeId} (h : plain P t = true) : ∃ i d, P.info? t = some i ∧ i.size = 1 ∧ P.underlying t = some d ∧ (∀ fs, d ≠ .struct fs) ∧ (∀ n e, d ≠ .array n e) := by
  unfold plain at h
  rw [sel_beq] at h
  split at h
  · rename_i h1
    unfold tsz at h1
    cases hi : P.info? t with
    | none => rw [hi] at h1; cases h1
    | some i =>
      rw [hi] at h1
      cases hu : P.underlying t with
      | none => unfold tagg at h; rw [hu] at h; cases h
      | some d =>
        refine ⟨i, d, rfl, h1, rfl, ?_, ?_⟩
        · rintro fs rfl; unfold tagg at h; rw [hu] at h; cases h
        · rintro m e rfl; unfold tagg at h; rw [hu] at h; cases h
  · cases h

theorem run_isAgg_plain {t : TypeId} (h : plain P t = true) : (isAgg t).run P w = .ok false w := by
  obtain ⟨i, d, _, _, hu, h1, h2⟩ := plain_inv h
  unfold isAgg
  simp [run_underlying hu]
theorem run_sizeOf_plain {t : TypeId} (h : plain P t = true) : (sizeOf t).run P w = .ok 1 w := by
  obtain ⟨i, d, hi, hs, _⟩ := plain_inv h
  simp [sizeOf, typeInfo, hi, hs]
theorem telem_inv {t : TypeId} {d r : OR} {k : TypeId → OR} (h : telem P t d k = r) (hd : d = .bad 0) (hr : ∀ q, r ≠ .bad q) : ∃ e, P.underlying t = some (.slice e) ∧ (∃ i, P.info? e = some i) ∧ k e = r := by
  unfold telem at h
  split at h
  · split at h
    · exact ⟨_, by assumption, ⟨_, by assumption⟩, h⟩
    · subst hd; exact absurd h.symm (hr _)
  · subst hd; exact absurd h.symm (hr _)
theorem tzero_sound (ρ : Rho) (L : Look) {t : TypeId} (h : storable (tzero P t) = true) : ∃ i z, P.info? t = some i ∧ i.zero = some z ∧ VR ρ L (tzero P t) z := by
  have hb := ((storable_iff _).1 h).2.2.1
  unfold tzero at hb ⊢
  split at hb
  · rename_i i hi
    split at hb
    · rename_i z hz
      exact ⟨i, z, hi, hz, encC_sound ρ L z hb⟩
    · exact absurd rfl hb
  · exact absurd rfl hb
end
end Go.Eng
