/- What is known of calls: results in new memory. -/
import Derived.Test.YthcdiaahpodkoabEngXa
namespace Go.Eng
set_option linter.unusedSectionVars false
set_option linter.unusedSimpArgs false
set_option linter.unusedVariables false
open Go Go.RowKit

noncomputable section
/-- a result: a word; a new slice of m elements of e cells; a new slice of new slices of ints -/
inductive RS where
  | lit (v : Nat)
  | row (e m c : Nat)
  | rows (l : List (Nat × Nat))

/-- a new row of k cells c, and its group -/
def isRowE (H : Trie) (w e m c : Nat) (k : Nat → Bool) : Bool :=
  sel (sel (Nat.beq (tagOf w) 4) (sel (Nat.beq (sLen (payOf w)) m) (sel (Nat.beq (sEs (payOf w)) e) (sel (Nat.beq (sOff (payOf w)) 0) (sel (Nat.beq m 0) false (sel (Nat.beq (sBlk (payOf w)) 0) false true)) false) false) false) false)
    (match tget H (Nat.pred (sBlk (payOf w))) with
     | some (.cells nb cb g keep since _) => sel (sel (Nat.beq g 0) false (sel (validE H (Nat.pred (sBlk (payOf w))) g keep since) (sel (Nat.ble (Nat.mul m e) nb) (sel (Nat.beq (chunk cb 0 (Nat.mul m e)) c) (allLit (Nat.mul m e) c) false) false) false)) (k g) false
     | _ => false) false
def noneE (l : List Nat) (g : Nat) : Bool := List.rec (motive := fun _ => Bool) true (fun x _ ih => sel (Nat.beq x g) false ih) l
/-- the words of an outer row, one by one; the groups so far -/
def isRowsE (H : Trie) (l : List (Nat × Nat)) : Nat → List Nat → Bool :=
  List.rec (motive := fun _ => Nat → List Nat → Bool) (fun _ _ => true)
    (fun x _ ih c gs => sel (Nat.beq x.1 0)
      (sel (sel (Nat.beq (tagOf (getW c 0)) 4) (sel (Nat.beq (sLen (payOf (getW c 0))) 0) (sel (Nat.beq (sCap (payOf (getW c 0))) 1) (sel (Nat.beq (sBlk (payOf (getW c 0))) 0) false true) false) false) false) (ih (Nat.shiftRight c 128) gs) false)
      (isRowE H (getW c 0) 1 x.1 x.2 fun g => sel (noneE gs g) (ih (Nat.shiftRight c 128) (g :: gs)) false)) l
def isRes (rs : RS) (r : OR) : Bool :=
  match r with
  | .bad _ => false
  | .ok v H _ => RS.rec (motive := fun _ => Bool) (fun u => isWord u (.ok v H 0)) (fun e m c => isRowE H v e m c fun _ => true)
      (fun l => sel (sel (Nat.beq (tagOf v) 4) (sel (Nat.beq (sLen (payOf v)) (lenN l)) (sel (Nat.beq (sEs (payOf v)) 1) (sel (Nat.beq (sOff (payOf v)) 0) (sel (Nat.beq (lenN l) 0) false (sel (Nat.beq (sBlk (payOf v)) 0) false true)) false) false) false) false)
        (match tget H (Nat.pred (sBlk (payOf v))) with
         | some (.cells nb cb g keep since _) => sel (sel (Nat.beq g 0) false (sel (validE H (Nat.pred (sBlk (payOf v))) g keep since) (Nat.ble (lenN l) nb) false)) (isRowsE H l cb [g]) false
         | _ => false) false) rs

/-- the new rows laid, behind one another, and their words -/
def putRows (l : List (Nat × Nat)) : Trie → Nat → List Nat → Lay :=
  List.rec (motive := fun _ => Trie → Nat → List Nat → Lay) (fun H n ws => ⟨H, n, ws⟩)
    (fun x _ ih H n ws => sel (Nat.beq x.1 0) (ih H n (ws ++ [14])) (ih (hset H n (.cells x.1 x.2 (Nat.succ n) n n x.1)) (Nat.succ n) (ws ++ [wS n 1 0 x.1 0]))) l
def putRes (rs : RS) (H : Trie) (n : Nat) : OR :=
  RS.rec (motive := fun _ => OR) (fun v => .ok v H n)
    (fun e m c => sel (sel (ltb n maxBlk) (sel (ltb e 256) (sel (Nat.beq m 0) false (ltb m 1048576)) false) false) (.ok (wS n e 0 m 0) (hset H n (.cells (Nat.mul m e) c (Nat.succ n) n n (Nat.mul m e))) (Nat.succ n)) (.bad 9))
    (fun l => let y := putRows l H n []
      sel (sel (ltb y.n maxBlk) (sel (ltb (lenN l) 1048576) (allE (fun x : Nat × Nat => ltb x.1 1048576) l) false) false) (.ok (wS y.n 1 0 (lenN l) 0) (hset y.H y.n (.cells (lenN l) (listW y.ws) (Nat.succ y.n) y.n y.n (lenN l))) (Nat.succ y.n)) (.bad 9)) rs

abbrev Memo2 := Nat × List Sh × RS
def memo2S (l : List Memo2) : Sums := fun f args H n =>
  List.rec (motive := fun _ => SR) .no (fun e _ ih => sel (sel (Nat.beq e.1 f) (matchL H e.2.1 args) false) (.yes (putRes e.2.2 H n)) ih) l
end

/-! ### what comes back -/
/-- a new row, from block s on -/
def NewRow (s : Nat) (W : World) (rb d cp e m c : Nat) : Prop :=
  s ≤ rb ∧ m ≤ cp ∧ cp < 9223372036854775808 ∧ ∃ cs ty, W.heap[rb]? = some (.cells cs ty (0, 0)) ∧ d + cp * e ≤ cs.size ∧ c < 2 ^ (128 * (m * e)) ∧ ∀ i, i < m * e → litW (getW c i) = true ∧ cs[d + i]? = some (litV (getW c i))
/-- the elements of an outer row: new rows, or slices without room -/
inductive NewRows (s : Nat) (W : World) : List (Nat × Nat) → List Value → List Nat → Prop
  | nil : NewRows s W [] [] []
  | none (c : Nat) (a : Addr) (l : List (Nat × Nat)) (vs : List Value) (bs : List Nat) : NewRows s W l vs bs → NewRows s W ((0, c) :: l) (.slice (some a) 0 0 :: vs) bs
  | row (m c rb d cp : Nat) (l : List (Nat × Nat)) (vs : List Value) (bs : List Nat) : m ≠ 0 → NewRow s W rb d cp 1 m c → rb ∉ bs → NewRows s W l vs bs → NewRows s W ((m, c) :: l) (.slice (some ⟨rb, d, none⟩) m cp :: vs) (rb :: bs)
def HoldsR (s : Nat) (W : World) (rs : RS) (x : Value) : Prop :=
  match rs with
  | .lit v => litW v = true ∧ x = litV v
  | .row e m c => ∃ rb d cp, x = .slice (some ⟨rb, d, none⟩) m cp ∧ NewRow s W rb d cp e m c
  | .rows l => ∃ rb d cp cs ty vs bs, x = .slice (some ⟨rb, d, none⟩) l.length cp ∧ s ≤ rb ∧ l.length ≤ cp ∧ cp < 9223372036854775808 ∧ W.heap[rb]? = some (.cells cs ty (0, 0)) ∧ d + cp ≤ cs.size ∧
      NewRows s W l vs bs ∧ rb ∉ bs ∧ vs.length = l.length ∧ ∀ i, i < l.length → cs[d + i]? = vs[i]?

structure Memo2K (P : Program) (e : Memo2) : Prop where
  known : Known P e.1
  calls : ∀ (w : World) (vs : Array Value), HoldsL w e.2.1 vs.toList → Calls P e.1 vs w fun r w' => ∃ x, r = .returned x ∧ HoldsR w.heap.size w' e.2.2 x ∧ Below w.heap.size w w'

section
variable [E : Env]
section
variable {base n : Nat} {H : Trie} {ρ : Rho} {L : Look} {w : World}
/-- A block that lies in the world already is told of. -/
theorem Ctx.adopt (c : Ctx base H n ρ L w) (hn : n < 16384) {rb d sz len ch : Nat} {cs : Array Value} {ty : TypeId} (hh : w.heap[rb]? = some (.cells cs ty (0, 0))) (hb : base ≤ rb) (hnew : ∀ b r, ρ b = some r → r.1 ≠ rb) (hsz : d + sz ≤ cs.size) (hlen : len ≤ sz)
    (hc : ∀ j, j < len → ∃ v, cs[d + j]? = some v ∧ VR ρ L (getW ch j) v ∧ storable (getW ch j) = true) :
    Ctx base (hset H n (.cells len ch (n + 1) n n len)) (n + 1) (updR ρ n (rb, d, sz)) (upd L n (.cells len ch (n + 1) n n len)) w ∧ Ext ρ L (updR ρ n (rb, d, sz)) (upd L n (.cells len ch (n + 1) n n len)) := by
  have hf := c.fresh
  have hs := c.sim
  have e : Ext ρ L (updR ρ n (rb, d, sz)) (upd L n (.cells len ch (n + 1) n n len)) := .fresh hf _ _
  have hrb : rb < w.heap.size := (Array.getElem?_eq_some_iff.1 hh).1
  have hk : OwnK n (.cells len ch (n + 1) n n len) := ⟨rfl, rfl, rfl, Nat.le_refl _⟩
  have old : ∀ b r, updR ρ n (rb, d, sz) b = some r → b ≠ n → ρ b = some r := fun b r h hne => by rw [updR_ne _ _ hne] at h; exact h
  have gold : ∀ b, b ≠ n → grp (upd L n (.cells len ch (n + 1) n n len)) b = grp L b := fun b hb => grp_upd_ne hb
  have ldne : ∀ b r, ρ b = some r → grp L b = 0 ∨ grp L b - 1 ≠ n := fun b r h => by
    by_cases h0 : grp L b = 0
    · exact .inl h0
    · obtain ⟨⟨q, hq⟩, _⟩ := hs.ld b r h h0
      have := hf.lt hq
      exact .inr (by omega)
  have lold : ∀ b r, ρ b = some r → b ≠ n → (live (upd L n (.cells len ch (n + 1) n n len)) b ↔ live L b) := fun b r h hne => live_upd_ne hne (ldne b r h)
  have iold : ∀ b r, ρ b = some r → grp L b ≠ 0 → info (upd L n (.cells len ch (n + 1) n n len)) (grp L b - 1) = info L (grp L b - 1) := fun b r h h0 => info_upd_ne ((ldne b r h).resolve_left h0)
  have gn : grp (upd L n (.cells len ch (n + 1) n n len)) n = n + 1 := hk.grp L
  refine ⟨⟨⟨?_, ?_, ?_, ?_, ?_, ?_, ?_, hs.bs, ?_, ?_⟩, c.agree.hset hn _, hf.upd _ _⟩, e⟩
  · intro b r h
    by_cases hne : b = n
    · subst hne
      rw [updR_same] at h; injection h with h; subst h
      refine ⟨_, upd_same _ _ _, fun _ => ⟨cs, ty, (0, 0), hh, hsz, hlen, fun _ => rfl, fun i hi => ?_⟩⟩
      obtain ⟨v, a, b, d⟩ := hc i hi
      exact ⟨v, a, b.mono e, d⟩
    · have h' := old b r h hne
      obtain ⟨kk, h1, h2⟩ := hs.blk b r h'
      exact ⟨kk, by rw [upd_ne _ _ hne]; exact h1, fun hl => (h2 ((lold b r h' hne).1 hl)).mono e rfl⟩
  · intro b b' r r' h h' hl hl' hg hg' hgg
    by_cases hne : b = n
    · by_cases hne' : b' = n
      · subst hne; subst hne'; exact absurd rfl hgg
      · subst hne
        rw [updR_same] at h; injection h with h; subst h
        exact (hnew b' r' (old b' r' h' hne')).symm
    · by_cases hne' : b' = n
      · subst hne'
        rw [updR_same] at h'; injection h' with h'; subst h'
        exact hnew b r (old b r h hne)
      · have k1 := old b r h hne
        have k2 := old b' r' h' hne'
        rw [gold b hne] at hg hgg
        rw [gold b' hne'] at hg' hgg
        exact hs.sep b b' r r' k1 k2 ((lold b r k1 hne).1 hl) ((lold b' r' k2 hne').1 hl') hg hg' hgg
  · intro b b' r r' h h' hl hl' hg hgg hrr
    by_cases hne : b = n
    · by_cases hne' : b' = n
      · subst hne; subst hne'; rw [h] at h'; injection h' with h'; rw [h']
      · subst hne
        rw [updR_same] at h; injection h with h; subst h
        exact absurd hrr.symm (hnew b' r' (old b' r' h' hne'))
    · by_cases hne' : b' = n
      · subst hne'
        rw [updR_same] at h'; injection h' with h'; subst h'
        exact absurd hrr (hnew b r (old b r h hne))
      · have k1 := old b r h hne
        have k2 := old b' r' h' hne'
        rw [gold b hne] at hg hgg
        rw [gold b' hne'] at hgg
        exact hs.same b b' r r' k1 k2 ((lold b r k1 hne).1 hl) ((lold b' r' k2 hne').1 hl') hg hgg hrr
  · intro b r m c' g kk s mm h hl hL hg
    by_cases hne : b = n
    · subst hne
      rw [upd_same] at hL; injection hL with hL; injection hL with q1 q2 q3 q4 q5 q6
      subst q3
      simp only [Nat.add_sub_cancel, info, upd_same]
      omega
    · have h' := old b r h hne
      rw [upd_ne _ _ hne] at hL
      have hg0 : grp L b = g := grp_of hL
      have := iold b r h' (by rw [hg0]; exact hg)
      rw [hg0] at this
      rw [this]
      exact hs.mx b r m c' g kk s mm h' ((lold b r h' hne).1 hl) hL hg
  · intro b r h hg
    by_cases hne : b = n
    · subst hne; rw [updR_same] at h; injection h with h; subst h; exact hb
    · rw [gold b hne] at hg; exact hs.rw b r (old b r h hne) hg
  · intro b r h hg
    by_cases hne : b = n
    · subst hne; rw [gn] at hg; omega
    · rw [gold b hne] at hg; exact hs.ro b r (old b r h hne) hg
  · intro b r h
    by_cases hne : b = n
    · subst hne; rw [updR_same] at h; injection h with h; subst h; exact hrb
    · exact hs.bnd b r (old b r h hne)
  · intro b r h hg
    by_cases hne : b = n
    · subst hne; rw [gn]; exact ⟨⟨_, updR_same _ _ _⟩, gn⟩
    · have h' := old b r h hne
      rw [gold b hne] at hg ⊢
      obtain ⟨⟨q, hq⟩, h2⟩ := hs.ld b r h' hg
      exact ⟨⟨q, e.place _ _ hq⟩, by rw [gold _ ((ldne b r h').resolve_left hg)]; exact h2⟩
  · intro b m c' g kk s mm hL hg
    by_cases hne : b = n
    · subst hne
      rw [upd_same] at hL; injection hL with hL; injection hL with q1 q2 q3
      exact ⟨len, ch, b, b, len, by rw [← q3]; exact upd_same _ _ _⟩
    · rw [upd_ne _ _ hne] at hL
      obtain ⟨a1, a2, a3, a4, a5, a6⟩ := hs.kind b m c' g kk s mm hL hg
      exact ⟨a1, a2, a3, a4, a5, by rw [upd_ne _ _ (by have := hf.ltL a6; omega)]; exact a6⟩

theorem isRowE_inv (c : Ctx base H n ρ L w) {x : Nat} {v : Value} (hx : VR ρ L x v) {e m ch : Nat} {k : Nat → Bool} (h : isRowE H x e m ch k = true) :
    ∃ b rb d sz cp g, v = .slice (some ⟨rb, d, none⟩) m cp ∧ NewRow base w rb d cp e m ch ∧ k g = true ∧ live L b ∧ grp L b = g ∧ g ≠ 0 ∧ ρ b = some (rb, d, sz) ∧ m ≠ 0 := by
  unfold isRowE at h
  rw [sel_eq] at h
  split at h
  · rename_i h1
    rw [sel_beq] at h1
    split at h1
    · rename_i h4
      rw [sel_beq] at h1
      split at h1
      · rename_i hlen
        rw [sel_beq] at h1
        split at h1
        · rename_i hes
          rw [sel_beq] at h1
          split at h1
          · rename_i hof0
            rw [sel_beq] at h1
            split at h1
            · cases h1
            · rename_i hm0
              rw [sel_beq] at h1
              split at h1
              · cases h1
              · rename_i hbn
                rcases hx.slice_inv h4 with ⟨rfl, _⟩ | ⟨b, es, off, m', kk, rb, d, sz, cp, a, hb, he, ho, hm, hk, hmc, hbig, hk1, hcp, rfl, rfl⟩
                · exact absurd s_nil.2.2.2.2.2 hbn
                · obtain ⟨_, q1, q2, q3, q4, q5⟩ := s_parts b es off m' kk he ho hm hk
                  rw [q1] at hlen; rw [q4] at hes; rw [q3] at hof0
                  subst hlen; subst hes; subst hof0
                  rw [q5, Nat.pred_succ] at h
                  split at h
                  · rename_i nb cb g keep since mx hget
                    rw [sel_eq] at h
                    split at h
                    · rename_i hc
                      rw [sel_beq] at hc
                      split at hc
                      · cases hc
                      · rename_i hg0
                        rw [sel_eq] at hc
                        split at hc
                        · rename_i hval
                          rw [sel_ble] at hc
                          split at hc
                          · rename_i hle
                            rw [sel_beq] at hc
                            split at hc
                            · rename_i hcc
                              have hL := c.agree.2 _ _ hget
                              have hl := validE_iff c.agree hL hval
                              obtain ⟨k2, hk2, hbr⟩ := c.sim.blk b _ hb
                              rw [hL] at hk2; injection hk2 with hk2; subst hk2
                              obtain ⟨cs, ty, fz, g1, g2, g3, g4, g5⟩ := hbr hl
                              obtain rfl := g4 hg0
                              have hgrp : grp L b = g := grp_of hL
                              have hcp2 := hcp.resolve_left (by omega)
                              have hbase : base ≤ rb := c.sim.rw b _ hb (by rw [hgrp]; exact hg0)
                              simp only at g2 g3 g5
                              have hle' : m' * es ≤ nb := hle
                              refine ⟨b, rb, d, sz, cp, g, by rw [hcp2.1]; rfl, ⟨hbase, hmc, hbig, cs, ty, g1, by have := hcp2.2; omega, by rw [← hcc]; exact chunk_lt _ _ _, fun i hi => ?_⟩, h, hl, hgrp, hg0, hb, hm0⟩
                              have hli := allLit_iff _ _ hc i hi
                              refine ⟨hli, ?_⟩
                              obtain ⟨u, u1, u2, _⟩ := g5 i (by omega)
                              rw [← hcc, getW_chunk _ _ _ _ (show i < Nat.mul m' es from hi), Nat.zero_add] at hli ⊢
                              rw [u1, litV_of hli u2]
                            · cases hc
                          · cases hc
                        · cases hc
                    · cases h
                  · cases h
          · cases h1
        · cases h1
      · cases h1
    · cases h1
  · cases h

theorem noneE_inv : ∀ (l : List Nat) (g : Nat), noneE l g = true → g ∉ l
  | [], _, _ => by simp
  | x :: l, g, h => by
    have e : noneE (x :: l) g = sel (Nat.beq x g) false (noneE l g) := rfl
    rw [e, sel_beq] at h
    split at h
    · cases h
    · rename_i hne
      have := noneE_inv l g h
      simp only [List.mem_cons, not_or]
      exact ⟨fun hh => hne hh.symm, this⟩

/-- The elements of an outer row. The groups that were met stand for blocks of the world. -/
theorem isRowsE_inv (c : Ctx base H n ρ L w) : ∀ (l : List (Nat × Nat)) (ch : Nat) (gs : List Nat) (vs : List Value) (rs : List Nat), vs.length = l.length → (∀ i (h : i < vs.length), VR ρ L (getW ch i) vs[i]) →
    isRowsE H l ch gs = true → (∀ g ∈ gs, ∃ b r, live L b ∧ grp L b = g ∧ g ≠ 0 ∧ ρ b = some r ∧ r.1 ∈ rs) → (∀ r ∈ rs, ∃ g ∈ gs, ∃ b q, live L b ∧ grp L b = g ∧ g ≠ 0 ∧ ρ b = some q ∧ q.1 = r) →
    ∃ bs, NewRows base w l vs bs ∧ ∀ r ∈ bs, r ∉ rs
  | [], ch, gs, vs, rs, hl, hv, h, hg, hr => by
    have : vs = [] := List.eq_nil_of_length_eq_zero (by simpa using hl)
    subst this
    exact ⟨[], .nil, by simp⟩
  | x :: l, ch, gs, [], rs, hl, hv, h, hg, hr => by simp at hl
  | x :: l, ch, gs, v :: vs, rs, hl, hv, h, hg, hr => by
    have e : isRowsE H (x :: l) ch gs = sel (Nat.beq x.1 0)
      (sel (sel (Nat.beq (tagOf (getW ch 0)) 4) (sel (Nat.beq (sLen (payOf (getW ch 0))) 0) (sel (Nat.beq (sCap (payOf (getW ch 0))) 1) (sel (Nat.beq (sBlk (payOf (getW ch 0))) 0) false true) false) false) false) (isRowsE H l (Nat.shiftRight ch 128) gs) false)
      (isRowE H (getW ch 0) 1 x.1 x.2 fun g => sel (noneE gs g) (isRowsE H l (Nat.shiftRight ch 128) (g :: gs)) false) := rfl
    have hv0 : VR ρ L (getW ch 0) v := hv 0 (by simp)
    have hvt : ∀ i (h : i < vs.length), VR ρ L (getW (Nat.shiftRight ch 128) i) vs[i] := fun i hi => by
      rw [getW_shift]
      have := hv (i + 1) (by simpa using hi)
      simpa using this
    rw [e, sel_beq] at h
    split at h
    · rename_i hx0
      rw [sel_eq] at h
      split at h
      · rename_i h1
        rw [sel_beq] at h1
        split at h1
        · rename_i h4
          rw [sel_beq] at h1
          split at h1
          · rename_i hlen
            rw [sel_beq] at h1
            split at h1
            · rename_i hcap
              rw [sel_beq] at h1
              split at h1
              · cases h1
              · rename_i hbn
                obtain ⟨bs, hb1, hb2⟩ := isRowsE_inv c l (Nat.shiftRight ch 128) gs vs rs (by simpa using hl) hvt h hg hr
                rcases hv0.slice_inv h4 with ⟨h5, _⟩ | ⟨b, es, off, m', kk, rb, d, sz, cp, a, hb, he, ho, hm, hk, hmc, hbig, hk1, hcp, h5, rfl⟩
                · rw [h5] at hbn; exact absurd s_nil.2.2.2.2.2 hbn
                · obtain ⟨_, q1, q2, q3, q4, q5⟩ := s_parts b es off m' kk he ho hm hk
                  rw [h5, q1] at hlen
                  rw [h5, q2] at hcap
                  have hcp0 : cp = 0 := by omega
                  subst hlen; subst hcp0
                  obtain ⟨x1, x2⟩ := x
                  simp only at hx0
                  subst hx0
                  exact ⟨bs, .none x2 a l vs bs hb1, hb2⟩
            · cases h1
          · cases h1
        · cases h1
      · cases h
    · rename_i hx0
      obtain ⟨b, rb, d, sz, cp, g, rfl, hnr, hk, hlive, hgrp, hg0, hρ, hm0⟩ := isRowE_inv c hv0 h
      rw [sel_eq] at hk
      split at hk
      · rename_i hn
        have hng := noneE_inv gs g hn
        have hrs : rb ∉ rs := by
          intro hmem
          obtain ⟨g', hg', b', q, hl', hgr', hg0', hρ', hq⟩ := hr rb hmem
          have hne : grp L b ≠ grp L b' := by rw [hgrp, hgr']; intro hh; exact hng (hh ▸ hg')
          exact c.sim.sep b b' _ q hρ hρ' hlive hl' (by rw [hgrp]; exact hg0) (by rw [hgr']; exact hg0') hne hq.symm
        obtain ⟨bs, hb1, hb2⟩ := isRowsE_inv c l (Nat.shiftRight ch 128) (g :: gs) vs (rb :: rs) (by simpa using hl) hvt hk (fun g' hg' => by
          rcases List.mem_cons.1 hg' with rfl | hg'
          · exact ⟨b, _, hlive, hgrp, hg0, hρ, by simp⟩
          · obtain ⟨b', r, a1, a2, a3, a4, a5⟩ := hg g' hg'
            exact ⟨b', r, a1, a2, a3, a4, by simp [a5]⟩) (fun r hrm => by
          rcases List.mem_cons.1 hrm with rfl | hrm
          · exact ⟨g, by simp, b, _, hlive, hgrp, hg0, hρ, rfl⟩
          · obtain ⟨g', a0, a1⟩ := hr r hrm
            exact ⟨g', by simp [a0], a1⟩)
        obtain ⟨x1, x2⟩ := x
        exact ⟨rb :: bs, .row x1 x2 rb d cp l vs bs hx0 hnr (fun hh => hb2 rb hh (by simp)) hb1, fun r hrm => by
          rcases List.mem_cons.1 hrm with rfl | hrm
          · exact hrs
          · exact fun hh => hb2 r hrm (by simp [hh])⟩
      · cases hk

/-- The state behind a result. -/
theorem adopt_row (c : Ctx base H n ρ L w) (hn : n < 16384) {s rb d cp e m ch : Nat} (hs : base ≤ s) (h : NewRow s w rb d cp e m ch) (he : e < 256) (hm : m < 1048576) (hnew : ∀ b r, ρ b = some r → r.1 ≠ rb) (h0 : m = 0 → cp ≠ 0) :
    ∃ ρ' L', Ctx base (hset H n (.cells (Nat.mul m e) ch (n + 1) n n (Nat.mul m e))) (n + 1) ρ' L' w ∧ Ext ρ L ρ' L' ∧ VR ρ' L' (wS n e 0 m 0) (.slice (some ⟨rb, d, none⟩) m cp) ∧ (∀ b r, ρ' b = some r → ρ b = some r ∨ r.1 = rb) ∧ Loc H n ρ L ρ' L' := by
  obtain ⟨h1, h2, h3, cs, ty, h4, h5, h6, h7⟩ := h
  have hle : m * e ≤ cp * e := Nat.mul_le_mul_right _ h2
  obtain ⟨c1, e1⟩ := c.adopt (sz := cp * e) (len := Nat.mul m e) (ch := ch) hn h4 (Nat.le_trans hs h1) hnew h5 hle (fun j hj => by
    obtain ⟨a, b⟩ := h7 j hj
    exact ⟨_, b, litV_vr a, litW_storable a⟩)
  refine ⟨_, _, c1, e1, .slice n e 0 m 0 rb d (cp * e) cp _ (updR_same _ _ _) he (by omega) hm (by omega) h2 h3 (.inl rfl) (.inr ⟨by simp, by omega⟩), fun b r hr => ?_, .fresh _ _⟩
  by_cases hbn : b = n
  · subst hbn; rw [updR_same] at hr; injection hr with hr; subst hr; exact .inr rfl
  · rw [updR_ne _ _ hbn] at hr; exact .inl hr

theorem putRows_le : ∀ (l : List (Nat × Nat)) (H : Trie) (n : Nat) (ws : List Nat), n ≤ (putRows l H n ws).n
  | [], H, n, ws => Nat.le_refl _
  | x :: l, H, n, ws => by
    have e : putRows (x :: l) H n ws = sel (Nat.beq x.1 0) (putRows l H n (ws ++ [14])) (putRows l (hset H n (.cells x.1 x.2 (Nat.succ n) n n x.1)) (Nat.succ n) (ws ++ [wS n 1 0 x.1 0])) := rfl
    rw [e, sel_beq]
    split
    · exact putRows_le l H n _
    · exact Nat.le_trans (Nat.le_succ n) (putRows_le l _ _ _)
theorem AR.app {ρ : Rho} {L : Look} {xs ys : List Nat} {us vs : List Value} (h1 : AR ρ L xs us) (h2 : AR ρ L ys vs) : AR ρ L (xs ++ ys) (us ++ vs) := by
  induction h1 with
  | nil => exact h2
  | cons x v xs vs hv _ ih => exact .cons _ _ _ _ hv ih
theorem putRows_sound {s : Nat} : ∀ (l : List (Nat × Nat)) (vs : List Value) (bs : List Nat) (H : Trie) (n : Nat) (ws : List Nat) (us : List Value) (ρ : Rho) (L : Look), Ctx base H n ρ L w → base ≤ s → NewRows s w l vs bs → (putRows l H n ws).n < 16384 →
    (∀ x ∈ l, x.1 < 1048576) → (∀ b r, ρ b = some r → r.1 ∉ bs) → AR ρ L ws us → (∀ x ∈ ws, storable x = true) →
    ∃ ρ' L', Ctx base (putRows l H n ws).H (putRows l H n ws).n ρ' L' w ∧ Ext ρ L ρ' L' ∧ AR ρ' L' (putRows l H n ws).ws (us ++ vs) ∧ (∀ x ∈ (putRows l H n ws).ws, storable x = true) ∧ (∀ b r, ρ' b = some r → ρ b = some r ∨ r.1 ∈ bs) ∧ Loc H n ρ L ρ' L'
  | [], vs, bs, H, n, ws, us, ρ, L, c, hs, hnr, hlt, hl, hbs, ha, hst => by
    cases hnr
    exact ⟨ρ, L, c, .refl _ _, by rw [List.append_nil]; exact ha, hst, fun b r h => .inl h, .refl _ _ _ _⟩
  | x :: l, vs, bs, H, n, ws, us, ρ, L, c, hs, hnr, hlt, hl, hbs, ha, hst => by
    have e : putRows (x :: l) H n ws = sel (Nat.beq x.1 0) (putRows l H n (ws ++ [14])) (putRows l (hset H n (.cells x.1 x.2 (Nat.succ n) n n x.1)) (Nat.succ n) (ws ++ [wS n 1 0 x.1 0])) := rfl
    cases hnr with
    | none ch a _ vs' _ h1 =>
      rw [e, sel_beq, if_pos rfl] at hlt ⊢
      obtain ⟨ρ', L', c', e', ha', hst', hb', hloc⟩ := putRows_sound l vs' bs H n (ws ++ [14]) (us ++ [.slice (some a) 0 0]) ρ L c hs h1 hlt (fun y hy => hl y (List.mem_cons_of_mem _ hy)) hbs (ha.app (.cons _ _ _ _ (.sl0 a) .nil)) (fun y hy => by
        rcases List.mem_append.1 hy with hy | hy
        · exact hst y hy
        · simp at hy; subst hy; decide)
      exact ⟨ρ', L', c', e', by simpa using ha', hst', hb', hloc⟩
    | row m ch rb d cp _ vs' bs' hm0 h1 h2 h3 =>
      rw [e, sel_beq, if_neg hm0] at hlt ⊢
      have hle := putRows_le l (hset H n (.cells m ch (Nat.succ n) n n m)) (Nat.succ n) (ws ++ [wS n 1 0 m 0])
      have hmlt : m < 1048576 := hl _ List.mem_cons_self
      obtain ⟨ρ1, L1, c1, e1, v1, hb1, hloc1⟩ := adopt_row c (by simp only at hlt hle; omega) hs h1 (by omega) hmlt (fun b r hr => fun hh => hbs b r hr (by simp [hh])) (fun h => absurd h hm0)
      rw [show Nat.mul m 1 = m from Nat.mul_one m] at c1
      obtain ⟨ρ', L', c', e', ha', hst', hb', hloc⟩ := putRows_sound l vs' bs' (hset H n (.cells m ch (Nat.succ n) n n m)) (Nat.succ n) (ws ++ [wS n 1 0 m 0]) (us ++ [.slice (some ⟨rb, d, none⟩) m cp]) ρ1 L1 c1 hs h3 hlt (fun y hy => hl y (List.mem_cons_of_mem _ hy)) (fun b r hr => by
        rcases hb1 b r hr with hr | hr
        · exact fun hh => hbs b r hr (by simp [hh])
        · rw [hr]; exact h2) ((ha.mono e1).app (.cons _ _ _ _ v1 .nil)) (fun y hy => by
        rcases List.mem_append.1 hy with hy | hy
        · exact hst y hy
        · simp at hy; subst hy
          rw [storable_iff, tag_wS]
          have hnl : n < 16384 := by simp only at hlt hle; omega
          exact ⟨by decide, by decide, by decide, by rw [wS_eq]; omega⟩)
      refine ⟨ρ', L', c', e1.trans e', by simpa using ha', hst', fun b r hr => ?_, hloc1.trans (Nat.le_succ _) hloc⟩
      rcases hb' b r hr with hr | hr
      · rcases hb1 b r hr with hr | hr
        · exact .inl hr
        · exact .inr (by simp [hr])
      · exact .inr (by simp [hr])

theorem storable_lt {x : Nat} (h : storable x = true) : x < 2 ^ 128 := ((storable_iff _).1 h).2.2.2
theorem NewRows.len {s : Nat} {W : World} {l : List (Nat × Nat)} {vs : List Value} {bs : List Nat} (h : NewRows s W l vs bs) : vs.length = l.length := by
  induction h with
  | nil => rfl
  | none _ _ _ _ _ _ ih => simp [ih]
  | row _ _ _ _ _ _ _ _ _ _ _ _ ih => simp [ih]
theorem NewRows.low {s : Nat} {W : World} {l : List (Nat × Nat)} {vs : List Value} {bs : List Nat} (h : NewRows s W l vs bs) : ∀ b ∈ bs, s ≤ b := by
  induction h with
  | nil => intro b hb; cases hb
  | none _ _ _ _ _ _ ih => exact ih
  | row _ _ _ _ _ _ _ _ _ h2 _ _ ih =>
    intro b hb
    rcases List.mem_cons.1 hb with rfl | hb
    · exact h2.1
    · exact ih b hb
theorem putRes_sound (c : Ctx base H n ρ L w) {s : Nat} (hs : base ≤ s) (hnew : ∀ b r, ρ b = some r → r.1 < s) {rs : RS} {x : Value} {v n' : Nat} {H' : Trie} (hx : HoldsR s w rs x) (h : putRes rs H n = .ok v H' n') :
    ∃ ρ' L', Ctx base H' n' ρ' L' w ∧ Ext ρ L ρ' L' ∧ Loc H n ρ L ρ' L' ∧ n ≤ n' ∧ VR ρ' L' v x := by
  cases rs with
  | lit u =>
    have e : putRes (.lit u) H n = .ok u H n := rfl
    rw [e] at h; injection h with h1 h2 h3
    subst h1; subst h2; subst h3
    obtain ⟨hl, rfl⟩ := hx
    exact ⟨ρ, L, c, .refl _ _, .refl _ _ _ _, Nat.le_refl _, litV_vr hl⟩
  | row e m ch =>
    have e0 : putRes (.row e m ch) H n = sel (sel (ltb n maxBlk) (sel (ltb e 256) (sel (Nat.beq m 0) false (ltb m 1048576)) false) false) (.ok (wS n e 0 m 0) (hset H n (.cells (Nat.mul m e) ch (Nat.succ n) n n (Nat.mul m e))) (Nat.succ n)) (.bad 9) := rfl
    rw [e0, sel_eq] at h
    split at h
    · rename_i hg
      rw [sel_ltb] at hg
      split at hg
      · rename_i hn
        rw [sel_ltb] at hg
        split at hg
        · rename_i he
          rw [sel_beq] at hg
          split at hg
          · cases hg
          · rename_i hm0
            have hm := (ltb_iff _ _).1 hg
            injection h with h1 h2 h3
            subst h1; subst h2; subst h3
            obtain ⟨rb, d, cp, rfl, hr⟩ := hx
            obtain ⟨ρ', L', c', e', v', _, hloc⟩ := adopt_row c hn hs hr he hm (fun b r hbr => by have := hnew b r hbr; have := hr.1; omega) (fun h => absurd h hm0)
            exact ⟨ρ', L', c', e', hloc, Nat.le_succ _, v'⟩
        · cases hg
      · cases hg
    · cases h
  | rows l =>
    have e0 : putRes (.rows l) H n = sel (sel (ltb (putRows l H n []).n maxBlk) (sel (ltb (lenN l) 1048576) (allE (fun x : Nat × Nat => ltb x.1 1048576) l) false) false) (.ok (wS (putRows l H n []).n 1 0 (lenN l) 0) (hset (putRows l H n []).H (putRows l H n []).n (.cells (lenN l) (listW (putRows l H n []).ws) (Nat.succ (putRows l H n []).n) (putRows l H n []).n (putRows l H n []).n (lenN l))) (Nat.succ (putRows l H n []).n)) (.bad 9) := rfl
    rw [e0, sel_eq] at h
    split at h
    · rename_i hg
      rw [sel_ltb] at hg
      split at hg
      · rename_i hn
        rw [sel_ltb] at hg
        split at hg
        · rename_i hll
          rw [allE_iff] at hg
          injection h with h1 h2 h3
          subst h1; subst h2; subst h3
          rw [lenN_eq] at hll ⊢
          obtain ⟨rb, d, cp, cs, ty, vs, bs, rfl, q1, q2, q3, q4, q5, q6, q7, q8, q9⟩ := hx
          have hbs := q6.low
          obtain ⟨ρ1, L1, c1, e1, ha1, hst1, hb1, hloc1⟩ := putRows_sound l vs bs H n [] [] ρ L c hs q6 hn (fun x hx => (ltb_iff _ _).1 (hg x hx)) (fun b r hbr => fun hh => by have := hnew b r hbr; have := hbs _ hh; omega) .nil (fun x hx => by cases hx)
          have hsl : allSlot (putRows l H n []).ws = true := allSlot_of' _ fun y hy => storable_lt (hst1 y hy)
          have hwl : (putRows l H n []).ws.length = l.length := by
            have := ha1.length
            simp only [List.nil_append] at this
            omega
          obtain ⟨c2, e2⟩ := c1.adopt (sz := cp) (d := d) (len := l.length) (ch := listW (putRows l H n []).ws) hn q4 (Nat.le_trans hs q1) (fun b r hbr => by
            rcases hb1 b r hbr with hbr | hbr
            · have := hnew b r hbr; omega
            · exact fun hh => q7 (hh ▸ hbr)) q5 q2 (fun j hj => by
            have hjv : j < ([] ++ vs).length := by simp; omega
            have hvr := ha1.get j hjv
            have hjw : j < (putRows l H n []).ws.length := by omega
            refine ⟨vs[j]'(by omega), by rw [q9 j hj, List.getElem?_eq_getElem (by omega)], ?_, ?_⟩
            · rw [getW_listW _ hsl]; simpa using hvr
            · rw [getW_listW _ hsl, List.getD_eq_getElem?_getD, List.getElem?_eq_getElem hjw]
              exact hst1 _ (List.getElem_mem hjw))
          have hle := putRows_le l H n []
          refine ⟨_, _, c2, e1.trans e2, Loc.trans (H1 := H) hloc1 hle (.fresh _ _), by omega, ?_⟩
          exact .slice _ 1 0 l.length 0 rb d cp cp _ (updR_same _ _ _) (by omega) (by omega) hll (by omega) q2 q3 (.inl rfl) (.inr ⟨by simp, by omega⟩)
        · cases hg
      · cases hg
    · cases h
end
end

theorem memo2S_always {P : Program} : ∀ (l : List Memo2), (∀ e ∈ l, Memo2K P e) → Always P (memo2S l) := by
  intro l hl E base H n ρ L w f args vs v H' n' cs c ha h
  induction l with
  | nil => cases h
  | cons e l ih =>
    have e0 : memo2S (e :: l) f args H n = sel (sel (Nat.beq e.1 f) (matchL H e.2.1 args) false) (.yes (putRes e.2.2 H n)) (memo2S l f args H n) := rfl
    rw [e0, sel_eq] at h
    split at h
    · rename_i h1
      rw [sel_beq] at h1
      split at h1
      · rename_i hf
        injection h with h
        have K := hl e List.mem_cons_self
        have hh := matchL_holds c e.2.1 args vs.toList ha h1
        obtain ⟨r, W, ⟨x, hr, hx, hb⟩, hcall⟩ := calls_at (K.calls w vs hh) cs
        subst hr
        rw [← hf]
        obtain ⟨ρ', L', c', e', hloc, hn, hv⟩ := putRes_sound (c.later hb) c.sim.bs c.sim.bnd hx h
        exact ⟨ρ', L', W, x, c', e', hb.mono c.sim.bs, hloc, hn, hv, K.known, hcall⟩
      · cases h1
    · exact ih (fun e he => hl e (List.mem_cons_of_mem _ he)) h

theorem litW_word {v : Nat} {r : OR} {H : Trie} {n : Nat} (h : isWord v (.ok v H n) = true) : tagOf v = 1 ∧ payOf v < 18446744073709551616 ∨ v = 18 ∨ v = 2 := by
  have h' : sel (Nat.beq v v) (sel (Nat.beq (tagOf v) 1) (ltb (payOf v) 18446744073709551616) (sel (Nat.beq v 18) true (Nat.beq v 2))) false = true := h
  rw [sel_beq, if_pos rfl, sel_beq] at h'
  split at h'
  · rename_i h1; exact .inl ⟨h1, (ltb_iff _ _).1 h'⟩
  · rw [sel_beq] at h'
    split at h'
    · exact .inr (.inl (by assumption))
    · exact .inr (.inr (Nat.eq_of_beq_eq_true h'))
/-- ██ A result found by a run. -/
theorem memo2_of {P : Program} {S : Sums} (hS : Always P S) {fuel d f : Nat} {l : List Sh} {rs : RS} (h : isRes rs (memoRun P S fuel d f l) = true) : Memo2K P (f, l, rs) := by
  letI : Env := noEnv
  unfold memoRun at h
  simp only at h
  cases hg : sel (shOk l) (ltb (layL l .nil 0 []).n 1000) false with
  | false => rw [hg] at h; cases h
  | true =>
    rw [hg, sel_true] at h
    rw [sel_eq] at hg
    split at hg
    · rename_i hok
      have hlt := (ltb_iff _ _).1 hg
      cases hr : funE P (callN P S fuel d) fuel f (layL l .nil 0 []).ws (layL l .nil 0 []).H (layL l .nil 0 []).n with
      | bad q => rw [hr] at h; cases h
      | ok v' H' n' =>
        rw [hr] at h
        refine ⟨known_of hr, fun w vs hh cs => ?_⟩
        obtain ⟨_, hL⟩ := layL_sound (w := w) l .nil 0 []
        obtain ⟨ρ', L', c, ha⟩ := hL _ _ vs.toList [] (Ctx.start w) .nil hh hlt hok
        obtain ⟨ρ2, L2, w', x, c2, _, hb, _, _, hx, _, hc⟩ := funE_sound (callN_sound P (hS noEnv) fuel d) cs c (by simpa using ha) hr
        obtain ⟨e, W, fr, ⟨h1, h2⟩, h3⟩ := hc
        subst h2
        refine ⟨e, W, fr, ⟨x, h1, ?_, hb⟩, h3⟩
        cases rs with
        | lit u =>
          have h' : isWord u (.ok v' H' 0) = true := h
          have huv : v' = u := by
            have h2 : sel (Nat.beq v' u) (sel (Nat.beq (tagOf u) 1) (ltb (payOf u) 18446744073709551616) (sel (Nat.beq u 18) true (Nat.beq u 2))) false = true := h'
            rw [sel_beq] at h2
            split at h2
            · assumption
            · cases h2
          subst huv
          have hl : litW v' = true := by
            unfold litW
            rcases litW_word (r := .bad 0) h' with ⟨a, b⟩ | a | a
            · rw [sel_ltb, if_pos (by have := wordOf v'; rw [a, mk_eq] at this; omega), a, sel_beq, if_pos rfl]; exact (ltb_iff _ _).2 b
            · rw [a]; rfl
            · rw [a]; rfl
          exact ⟨hl, litV_of hl hx⟩
        | row e m ch =>
          have h' : isRowE H' v' e m ch (fun _ => true) = true := h
          obtain ⟨b, rb, d, sz, cp, g, rfl, hnr, _, _, _, _, _, _⟩ := isRowE_inv c2 hx h'
          exact ⟨rb, d, cp, rfl, hnr⟩
        | rows l =>
          have h' : sel (sel (Nat.beq (tagOf v') 4) (sel (Nat.beq (sLen (payOf v')) (lenN l)) (sel (Nat.beq (sEs (payOf v')) 1) (sel (Nat.beq (sOff (payOf v')) 0) (sel (Nat.beq (lenN l) 0) false (sel (Nat.beq (sBlk (payOf v')) 0) false true)) false) false) false) false)
            (match tget H' (Nat.pred (sBlk (payOf v'))) with
             | some (.cells nb cb g keep since _) => sel (sel (Nat.beq g 0) false (sel (validE H' (Nat.pred (sBlk (payOf v'))) g keep since) (Nat.ble (lenN l) nb) false)) (isRowsE H' l cb [g]) false
             | _ => false) false = true := h
          rw [sel_eq] at h'
          split at h'
          · rename_i g0
            rw [sel_beq] at g0
            split at g0
            · rename_i h4
              rw [sel_beq] at g0
              split at g0
              · rename_i hlen
                rw [sel_beq] at g0
                split at g0
                · rename_i hes
                  rw [sel_beq] at g0
                  split at g0
                  · rename_i hof0
                    rw [sel_beq] at g0
                    split at g0
                    · cases g0
                    · rename_i hm0
                      rw [sel_beq] at g0
                      split at g0
                      · cases g0
                      · rename_i hbn
                        rcases hx.slice_inv h4 with ⟨rfl, _⟩ | ⟨b, es, off, m', kk, rb, dd, sz, cp, a, hb', he, ho, hm, hk, hmc, hbig, hk1, hcp, rfl, rfl⟩
                        · exact absurd s_nil.2.2.2.2.2 hbn
                        · obtain ⟨_, q1, q2, q3, q4, q5⟩ := s_parts b es off m' kk he ho hm hk
                          rw [q1, lenN_eq] at hlen; rw [q4] at hes; rw [q3] at hof0; rw [lenN_eq] at hm0
                          subst hlen; subst hes; subst hof0
                          rw [q5, Nat.pred_succ, lenN_eq] at h'
                          split at h'
                          · rename_i nb cb g keep since mx hget
                            rw [sel_eq] at h'
                            split at h'
                            · rename_i hc2
                              rw [sel_beq] at hc2
                              split at hc2
                              · cases hc2
                              · rename_i hg0
                                rw [sel_eq] at hc2
                                split at hc2
                                · rename_i hval
                                  have hle := Nat.le_of_ble_eq_true hc2
                                  have hL2 := c2.agree.2 _ _ hget
                                  have hlv := validE_iff c2.agree hL2 hval
                                  obtain ⟨k2, hk2, hbr⟩ := c2.sim.blk b _ hb'
                                  rw [hL2] at hk2; injection hk2 with hk2; subst hk2
                                  obtain ⟨cs', ty, fz, g1, g2, g3, g4, g5⟩ := hbr hlv
                                  obtain rfl := g4 hg0
                                  have hgrp : grp L2 b = g := grp_of hL2
                                  have hcp2 := hcp.resolve_left (by omega)
                                  have hbase : w.heap.size ≤ rb := c2.sim.rw b _ hb' (by rw [hgrp]; exact hg0)
                                  simp only at g2 g3 g5
                                  -- the elements
                                  have hvals : ∀ i, i < l.length → ∃ u, cs'[dd + i]? = some u ∧ VR ρ2 L2 (getW cb i) u := fun i hi => by
                                    obtain ⟨u, u1, u2, _⟩ := g5 i (by omega)
                                    exact ⟨u, u1, u2⟩
                                  have hvl : ((List.range l.length).map fun i => (cs'[dd + i]?).getD Go.undef).length = l.length := by simp
                                  obtain ⟨bs, hb1, hb2⟩ := isRowsE_inv c2 l cb [g] ((List.range l.length).map fun i => (cs'[dd + i]?).getD Go.undef) [rb] hvl (fun i hi => by
                                    have hi' : i < l.length := by simpa using hi
                                    obtain ⟨u, u1, u2⟩ := hvals i hi'
                                    simp only [List.getElem_map, List.getElem_range, u1, Option.getD_some]
                                    exact u2) h' (fun g' hg' => by
                                    simp only [List.mem_cons, List.not_mem_nil, or_false] at hg'
                                    subst hg'
                                    exact ⟨b, _, hlv, hgrp, hg0, hb', by simp⟩) (fun r hr => by
                                    simp only [List.mem_cons, List.not_mem_nil, or_false] at hr
                                    subst hr
                                    exact ⟨g, by simp, b, _, hlv, hgrp, hg0, hb', rfl⟩)
                                  refine ⟨rb, dd, cp, cs', ty, _, bs, by rw [hcp2.1]; rfl, hbase, hmc, hbig, g1, by have := hcp2.2; omega, hb1, fun hh => hb2 rb hh (by simp), hvl, fun i hi => ?_⟩
                                  obtain ⟨u, u1, _⟩ := hvals i hi
                                  rw [List.getElem?_map, List.getElem?_range hi, u1]
                                  simp [u1]
                                · cases hc2
                            · cases h'
                          · cases h'
                  · cases g0
                · cases g0
              · cases g0
            · cases g0
          · cases h'
    · cases hg
end Go.Eng
