/- The relation is kept: a new block, a box, a store. -/
import Derived.Test.YthcdiaahpodkoabEngC
namespace Go.Eng
set_option linter.unusedSectionVars false
set_option linter.unusedSimpArgs false
set_option linter.unusedVariables false
open Go Go.RowKit
variable [E : Env]

theorem BR.mono0 {ρ ρ' : Rho} {L L' : Look} (e : Ext0 ρ L ρ' L') {w w' : World} {r : Nat × Nat × Nat} (hw : w'.heap[r.1]? = w.heap[r.1]?) {k : Blk} (h : BR ρ L w r k) : BR ρ' L' w' r k := by
  cases k with
  | cells n c g keep since maxl =>
    obtain ⟨cs, ty, fz, h1, h2, h3, h4, h5⟩ := h
    exact ⟨cs, ty, fz, hw.trans h1, h2, h3, h4, fun i hi => let ⟨v, a, b, c⟩ := h5 i hi; ⟨v, a, b.mono0 e, c⟩⟩
  | loop T nt ps assign body st pend df =>
    obtain ⟨lp, h1, h2, h3, h4, h5, h6, h7, q, h8, h9, h10⟩ := h
    exact ⟨lp, hw.trans h1, h2, h3, h4, h5, h6, h7.mono0 e, q, e.place _ _ h8, h9, e.isdf _ h10⟩
  | defr => exact hw.trans h
  | gone => exact trivial
  | opq j ro =>
    obtain ⟨cs, ty, fz, h1, h2, h3, h4, h5⟩ := h
    exact ⟨cs, ty, fz, hw.trans h1, h2, h3, h4, h5⟩
  | box => exact h
  | poly => exact h
  | mp ag m es =>
    obtain ⟨ents, clock, h1, h2, h3⟩ := h
    exact ⟨ents, clock, hw.trans h1, h2, fun i kv hi => let ⟨en, a, b, c, d⟩ := h3 i kv hi; ⟨en, a, b.mono0 e, c.mono0 e, d⟩⟩
theorem BR.mono {ρ ρ' : Rho} {L L' : Look} (e : Ext ρ L ρ' L') {w w' : World} {r : Nat × Nat × Nat} (hw : w'.heap[r.1]? = w.heap[r.1]?) {k : Blk} (h : BR ρ L w r k) : BR ρ' L' w' r k := h.mono0 e.toExt0 hw

theorem Fresh.lt {n : Nat} {ρ : Rho} {L : Look} (h : Fresh n ρ L) {b : Nat} {r : Nat × Nat × Nat} (hb : ρ b = some r) : b < n := by
  rcases Nat.lt_or_ge b n with h1 | h1
  · exact h1
  · rw [(h b h1).2] at hb; cases hb
theorem Fresh.ltL {n : Nat} {ρ : Rho} {L : Look} (h : Fresh n ρ L) {b : Nat} {k : Blk} (hb : L b = some k) : b < n := by
  rcases Nat.lt_or_ge b n with h1 | h1
  · exact h1
  · rw [(h b h1).1] at hb; cases hb
theorem Fresh.mono {n n' : Nat} {ρ : Rho} {L : Look} (h : Fresh n ρ L) (hn : n ≤ n') : Fresh n' ρ L := fun b hb => h b (Nat.le_trans hn hb)

def updR (ρ : Rho) (b : Nat) (r : Nat × Nat × Nat) : Rho := fun j => if j = b then some r else ρ j
theorem updR_same (ρ : Rho) (b : Nat) (r : Nat × Nat × Nat) : updR ρ b r b = some r := by simp [updR]
theorem updR_ne (ρ : Rho) {b j : Nat} (r : Nat × Nat × Nat) (h : j ≠ b) : updR ρ b r j = ρ j := by simp [updR, h]

theorem grp_upd_ne {L : Look} {b j : Nat} {k : Blk} (h : j ≠ b) : grp (upd L b k) j = grp L j := by simp [grp, upd_ne _ _ h]
theorem info_upd_ne {L : Look} {b j : Nat} {k : Blk} (h : j ≠ b) : info (upd L b k) j = info L j := by simp [info, upd_ne _ _ h]
theorem live_upd_ne {L : Look} {b j : Nat} {k : Blk} (h : j ≠ b) (hl : grp L j = 0 ∨ grp L j - 1 ≠ b) : live (upd L b k) j ↔ live L j := by
  unfold live
  rw [grp_upd_ne h]
  rcases hl with h0 | h0
  · simp [h0]
  · rw [info_upd_ne h0]

theorem IsDf.some {o : Option Blk} (h : IsDf o) : ∃ k, o = some k := by rcases h with h | h <;> exact ⟨_, h⟩
theorem Ext.fresh {n : Nat} {ρ : Rho} {L : Look} (hf : Fresh n ρ L) (r : Nat × Nat × Nat) (k : Blk) : Ext ρ L (updR ρ n r) (upd L n k) := by
  refine ⟨⟨fun b q h => ?_, fun b i m c h => ?_, fun b p q s d lo hi h => ?_, fun b h => ?_⟩, fun b h => ?_⟩
  · rw [updR_ne _ _ (by have := hf.lt h; omega)]; exact h
  · rw [upd_ne _ _ (by have := hf.ltL h; omega)]; exact h
  · rw [upd_ne _ _ (by have := hf.ltL h; omega)]; exact h
  · obtain ⟨k', hk⟩ := h.some
    rw [upd_ne _ _ (by have := hf.ltL hk; omega)]; exact h
  · rw [upd_ne _ _ (by have := hf.ltL h; omega)]; exact h
theorem Ext.freshL {n : Nat} {ρ : Rho} {L : Look} (hf : Fresh n ρ L) (k : Blk) : Ext ρ L ρ (upd L n k) := by
  refine ⟨⟨fun b q h => h, fun b i m c h => ?_, fun b p q s d lo hi h => ?_, fun b h => ?_⟩, fun b h => ?_⟩
  · rw [upd_ne _ _ (by have := hf.ltL h; omega)]; exact h
  · rw [upd_ne _ _ (by have := hf.ltL h; omega)]; exact h
  · obtain ⟨k', hk⟩ := h.some
    rw [upd_ne _ _ (by have := hf.ltL hk; omega)]; exact h
  · rw [upd_ne _ _ (by have := hf.ltL h; omega)]; exact h

theorem Fresh.upd {n : Nat} {ρ : Rho} {L : Look} (hf : Fresh n ρ L) (r : Nat × Nat × Nat) (k : Blk) : Fresh (n + 1) (updR ρ n r) (upd L n k) := fun b hb => by
  rw [updR_ne _ _ (by omega), upd_ne _ _ (by omega)]; exact hf b (by omega)
theorem Fresh.updL {n : Nat} {ρ : Rho} {L : Look} (hf : Fresh n ρ L) (k : Blk) : Fresh (n + 1) ρ (Eng.upd L n k) := fun b hb => by
  rw [upd_ne _ _ (by omega)]; exact hf b (by omega)

theorem Loc.fresh {H : Trie} {n : Nat} {ρ : Rho} {L : Look} (r : Nat × Nat × Nat) (k : Blk) : Loc H n ρ L (updR ρ n r) (upd L n k) :=
  ⟨fun b hb h => ⟨upd_ne _ _ (by omega), by rw [updR_ne _ _ (by omega)]; exact h⟩⟩
theorem Loc.freshL {H : Trie} {n : Nat} {ρ : Rho} {L : Look} (k : Blk) : Loc H n ρ L ρ (upd L n k) :=
  ⟨fun b hb h => ⟨upd_ne _ _ (by omega), h⟩⟩

/-- A block that is its own group. -/
def OwnK (n : Nat) : Blk → Prop
  | .cells m _ g keep since maxl => g = n + 1 ∧ keep = n ∧ since = n ∧ m ≤ maxl
  | .loop .. => True
  | .defr => True
  | .gone => True
  | .opq _ ro => ro = 0
  | .mp .. => True
  | .box .. => False
  | .poly .. => False

theorem OwnK.grp {n : Nat} {k : Blk} (h : OwnK n k) (L : Look) : grp (upd L n k) n = n + 1 := by
  cases k with
  | cells => simp [Eng.grp, upd_same, h.1]
  | loop => simp [Eng.grp, upd_same]
  | defr => simp [Eng.grp, upd_same]
  | gone => simp [Eng.grp, upd_same]
  | opq j ro => have : ro = 0 := h; simp [Eng.grp, upd_same, this]
  | mp => simp [Eng.grp, upd_same]
  | box => exact h.elim
  | poly => exact h.elim
theorem OwnK.live {n : Nat} {k : Blk} (h : OwnK n k) (L : Look) : live (upd L n k) n := by
  right; left
  rw [h.grp]
  cases k with
  | cells => simp [info, upd_same, h.2.1]
  | loop => simp [info, upd_same]
  | defr => simp [info, upd_same]
  | gone => simp [info, upd_same]
  | opq => simp [info, upd_same]
  | mp => simp [info, upd_same]
  | box => exact h.elim
  | poly => exact h.elim

/-- A new block at the heap's end. -/
theorem Sim.fresh {base : Nat} {ρ : Rho} {L : Look} {w w' : World} {n : Nat} (hs : Sim base ρ L w) (hf : Fresh n ρ L) {o : Obj} (hw : w'.heap = w.heap.push o) {k : Blk} (hk : OwnK n k) {sz : Nat}
    (hb : BR (updR ρ n (w.heap.size, 0, sz)) (upd L n k) w' (w.heap.size, 0, sz) k) : Sim base (updR ρ n (w.heap.size, 0, sz)) (upd L n k) w' := by
  have hsz : w'.heap.size = w.heap.size + 1 := by rw [hw]; simp
  have hold : ∀ x, x < w.heap.size → w'.heap[x]? = w.heap[x]? := fun x hx => by rw [hw, Array.getElem?_push, if_neg (by omega)]
  have e : Ext ρ L (updR ρ n (w.heap.size, 0, sz)) (upd L n k) := .fresh hf _ _
  -- what was there
  have old : ∀ b r, updR ρ n (w.heap.size, 0, sz) b = some r → b ≠ n → ρ b = some r := fun b r h hne => by rw [updR_ne _ _ hne] at h; exact h
  have gold : ∀ b, b ≠ n → grp (upd L n k) b = grp L b := fun b hb => grp_upd_ne hb
  have ldne : ∀ b r, ρ b = some r → grp L b = 0 ∨ grp L b - 1 ≠ n := fun b r h => by
    by_cases h0 : grp L b = 0
    · exact .inl h0
    · obtain ⟨⟨q, hq⟩, _⟩ := hs.ld b r h h0
      have := hf.lt hq
      exact .inr (by omega)
  have lold : ∀ b r, ρ b = some r → b ≠ n → (live (upd L n k) b ↔ live L b) := fun b r h hne => live_upd_ne hne (ldne b r h)
  have iold : ∀ b r, ρ b = some r → grp L b ≠ 0 → info (upd L n k) (grp L b - 1) = info L (grp L b - 1) := fun b r h h0 => info_upd_ne ((ldne b r h).resolve_left h0)
  have gn : grp (upd L n k) n = n + 1 := hk.grp L
  refine ⟨?_, ?_, ?_, ?_, ?_, ?_, ?_, ?_, ?_, ?_⟩
  · intro b r h
    by_cases hne : b = n
    · subst hne
      rw [updR_same] at h; injection h with h; subst h
      exact ⟨k, upd_same _ _ _, fun _ => hb⟩
    · have h' := old b r h hne
      obtain ⟨kk, h1, h2⟩ := hs.blk b r h'
      refine ⟨kk, by rw [upd_ne _ _ hne]; exact h1, fun hl => ?_⟩
      exact (h2 ((lold b r h' hne).1 hl)).mono e (hold _ (hs.bnd b r h'))
  · intro b b' r r' h h' hl hl' hg hg' hgg
    by_cases hne : b = n
    · by_cases hne' : b' = n
      · subst hne; subst hne'; exact absurd rfl hgg
      · subst hne
        rw [updR_same] at h; injection h with h; subst h
        have := hs.bnd b' r' (old b' r' h' hne')
        simp; omega
    · by_cases hne' : b' = n
      · subst hne'
        rw [updR_same] at h'; injection h' with h'; subst h'
        have := hs.bnd b r (old b r h hne)
        simp; omega
      · have k1 := old b r h hne
        have k2 := old b' r' h' hne'
        rw [gold b hne] at hg hgg
        rw [gold b' hne'] at hg' hgg
        exact hs.sep b b' r r' k1 k2 ((lold b r k1 hne).1 hl) ((lold b' r' k2 hne').1 hl') hg hg' hgg
  · intro b b' r r' h h' hl hl' hg hgg hrr
    by_cases hne : b = n
    · by_cases hne' : b' = n
      · subst hne; subst hne'; rw [h] at h'; injection h' with h'; rw [h']
      · subst hne
        rw [updR_same] at h; injection h with h; subst h
        have := hs.bnd b' r' (old b' r' h' hne')
        simp at hrr; omega
    · by_cases hne' : b' = n
      · subst hne'
        rw [updR_same] at h'; injection h' with h'; subst h'
        have := hs.bnd b r (old b r h hne)
        simp at hrr; omega
      · have k1 := old b r h hne
        have k2 := old b' r' h' hne'
        rw [gold b hne] at hg hgg
        rw [gold b' hne'] at hgg
        exact hs.same b b' r r' k1 k2 ((lold b r k1 hne).1 hl) ((lold b' r' k2 hne').1 hl') hg hgg hrr
  · intro b r m c g kk s mm h hl hL hg
    by_cases hne : b = n
    · subst hne
      rw [upd_same] at hL; injection hL with hL; subst hL
      obtain ⟨h1, h2, h3, h4⟩ := hk
      subst h1
      simp [info, upd_same, h4]
    · have h' := old b r h hne
      rw [upd_ne _ _ hne] at hL
      have hg0 : grp L b = g := grp_of hL
      have := iold b r h' (by rw [hg0]; exact hg)
      rw [hg0] at this
      rw [this]
      exact hs.mx b r m c g kk s mm h' ((lold b r h' hne).1 hl) hL hg
  · intro b r h hg
    by_cases hne : b = n
    · subst hne; rw [updR_same] at h; injection h with h; subst h; exact hs.bs
    · rw [gold b hne] at hg; exact hs.rw b r (old b r h hne) hg
  · intro b r h hg
    by_cases hne : b = n
    · subst hne; rw [gn] at hg; omega
    · rw [gold b hne] at hg; exact hs.ro b r (old b r h hne) hg
  · intro b r h
    by_cases hne : b = n
    · subst hne; rw [updR_same] at h; injection h with h; subst h; simp; omega
    · have := hs.bnd b r (old b r h hne); omega
  · have := hs.bs; omega
  · intro b r h hg
    by_cases hne : b = n
    · subst hne; rw [gn]; exact ⟨⟨_, updR_same _ _ _⟩, gn⟩
    · have h' := old b r h hne
      rw [gold b hne] at hg ⊢
      obtain ⟨⟨q, hq⟩, h2⟩ := hs.ld b r h' hg
      exact ⟨⟨q, e.place _ _ hq⟩, by rw [gold _ ((ldne b r h').resolve_left hg)]; exact h2⟩
  · intro b m c g kk s mm hL hg
    by_cases hne : b = n
    · subst hne
      rw [upd_same] at hL; injection hL with hL; subst hL
      obtain ⟨h1, _⟩ := hk
      subst h1
      exact ⟨m, c, kk, s, mm, upd_same _ _ _⟩
    · rw [upd_ne _ _ hne] at hL
      obtain ⟨a1, a2, a3, a4, a5, a6⟩ := hs.kind b m c g kk s mm hL hg
      exact ⟨a1, a2, a3, a4, a5, by rw [upd_ne _ _ (by have := hf.ltL a6; omega)]; exact a6⟩

/-- A new box: no place. -/
def IsBox : Blk → Prop
  | .box .. => True
  | .poly .. => True
  | _ => False
theorem Sim.boxB {base : Nat} {ρ : Rho} {L : Look} {w : World} {n : Nat} (hs : Sim base ρ L w) (hf : Fresh n ρ L) {k : Blk} (hk : IsBox k) : Sim base ρ (upd L n k) w := by
  have e : Ext ρ L ρ (upd L n k) := .freshL hf _
  have ne : ∀ b r, ρ b = some r → b ≠ n := fun b r h => by have := hf.lt h; omega
  have gold : ∀ b r, ρ b = some r → grp (upd L n k) b = grp L b := fun b r h => grp_upd_ne (ne b r h)
  have ldne : ∀ b r, ρ b = some r → grp L b = 0 ∨ grp L b - 1 ≠ n := fun b r h => by
    by_cases h0 : grp L b = 0
    · exact .inl h0
    · obtain ⟨⟨q, hq⟩, _⟩ := hs.ld b r h h0
      have := hf.lt hq
      exact .inr (by omega)
  have lold : ∀ b r, ρ b = some r → (live (upd L n k) b ↔ live L b) := fun b r h => live_upd_ne (ne b r h) (ldne b r h)
  refine ⟨?_, ?_, ?_, ?_, ?_, ?_, ?_, ?_, ?_, ?_⟩
  · intro b r h
    obtain ⟨kk, h1, h2⟩ := hs.blk b r h
    exact ⟨kk, by rw [upd_ne _ _ (ne b r h)]; exact h1, fun hl => (h2 ((lold b r h).1 hl)).mono e rfl⟩
  · intro b b' r r' h h' hl hl' hg hg' hgg
    rw [gold b r h] at hg hgg
    rw [gold b' r' h'] at hg' hgg
    exact hs.sep b b' r r' h h' ((lold b r h).1 hl) ((lold b' r' h').1 hl') hg hg' hgg
  · intro b b' r r' h h' hl hl' hg hgg hrr
    rw [gold b r h] at hg hgg
    rw [gold b' r' h'] at hgg
    exact hs.same b b' r r' h h' ((lold b r h).1 hl) ((lold b' r' h').1 hl') hg hgg hrr
  · intro b r m' c' g kk s mm h hl hL hg
    rw [upd_ne _ _ (ne b r h)] at hL
    have hg0 : grp L b = g := grp_of hL
    have hi : info (upd L n k) (g - 1) = info L (g - 1) := info_upd_ne (by have := (ldne b r h).resolve_left (by rw [hg0]; exact hg); rw [hg0] at this; exact this)
    rw [hi]
    exact hs.mx b r m' c' g kk s mm h ((lold b r h).1 hl) hL hg
  · intro b r h hg
    rw [gold b r h] at hg; exact hs.rw b r h hg
  · intro b r h hg
    rw [gold b r h] at hg; exact hs.ro b r h hg
  · exact hs.bnd
  · exact hs.bs
  · intro b r h hg
    rw [gold b r h] at hg ⊢
    obtain ⟨⟨q, hq⟩, h2⟩ := hs.ld b r h hg
    exact ⟨⟨q, hq⟩, by rw [gold _ q hq]; exact h2⟩
  · intro b m' c' g kk s mm hL hg
    by_cases hne : b = n
    · subst hne; rw [upd_same] at hL; injection hL with hL; subst hL; exact hk.elim
    · rw [upd_ne _ _ hne] at hL
      obtain ⟨a1, a2, a3, a4, a5, a6⟩ := hs.kind b m' c' g kk s mm hL hg
      exact ⟨a1, a2, a3, a4, a5, by rw [upd_ne _ _ (by have := hf.ltL a6; omega)]; exact a6⟩

theorem Sim.box {base : Nat} {ρ : Rho} {L : Look} {w : World} {n : Nat} (hs : Sim base ρ L w) (hf : Fresh n ρ L) (kd m c : Nat) : Sim base ρ (upd L n (.box kd m c)) w := hs.boxB hf trivial

/-- Another world with the same heap. -/
theorem Sim.heap {base : Nat} {ρ : Rho} {L : Look} {w w' : World} (hs : Sim base ρ L w) (hw : w'.heap = w.heap) : Sim base ρ L w' :=
  ⟨fun b r h => let ⟨k, h1, h2⟩ := hs.blk b r h; ⟨k, h1, fun hl => (h2 hl).mono (Ext.refl _ _) (by rw [hw])⟩, hs.sep, hs.same, hs.mx, hs.rw, hs.ro, fun b r h => by rw [hw]; exact hs.bnd b r h, by rw [hw]; exact hs.bs, hs.ld, hs.kind⟩

/-- A block of its own group that is no row. -/
def NoRow : Blk → Prop
  | .loop .. => True
  | .defr => True
  | .gone => True
  | .opq _ ro => ro = 0
  | .mp .. => True
  | _ => False

theorem NoRow.grp {L : Look} {l : Nat} {k : Blk} (h : NoRow k) (hL : L l = some k) : grp L l = l + 1 := by
  cases k <;> simp_all [NoRow, Eng.grp]
theorem NoRow.info {L : Look} {l : Nat} {k : Blk} (h : NoRow k) (hL : L l = some k) : info L l = (l, 0, 0) := by
  cases k <;> simp_all [NoRow, Eng.info]
theorem NoRow.live {L : Look} {l : Nat} {k : Blk} (h : NoRow k) (hL : L l = some k) : live L l := by
  right; left; rw [h.grp hL, Nat.add_sub_cancel, h.info hL]

/-- One block that is no row turns into another. -/
theorem Sim.swap {base : Nat} {ρ : Rho} {L : Look} {w w' : World} {l : Nat} {r : Nat × Nat × Nat} {k0 k' : Blk} (hs : Sim base ρ L w) (hl : ρ l = some r) (hL : L l = some k0) (h0 : NoRow k0) (h1 : NoRow k')
    (e : Ext0 ρ L ρ (upd L l k')) (hw : ∀ x, x ≠ r.1 → w'.heap[x]? = w.heap[x]?) (hsz : w'.heap.size = w.heap.size) (hb : BR ρ (upd L l k') w' r k') : Sim base ρ (upd L l k') w' := by
  have gg : ∀ j, grp (upd L l k') j = grp L j := by
    intro j
    by_cases hj : j = l
    · subst hj; rw [h1.grp (upd_same _ _ _), h0.grp hL]
    · exact grp_upd_ne hj
  have ii : ∀ j, info (upd L l k') j = info L j := by
    intro j
    by_cases hj : j = l
    · subst hj; rw [h1.info (upd_same _ _ _), h0.info hL]
    · exact info_upd_ne hj
  have ll : ∀ j, live (upd L l k') j ↔ live L j := by intro j; unfold live; rw [gg, ii]
  refine ⟨?_, ?_, ?_, ?_, ?_, ?_, ?_, ?_, ?_, ?_⟩
  · intro j q hj
    by_cases hjl : j = l
    · subst hjl; rw [hl] at hj; injection hj with hj; subst hj
      exact ⟨k', upd_same _ _ _, fun _ => hb⟩
    · obtain ⟨k, hk, hbk⟩ := hs.blk j q hj
      refine ⟨k, by rw [upd_ne _ _ hjl]; exact hk, fun hlj => ?_⟩
      have hlj' := (ll j).1 hlj
      refine (hbk hlj').mono0 e (hw _ ?_)
      have gl : grp L l ≠ 0 := by rw [h0.grp hL]; omega
      by_cases hz : grp L j = 0
      · have a1 := hs.ro j q hj hz
        have a2 := hs.rw l r hl gl
        omega
      · refine hs.sep j l q r hj hl hlj' (h0.live hL) hz gl ?_
        rw [h0.grp hL]
        intro hg
        -- the leader of j would be l, which is no row; then j is l itself
        cases k with
        | cells nj cj gj kj sj mj =>
          rw [grp_of hk] at hg hz
          obtain ⟨_, _, _, _, _, hk2⟩ := hs.kind j _ _ _ _ _ _ hk hz
          rw [hg, Nat.add_sub_cancel, hL] at hk2
          injection hk2 with hk2; subst hk2; exact h0
        | box => simp [Eng.grp, hk] at hz
        | loop => simp [Eng.grp, hk] at hg; exact hjl hg
        | defr => simp [Eng.grp, hk] at hg; exact hjl hg
        | mp => simp [Eng.grp, hk] at hg; exact hjl hg
        | poly => simp [Eng.grp, hk] at hz
        | gone => simp [Eng.grp, hk] at hg; exact hjl hg
        | opq =>
          simp only [Eng.grp, hk] at hg
          split at hg
          · exact hjl (by omega)
          · omega
  · intro j j' q q' hj hj' hlj hlj' hg1 hg2 hgg
    rw [gg] at hg1 hg2 hgg
    rw [gg] at hgg
    exact hs.sep j j' q q' hj hj' ((ll j).1 hlj) ((ll j').1 hlj') hg1 hg2 hgg
  · intro j j' q q' hj hj' hlj hlj' hg1 hgg hrr
    rw [gg] at hg1 hgg
    rw [gg] at hgg
    exact hs.same j j' q q' hj hj' ((ll j).1 hlj) ((ll j').1 hlj') hg1 hgg hrr
  · intro j q m c g k s mm hj hlj hLj hg
    by_cases hjl : j = l
    · subst hjl; rw [upd_same] at hLj; injection hLj with hLj; subst hLj; exact h1.elim
    · rw [upd_ne _ _ hjl] at hLj; rw [ii]; exact hs.mx j q m c g k s mm hj ((ll j).1 hlj) hLj hg
  · intro j q hj h; rw [gg] at h; exact hs.rw j q hj h
  · intro j q hj h; rw [gg] at h; exact hs.ro j q hj h
  · intro j q hj; rw [hsz]; exact hs.bnd j q hj
  · rw [hsz]; exact hs.bs
  · intro j q hj h; rw [gg] at h ⊢; rw [gg]; exact hs.ld j q hj h
  · intro j m c g k s mm hLj hg
    by_cases hjl : j = l
    · subst hjl; rw [upd_same] at hLj; injection hLj with hLj; subst hLj; exact h1.elim
    · rw [upd_ne _ _ hjl] at hLj
      obtain ⟨a1, a2, a3, a4, a5, a6⟩ := hs.kind j m c g k s mm hLj hg
      refine ⟨a1, a2, a3, a4, a5, ?_⟩
      by_cases hgl : g - 1 = l
      · rw [hgl, hL] at a6; injection a6 with a6; subst a6; exact h0.elim
      · rw [upd_ne _ _ hgl]; exact a6

end Go.Eng
