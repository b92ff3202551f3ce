/- Blocks that the evaluator has made and the machine has not, and their making. -/
import Derived.Test.YthcdiaahpodkoabEngMa
namespace Go.Eng
set_option linter.unusedSectionVars false
set_option linter.unusedSimpArgs false
set_option linter.unusedVariables false
open Go Go.RowKit
variable [E : Env]

section
variable {base n len ch : Nat} {H : Trie} {ρ : Rho} {L : Look} {w w' : World}

/-- A block without a place. -/
theorem Ctx.bare (c : Ctx base H n ρ L w) (hn : n < 16384) (len ch : Nat) :
    Ctx base (hset H n (.cells len ch (n + 1) n n len)) (n + 1) ρ (upd L n (.cells len ch (n + 1) n n len)) w := by
  have hs := c.sim
  have hf := c.fresh
  have e : Ext ρ L ρ (upd L n (.cells len ch (n + 1) n n len)) := .freshL hf _
  have ne : ∀ b r, ρ b = some r → b ≠ n := fun b r h => by have := hf.lt h; omega
  have gold : ∀ b r, ρ b = some r → grp (upd L n (.cells len ch (n + 1) n n len)) b = grp L b := fun b r h => grp_upd_ne (ne b r h)
  have ldne : ∀ b r, ρ b = some r → grp L b = 0 ∨ grp L b - 1 ≠ n := fun b r h => by
    by_cases h0 : grp L b = 0
    · exact .inl h0
    · obtain ⟨⟨q, hq⟩, _⟩ := hs.ld b r h h0
      have := hf.lt hq
      exact .inr (by omega)
  have lold : ∀ b r, ρ b = some r → (live (upd L n (.cells len ch (n + 1) n n len)) b ↔ live L b) := fun b r h => live_upd_ne (ne b r h) (ldne b r h)
  refine ⟨⟨?_, ?_, ?_, ?_, ?_, ?_, hs.bnd, hs.bs, ?_, ?_⟩, c.agree.hset hn _, hf.updL _⟩
  · intro b r h
    obtain ⟨kk, h1, h2⟩ := hs.blk b r h
    exact ⟨kk, by rw [upd_ne _ _ (ne b r h)]; exact h1, fun hl => (h2 ((lold b r h).1 hl)).mono e rfl⟩
  · intro b b' r r' h h' hl hl' hg hg' hgg
    rw [gold b r h] at hg hgg
    rw [gold b' r' h'] at hg' hgg
    exact hs.sep b b' r r' h h' ((lold b r h).1 hl) ((lold b' r' h').1 hl') hg hg' hgg
  · intro b b' r r' h h' hl hl' hg hgg hrr
    rw [gold b r h] at hg hgg
    rw [gold b' r' h'] at hgg
    exact hs.same b b' r r' h h' ((lold b r h).1 hl) ((lold b' r' h').1 hl') hg hgg hrr
  · intro b r m' c' g kk s mm h hl hL hg
    rw [upd_ne _ _ (ne b r h)] at hL
    have hg0 : grp L b = g := grp_of hL
    have hi : info (upd L n (.cells len ch (n + 1) n n len)) (g - 1) = info L (g - 1) := info_upd_ne (by have := (ldne b r h).resolve_left (by rw [hg0]; exact hg); rw [hg0] at this; exact this)
    rw [hi]
    exact hs.mx b r m' c' g kk s mm h ((lold b r h).1 hl) hL hg
  · intro b r h hg
    rw [gold b r h] at hg; exact hs.rw b r h hg
  · intro b r h hg
    rw [gold b r h] at hg; exact hs.ro b r h hg
  · intro b r h hg
    rw [gold b r h] at hg ⊢
    obtain ⟨⟨q, hq⟩, h2⟩ := hs.ld b r h hg
    exact ⟨⟨q, hq⟩, by rw [gold _ q hq]; exact h2⟩
  · intro b m' c' g kk s mm hL hg
    by_cases hne : b = n
    · subst hne
      rw [upd_same] at hL; injection hL with hL; injection hL with q1 q2 q3
      exact ⟨len, ch, b, b, len, by rw [← q3]; exact upd_same _ _ _⟩
    · rw [upd_ne _ _ hne] at hL
      obtain ⟨a1, a2, a3, a4, a5, a6⟩ := hs.kind b m' c' g kk s mm hL hg
      exact ⟨a1, a2, a3, a4, a5, by rw [upd_ne _ _ (by have := hf.ltL a6; omega)]; exact a6⟩

/-- The machine makes it. -/
theorem Ctx.made {i : Nat} (c : Ctx base H n ρ L w) (hi : i < n) (hρ : ρ i = none) (hL : L i = some (.cells len ch (i + 1) i i len))
    {cs : Array Value} {ty : TypeId} (hw : w'.heap = w.heap.push (.cells cs ty (0, 0))) (hlen : len ≤ cs.size)
    (hc : ∀ j, j < len → ∃ v, cs[j]? = some v ∧ VR ρ L (getW ch j) v ∧ storable (getW ch j) = true) :
    Ctx base H n (updR ρ i (w.heap.size, 0, cs.size)) L w' ∧ Ext ρ L (updR ρ i (w.heap.size, 0, cs.size)) L := by
  have hs := c.sim
  have hsz : w'.heap.size = w.heap.size + 1 := by rw [hw]; simp
  have hold : ∀ x, x < w.heap.size → w'.heap[x]? = w.heap[x]? := fun x hx => by rw [hw, Array.getElem?_push, if_neg (by omega)]
  have ne : ∀ b r, ρ b = some r → b ≠ i := fun b r h hb => by rw [hb, hρ] at h; cases h
  have e : Ext ρ L (updR ρ i (w.heap.size, 0, cs.size)) L := ⟨⟨fun b r h => by rw [updR_ne _ _ (ne b r h)]; exact h, fun _ _ _ _ h => h, fun _ _ _ _ _ _ _ h => h, fun _ h => h⟩, fun _ h => h⟩
  have old : ∀ b r, updR ρ i (w.heap.size, 0, cs.size) b = some r → b ≠ i → ρ b = some r := fun b r h hne => by rw [updR_ne _ _ hne] at h; exact h
  have gi : grp L i = i + 1 := grp_of hL
  have ldne : ∀ b r, ρ b = some r → grp L b ≠ 0 → grp L b ≠ i + 1 := fun b r h h0 hg => by
    obtain ⟨⟨q, hq⟩, _⟩ := hs.ld b r h h0
    rw [hg] at hq
    simp at hq
    rw [hρ] at hq; cases hq
  refine ⟨⟨⟨?_, ?_, ?_, ?_, ?_, ?_, ?_, ?_, ?_, hs.kind⟩, c.agree, fun b hb => ?_⟩, e⟩
  · intro b r h
    by_cases hne : b = i
    · subst hne
      rw [updR_same] at h; injection h with h; subst h
      refine ⟨_, hL, fun _ => ⟨cs, ty, (0, 0), by rw [hw]; simp, by simp, hlen, fun _ => rfl, fun j hj => ?_⟩⟩
      obtain ⟨v, a1, a2, a3⟩ := hc j hj
      exact ⟨v, by simpa using a1, a2.mono e, a3⟩
    · have h' := old b r h hne
      obtain ⟨kk, h1, h2⟩ := hs.blk b r h'
      exact ⟨kk, h1, fun hl => (h2 hl).mono e (hold _ (hs.bnd b r h'))⟩
  · intro b b' r r' h h' hl hl' hg hg' hgg
    by_cases hne : b = i
    · by_cases hne' : b' = i
      · subst hne; subst hne'; exact absurd rfl hgg
      · subst hne
        rw [updR_same] at h; injection h with h; subst h
        have := hs.bnd b' r' (old b' r' h' hne')
        simp; omega
    · by_cases hne' : b' = i
      · subst hne'
        rw [updR_same] at h'; injection h' with h'; subst h'
        have := hs.bnd b r (old b r h hne)
        simp; omega
      · exact hs.sep b b' r r' (old b r h hne) (old b' r' h' hne') hl hl' hg hg' hgg
  · intro b b' r r' h h' hl hl' hg hgg hrr
    by_cases hne : b = i
    · by_cases hne' : b' = i
      · subst hne; subst hne'; rw [h] at h'; injection h' with h'; rw [h']
      · subst hne
        rw [updR_same] at h; injection h with h; subst h
        have := hs.bnd b' r' (old b' r' h' hne')
        simp at hrr; omega
    · by_cases hne' : b' = i
      · subst hne'
        rw [updR_same] at h'; injection h' with h'; subst h'
        have := hs.bnd b r (old b r h hne)
        simp at hrr; omega
      · exact hs.same b b' r r' (old b r h hne) (old b' r' h' hne') hl hl' hg hgg hrr
  · intro b r m c' g kk s mm h hl hLb hg
    by_cases hne : b = i
    · subst hne
      rw [hL] at hLb; injection hLb with hLb; injection hLb with q1 q2 q3 q4 q5 q6
      subst q3
      simp only [Nat.add_sub_cancel, info, hL]
      omega
    · exact hs.mx b r m c' g kk s mm (old b r h hne) hl hLb hg
  · intro b r h hg
    by_cases hne : b = i
    · subst hne; rw [updR_same] at h; injection h with h; subst h; exact hs.bs
    · exact hs.rw b r (old b r h hne) hg
  · intro b r h hg
    by_cases hne : b = i
    · subst hne; rw [gi] at hg; omega
    · exact hs.ro b r (old b r h hne) hg
  · intro b r h
    by_cases hne : b = i
    · subst hne; rw [updR_same] at h; injection h with h; subst h; simp; omega
    · have := hs.bnd b r (old b r h hne); omega
  · have := hs.bs; omega
  · intro b r h hg
    by_cases hne : b = i
    · subst hne; rw [gi]; exact ⟨⟨_, updR_same _ _ _⟩, gi⟩
    · have h' := old b r h hne
      obtain ⟨⟨q, hq⟩, h2⟩ := hs.ld b r h' hg
      exact ⟨⟨q, e.place _ _ hq⟩, h2⟩
  · obtain ⟨a1, a2⟩ := c.fresh b hb
    exact ⟨a1, by rw [updR_ne _ _ (by omega)]; exact a2⟩
end
end Go.Eng
