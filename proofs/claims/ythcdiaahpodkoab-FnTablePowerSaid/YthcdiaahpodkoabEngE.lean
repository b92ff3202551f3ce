/- The relation is kept: a store into a row, a row appended to. -/
import Derived.Test.YthcdiaahpodkoabEngD
namespace Go.Eng
set_option linter.unusedSectionVars false
set_option linter.unusedSimpArgs false
set_option linter.unusedVariables false
open Go Go.RowKit
variable [E : Env]

/-- L' is L, but for the row b, which has new cells, and for what the leader l says of its group. -/
structure Relab (L L' : Look) (b l g n' c' K S M : Nat) : Prop where
  here : ∃ k s m, L' b = some (.cells n' c' g k s m)
  lead : info L' l = (K, S, M)
  other : ∀ j, j ≠ b → L' j = L j ∨ (j = l ∧ ∃ n c gg k s m k' s' m', L j = some (.cells n c gg k s m) ∧ L' j = some (.cells n c gg k' s' m'))

section
variable {L L' : Look} {b l g n' c' K S M nb cb kb sb mb : Nat}
theorem Relab.grp (h : Relab L L' b l g n' c' K S M) (hL : L b = some (.cells nb cb g kb sb mb)) (j : Nat) : grp L' j = grp L j := by
  by_cases hj : j = b
  · subst hj
    obtain ⟨k, s, m, h1⟩ := h.here
    rw [grp_of h1, grp_of hL]
  · rcases h.other j hj with h1 | ⟨_, n, c, gg, k, s, m, k', s', m', h1, h2⟩
    · simp [Eng.grp, h1]
    · rw [grp_of h1, grp_of h2]
theorem Relab.info (h : Relab L L' b l g n' c' K S M) {j : Nat} (hb : j ≠ b) (hl : j ≠ l) : info L' j = info L j := by
  rcases h.other j hb with h1 | ⟨h1, _⟩
  · simp [Eng.info, h1]
  · exact absurd h1 hl
theorem Relab.none (h : Relab L L' b l g n' c' K S M) (hL : L b = some (.cells nb cb g kb sb mb)) {j : Nat} (hj : L j = none) : L' j = none := by
  by_cases hb : j = b
  · subst hb; rw [hL] at hj; cases hj
  · rcases h.other j hb with h1 | ⟨_, n, c, gg, k, s, m, k', s', m', h1, h2⟩
    · rw [h1]; exact hj
    · rw [h1] at hj; cases hj
theorem Relab.ext (h : Relab L L' b l g n' c' K S M) (hL : L b = some (.cells nb cb g kb sb mb)) (ρ : Rho) : Ext ρ L ρ L' := by
  have df : ∀ j, IsDf (L j) → L' j = L j := by
    intro j hj
    by_cases hb : j = b
    · subst hb; rw [hL] at hj; rcases hj with hj | hj <;> cases hj
    · rcases h.other j hb with h1 | ⟨_, n, c, gg, k, s, m, k', s', m', h1, h2⟩
      · exact h1
      · rw [h1] at hj; rcases hj with hj | hj <;> cases hj
  refine ⟨⟨fun _ _ x => x, fun j kd m c hj => ?_, fun j p q s d lo hi hj => ?_, fun j hj => by rw [df j hj]; exact hj⟩, fun j hj => by rw [df j (.inl hj)]; exact hj⟩
  all_goals
    by_cases hb : j = b
    · subst hb; rw [hL] at hj; cases hj
    · rcases h.other j hb with h1 | ⟨_, n, c, gg, k, s, m, k', s', m', h1, h2⟩
      · rw [h1]; exact hj
      · rw [h1] at hj; cases hj
theorem Relab.kind (h : Relab L L' b l g n' c' K S M) (hL : L b = some (.cells nb cb g kb sb mb)) {j : Nat} :
    (∃ n c gg k s m, L j = some (.cells n c gg k s m)) ↔ (∃ n c gg k s m, L' j = some (.cells n c gg k s m)) := by
  by_cases hb : j = b
  · subst hb
    obtain ⟨k, s, m, h1⟩ := h.here
    exact ⟨fun _ => ⟨_, _, _, _, _, _, h1⟩, fun _ => ⟨_, _, _, _, _, _, hL⟩⟩
  · rcases h.other j hb with h1 | ⟨_, n, c, gg, k, s, m, k', s', m', h1, h2⟩
    · rw [h1]
    · exact ⟨fun _ => ⟨_, _, _, _, _, _, h2⟩, fun _ => ⟨_, _, _, _, _, _, h1⟩⟩
end

/-- What a row's block says, apart from its group's words. -/
theorem BR.words {ρ : Rho} {L : Look} {w : World} {r : Nat × Nat × Nat} {n c g k s m k' s' m' : Nat} (h : BR ρ L w r (.cells n c g k s m)) : BR ρ L w r (.cells n c g k' s' m') := h

/-- The row b has new cells: all others of its group are forgotten. -/
theorem Sim.own {base : Nat} {ρ : Rho} {L L' : Look} {w w' : World} {b next nb cb g kb sb mb n' c' ty : Nat} {r : Nat × Nat × Nat} {cs' : Array Value}
    (hs : Sim base ρ L w) (hf : Fresh next ρ L) (hb : ρ b = some r) (hl : live L b) (hL : L b = some (.cells nb cb g kb sb mb)) (hg : g ≠ 0)
    (hR : Relab L L' b (g - 1) g n' c' b next n')
    (hw : ∀ x, x ≠ r.1 → w'.heap[x]? = w.heap[x]?) (hsz : w'.heap.size = w.heap.size) (hr : w'.heap[r.1]? = some (.cells cs' ty (0, 0)))
    (h1 : r.2.1 + r.2.2 ≤ cs'.size) (h2 : n' ≤ r.2.2) (hc : ∀ i, i < n' → ∃ v, cs'[r.2.1 + i]? = some v ∧ VR ρ L (getW c' i) v ∧ storable (getW c' i) = true) : Sim base ρ L' w' := by
  have e : Ext ρ L ρ L' := hR.ext hL ρ
  have gg : ∀ j, Eng.grp L' j = Eng.grp L j := hR.grp hL
  have hgb : Eng.grp L b = g := grp_of hL
  obtain ⟨kk, ss, mm, hLb⟩ := hR.here
  -- who lives in the group of b: b alone
  have only : ∀ j q, ρ j = some q → Eng.grp L j = g → live L' j → j = b := by
    intro j q hj hgj hlj
    have := hf.lt hj
    rcases hlj with h0 | h0 | h0
    · rw [gg, hgj] at h0; exact absurd h0 hg
    · rw [gg, hgj, hR.lead] at h0; exact h0.symm
    · rw [gg, hgj, hR.lead] at h0; simp at h0; omega
  -- leaders of other groups
  have ldr : ∀ j q, ρ j = some q → Eng.grp L j ≠ 0 → Eng.grp L j ≠ g → Eng.info L' (Eng.grp L j - 1) = Eng.info L (Eng.grp L j - 1) := by
    intro j q hj h0 hne
    have hld := hs.ld j q hj h0
    refine hR.info (fun h => ?_) (by omega)
    rw [h, hgb] at hld; exact hne hld.2.symm
  have lother : ∀ j q, ρ j = some q → Eng.grp L j ≠ g → (live L' j ↔ live L j) := by
    intro j q hj hne
    unfold live
    rw [gg]
    by_cases h0 : Eng.grp L j = 0
    · simp [h0]
    · rw [ldr j q hj h0 hne]
  have hlb' : live L' b := by right; left; rw [gg, hgb, hR.lead]
  refine ⟨?_, ?_, ?_, ?_, ?_, ?_, ?_, ?_, ?_, ?_⟩
  · intro j q hj
    by_cases hjb : j = b
    · subst hjb
      rw [hb] at hj; injection hj with hj; subst hj
      exact ⟨_, hLb, fun _ => ⟨cs', ty, (0, 0), hr, h1, h2, fun _ => rfl, fun i hi => let ⟨v, a, c, d⟩ := hc i hi; ⟨v, a, c.mono e, d⟩⟩⟩
    · obtain ⟨k0, hk0, hb0⟩ := hs.blk j q hj
      have step : live L' j → BR ρ L' w' q k0 := by
        intro hlj
        by_cases hgj : Eng.grp L j = g
        · exact absurd (only j q hj hgj hlj) hjb
        · have hl0 := (lother j q hj hgj).1 hlj
          have hne : q.1 ≠ r.1 := by
            by_cases h0 : Eng.grp L j = 0
            · have a1 := hs.ro j q hj h0
              have a2 := hs.rw b r hb (by rw [hgb]; exact hg)
              omega
            · exact hs.sep j b q r hj hb hl0 hl h0 (by rw [hgb]; exact hg) (by rw [hgb]; exact hgj)
          exact (hb0 hl0).mono e (hw _ hne)
      rcases hR.other j hjb with h3 | ⟨_, n, c, g3, k, s, m, k', s', m', h3, h4⟩
      · exact ⟨k0, by rw [h3]; exact hk0, step⟩
      · rw [hk0] at h3; injection h3 with h3; subst h3
        exact ⟨_, h4, step⟩
  · intro j j' q q' hj hj' hlj hlj' hg1 hg2 hgg
    rw [gg] at hg1 hgg
    rw [gg] at hg2 hgg
    have old : ∀ x p, ρ x = some p → live L' x → live L x := fun x p hx hlx => by
      by_cases hgx : Eng.grp L x = g
      · have := only x p hx hgx hlx; subst this; exact hl
      · exact (lother x p hx hgx).1 hlx
    exact hs.sep j j' q q' hj hj' (old j q hj hlj) (old j' q' hj' hlj') hg1 hg2 hgg
  · intro j j' q q' hj hj' hlj hlj' hg1 hgg hrr
    rw [gg] at hg1 hgg
    rw [gg] at hgg
    have old : ∀ x p, ρ x = some p → live L' x → live L x := fun x p hx hlx => by
      by_cases hgx : Eng.grp L x = g
      · have := only x p hx hgx hlx; subst this; exact hl
      · exact (lother x p hx hgx).1 hlx
    exact hs.same j j' q q' hj hj' (old j q hj hlj) (old j' q' hj' hlj') hg1 hgg hrr
  · intro j q n c g3 k s m hj hlj hLj hg3
    have hgj : Eng.grp L j = g3 := by rw [← gg]; exact grp_of hLj
    by_cases hg4 : g3 = g
    · subst hg4
      have := only j q hj hgj hlj
      subst this
      rw [hLb] at hLj; injection hLj with hLj; injection hLj with e1
      subst e1
      rw [hR.lead]; exact Nat.le_refl _
    · have hlj0 := (lother j q hj (by rw [hgj]; exact hg4)).1 hlj
      have hi := ldr j q hj (by rw [hgj]; exact hg3) (by rw [hgj]; exact hg4)
      rw [hgj] at hi
      rw [hi]
      have hjb : j ≠ b := fun h => by subst h; exact hg4 (hgj.symm.trans hgb)
      rcases hR.other j hjb with h3 | ⟨_, n0, c0, g0, k0, s0, m0, k', s', m', h3, h4⟩
      · rw [h3] at hLj; exact hs.mx j q n c g3 k s m hj hlj0 hLj hg3
      · rw [h4] at hLj; injection hLj with hLj; injection hLj with e1 e2 e3
        subst e1; subst e2; subst e3
        exact hs.mx j q _ _ _ _ _ _ hj hlj0 h3 hg3
  · intro j q hj h0; rw [gg] at h0; exact hs.rw j q hj h0
  · intro j q hj h0; rw [gg] at h0; exact hs.ro j q hj h0
  · intro j q hj; rw [hsz]; exact hs.bnd j q hj
  · rw [hsz]; exact hs.bs
  · intro j q hj h0; rw [gg] at h0 ⊢; rw [gg]; exact hs.ld j q hj h0
  · intro j n c g3 k s m hLj hg3
    obtain ⟨a1, a2, a3, a4, a5, a6, a7⟩ := (hR.kind hL).2 ⟨n, c, g3, k, s, m, hLj⟩
    have hgj : a3 = g3 := by rw [← grp_of a7, ← gg, grp_of hLj]
    subst hgj
    obtain ⟨b1, b2, b3, b4, b5, b6⟩ := hs.kind j _ _ _ _ _ _ a7 hg3
    obtain ⟨d1, d2, d3, d4, d5, d6, d7⟩ := (hR.kind hL).1 ⟨_, _, _, _, _, _, b6⟩
    have : d3 = a3 := by rw [← grp_of d7, gg, grp_of b6]
    subst this
    exact ⟨d1, d2, d4, d5, d6, d7⟩

/-- A new member of the group of b: the row 'next'. The leader says K, S, M from now on. -/
theorem Sim.member {base : Nat} {ρ : Rho} {L L1 : Look} {w w' : World} {b next nb cb g kb sb mb n' c' K S M : Nat} {r q : Nat × Nat × Nat}
    (hs : Sim base ρ L w) (hf : Fresh next ρ L) (hb : ρ b = some r) (hl : live L b) (hL : L b = some (.cells nb cb g kb sb mb)) (hg : g ≠ 0)
    (hR : Relab L L1 b (g - 1) g nb cb K S M)
    (hw : ∀ x, x < w.heap.size → x ≠ q.1 → w'.heap[x]? = w.heap[x]?) (hsz : w.heap.size ≤ w'.heap.size) (hq1 : q.1 < w'.heap.size)
    (hq : q.1 = r.1 ∨ w.heap.size ≤ q.1) (hM : n' ≤ M)
    (keep : ∀ j p, ρ j = some p → Eng.grp L j = g → (K = j ∨ S ≤ j) → live L j ∧ (∀ k, L j = some k → BR ρ L w p k → BR ρ L w' p k) ∧ (p.1 = q.1 → p.2.1 = q.2.1) ∧
      (∀ n c k s m, L j = some (.cells n c g k s m) → n ≤ M))
    (hnew : BR (updR ρ next q) (upd L1 next (.cells n' c' g 0 0 0)) w' q (.cells n' c' g 0 0 0)) : Sim base (updR ρ next q) (upd L1 next (.cells n' c' g 0 0 0)) w' := by
  have hbn : b < next := hf.lt hb
  have hLn : L1 next = none := hR.none hL (hf next (Nat.le_refl _)).1
  have e1 : Ext ρ L ρ L1 := hR.ext hL ρ
  have hf1 : Fresh next ρ L1 := fun j hj => ⟨hR.none hL (hf j hj).1, (hf j hj).2⟩
  have e : Ext ρ L (updR ρ next q) (upd L1 next (.cells n' c' g 0 0 0)) := e1.trans (.fresh hf1 _ _)
  have gg : ∀ j, j ≠ next → Eng.grp (upd L1 next (.cells n' c' g 0 0 0)) j = Eng.grp L j := fun j hj => by rw [grp_upd_ne hj, hR.grp hL]
  have gn : Eng.grp (upd L1 next (.cells n' c' g 0 0 0)) next = g := by simp [Eng.grp, upd_same]
  have hgb : Eng.grp L b = g := grp_of hL
  have hlead : g - 1 < next := by
    obtain ⟨⟨p, hp⟩, _⟩ := hs.ld b r hb (by rw [hgb]; exact hg)
    rw [hgb] at hp; exact hf.lt hp
  have hlg : Eng.grp L (g - 1) = g := by have := (hs.ld b r hb (by rw [hgb]; exact hg)).2; rw [hgb] at this; exact this
  have hil : Eng.info (upd L1 next (.cells n' c' g 0 0 0)) (g - 1) = (K, S, M) := by rw [info_upd_ne (by omega)]; exact hR.lead
  have old : ∀ j p, updR ρ next q j = some p → j ≠ next → ρ j = some p := fun j p h hne => by rw [updR_ne _ _ hne] at h; exact h
  have ldr : ∀ j p, ρ j = some p → Eng.grp L j ≠ 0 → Eng.grp L j ≠ g → Eng.info (upd L1 next (.cells n' c' g 0 0 0)) (Eng.grp L j - 1) = Eng.info L (Eng.grp L j - 1) := by
    intro j p hj h0 hne
    have hld := hs.ld j p hj h0
    obtain ⟨⟨p', hp'⟩, hld2⟩ := hld
    have := hf.lt hp'
    rw [info_upd_ne (by omega)]
    refine hR.info (fun h => ?_) (by omega)
    rw [h, hgb] at hld2; exact hne hld2.symm
  have lother : ∀ j p, ρ j = some p → Eng.grp L j ≠ g → (live (upd L1 next (.cells n' c' g 0 0 0)) j ↔ live L j) := by
    intro j p hj hne
    have hjn : j ≠ next := by have := hf.lt hj; omega
    unfold live
    rw [gg j hjn]
    by_cases h0 : Eng.grp L j = 0
    · simp [h0]
    · rw [ldr j p hj h0 hne]
  have lmine : ∀ j p, ρ j = some p → Eng.grp L j = g → live (upd L1 next (.cells n' c' g 0 0 0)) j → K = j ∨ S ≤ j := by
    intro j p hj hgj h
    have hjn : j ≠ next := by have := hf.lt hj; omega
    rcases h with h0 | h0 | h0
    · rw [gg j hjn, hgj] at h0; exact absurd h0 hg
    · rw [gg j hjn, hgj, hil] at h0; exact .inl h0
    · rw [gg j hjn, hgj, hil] at h0; exact .inr h0
  have lold : ∀ j p, ρ j = some p → live (upd L1 next (.cells n' c' g 0 0 0)) j → live L j := by
    intro j p hj h
    by_cases hgj : Eng.grp L j = g
    · exact (keep j p hj hgj (lmine j p hj hgj h)).1
    · exact (lother j p hj hgj).1 h
  have Lold : ∀ j, j ≠ next → ∀ k, L j = some k → ∃ k', upd L1 next (.cells n' c' g 0 0 0) j = some k' ∧ (∀ p w0, BR ρ L w0 p k → BR ρ L w0 p k') ∧
      (∀ n c g3 kk s m, k' = .cells n c g3 kk s m → ∃ kk s m, k = .cells n c g3 kk s m) := by
    intro j hj k hk
    rw [upd_ne _ _ hj]
    by_cases hjb : j = b
    · subst hjb
      obtain ⟨k1, s1, m1, h1⟩ := hR.here
      rw [hL] at hk; injection hk with hk; subst hk
      exact ⟨_, h1, fun _ _ x => x, fun n c g3 kk s m x => by injection x with a1 a2 a3; subst a1; subst a2; subst a3; exact ⟨_, _, _, rfl⟩⟩
    · rcases hR.other j hjb with h3 | ⟨_, n0, c0, g0, k0, s0, m0, k', s', m', h3, h4⟩
      · exact ⟨k, by rw [h3]; exact hk, fun _ _ x => x, fun n c g3 kk s m x => ⟨_, _, _, x⟩⟩
      · rw [h3] at hk; injection hk with hk; subst hk
        exact ⟨_, h4, fun _ _ x => x, fun n c g3 kk s m x => by injection x with a1 a2 a3; subst a1; subst a2; subst a3; exact ⟨_, _, _, rfl⟩⟩
  have qother : ∀ j p, ρ j = some p → live L j → Eng.grp L j ≠ g → p.1 ≠ q.1 := by
    intro j p hj hlj hgj
    rcases hq with h0 | h0
    · rw [h0]
      by_cases h1 : Eng.grp L j = 0
      · have a1 := hs.ro j p hj h1
        have a2 := hs.rw b r hb (by rw [hgb]; exact hg)
        omega
      · exact hs.sep j b p r hj hb hlj hl h1 (by rw [hgb]; exact hg) (by rw [hgb]; exact hgj)
    · have := hs.bnd j p hj; omega
  refine ⟨?_, ?_, ?_, ?_, ?_, ?_, ?_, ?_, ?_, ?_⟩
  · intro j p hj
    by_cases hne : j = next
    · subst hne
      rw [updR_same] at hj; injection hj with hj; subst hj
      exact ⟨_, upd_same _ _ _, fun _ => hnew⟩
    · have hj' := old j p hj hne
      obtain ⟨k0, hk0, hb0⟩ := hs.blk j p hj'
      obtain ⟨k', hk', hbr, _⟩ := Lold j hne k0 hk0
      refine ⟨k', hk', fun hlj => ?_⟩
      have hl0 := lold j p hj' hlj
      by_cases hgj : Eng.grp L j = g
      · exact (hbr p w' ((keep j p hj' hgj (lmine j p hj' hgj hlj)).2.1 k0 hk0 (hb0 hl0))).mono e rfl
      · exact (hbr p w (hb0 hl0)).mono e (hw _ (hs.bnd j p hj') (qother j p hj' hl0 hgj))
  · intro j j' p p' hj hj' hlj hlj' hg1 hg2 hgg
    by_cases hne : j = next
    · by_cases hne' : j' = next
      · subst hne; subst hne'; exact absurd rfl hgg
      · subst hne
        rw [updR_same] at hj; injection hj with hj; subst hj
        have h2 := old j' p' hj' hne'
        rw [gn, gg j' hne'] at hgg
        exact (qother j' p' h2 (lold j' p' h2 hlj') (fun h => hgg h.symm)).symm
    · by_cases hne' : j' = next
      · subst hne'
        rw [updR_same] at hj'; injection hj' with hj'; subst hj'
        have h2 := old j p hj hne
        rw [gn, gg j hne] at hgg
        exact qother j p h2 (lold j p h2 hlj) hgg
      · have h1 := old j p hj hne
        have h2 := old j' p' hj' hne'
        rw [gg j hne] at hg1 hgg
        rw [gg j' hne'] at hg2 hgg
        exact hs.sep j j' p p' h1 h2 (lold j p h1 hlj) (lold j' p' h2 hlj') hg1 hg2 hgg
  · intro j j' p p' hj hj' hlj hlj' hg1 hgg hrr
    by_cases hne : j = next
    · by_cases hne' : j' = next
      · subst hne; subst hne'; rw [hj] at hj'; injection hj' with hj'; rw [hj']
      · subst hne
        rw [updR_same] at hj; injection hj with hj; subst hj
        have h2 := old j' p' hj' hne'
        rw [gn, gg j' hne'] at hgg
        exact ((keep j' p' h2 hgg.symm (lmine j' p' h2 hgg.symm hlj')).2.2.1 hrr.symm).symm
    · by_cases hne' : j' = next
      · subst hne'
        rw [updR_same] at hj'; injection hj' with hj'; subst hj'
        have h2 := old j p hj hne
        rw [gn, gg j hne] at hgg
        exact (keep j p h2 hgg (lmine j p h2 hgg hlj)).2.2.1 hrr
      · have h1 := old j p hj hne
        have h2 := old j' p' hj' hne'
        rw [gg j hne] at hg1 hgg
        rw [gg j' hne'] at hgg
        exact hs.same j j' p p' h1 h2 (lold j p h1 hlj) (lold j' p' h2 hlj') hg1 hgg hrr
  · intro j p n c g3 k s m hj hlj hLj hg3
    by_cases hne : j = next
    · subst hne
      rw [upd_same] at hLj; injection hLj with hLj; injection hLj with a1 a2 a3
      subst a1; subst a3
      rw [hil]; exact hM
    · have hj' := old j p hj hne
      obtain ⟨k0, hk0, hb0⟩ := hs.blk j p hj'
      obtain ⟨k', hk', _, hback⟩ := Lold j hne k0 hk0
      rw [hLj] at hk'; injection hk' with hk'
      obtain ⟨k2, s2, m2, h2⟩ := hback _ _ _ _ _ _ hk'.symm
      subst h2
      have hgj : Eng.grp L j = g3 := grp_of hk0
      by_cases hg4 : g3 = g
      · subst hg4
        rw [hil]
        exact (keep j p hj' hgj (lmine j p hj' hgj hlj)).2.2.2 _ _ _ _ _ hk0
      · have hi := ldr j p hj' (by rw [hgj]; exact hg3) (by rw [hgj]; exact hg4)
        rw [hgj] at hi
        rw [hi]
        exact hs.mx j p _ _ _ _ _ _ hj' (lold j p hj' hlj) hk0 hg3
  · intro j p hj h0
    by_cases hne : j = next
    · subst hne
      rw [updR_same] at hj; injection hj with hj; subst hj
      rcases hq with h1 | h1
      · rw [h1]; exact hs.rw b r hb (by rw [hgb]; exact hg)
      · have := hs.bs; omega
    · rw [gg j hne] at h0; exact hs.rw j p (old j p hj hne) h0
  · intro j p hj h0
    by_cases hne : j = next
    · subst hne; rw [gn] at h0; exact absurd h0 hg
    · rw [gg j hne] at h0; exact hs.ro j p (old j p hj hne) h0
  · intro j p hj
    by_cases hne : j = next
    · subst hne; rw [updR_same] at hj; injection hj with hj; subst hj; exact hq1
    · have := hs.bnd j p (old j p hj hne); omega
  · have := hs.bs; omega
  · intro j p hj h0
    by_cases hne : j = next
    · subst hne
      rw [gn]
      obtain ⟨⟨p', hp'⟩, _⟩ := hs.ld b r hb (by rw [hgb]; exact hg)
      rw [hgb] at hp'
      exact ⟨⟨p', e.place _ _ hp'⟩, by rw [gg _ (by omega)]; exact hlg⟩
    · rw [gg j hne] at h0 ⊢
      obtain ⟨⟨p', hp'⟩, h2⟩ := hs.ld j p (old j p hj hne) h0
      exact ⟨⟨p', e.place _ _ hp'⟩, by rw [gg _ (by have := hf.lt hp'; omega)]; exact h2⟩
  · intro j n c g3 k s m hLj hg3
    by_cases hne : j = next
    · subst hne
      rw [upd_same] at hLj; injection hLj with hLj; injection hLj with a1 a2 a3
      subst a3
      obtain ⟨b1, b2, b3, b4, b5, b6⟩ := hs.kind b _ _ _ _ _ _ hL hg
      obtain ⟨d1, d2, d3, d4, d5, d6, d7⟩ := (hR.kind hL).1 ⟨_, _, _, _, _, _, b6⟩
      have : d3 = g := by rw [← grp_of d7, hR.grp hL, grp_of b6]
      subst this
      exact ⟨d1, d2, d4, d5, d6, by rw [upd_ne _ _ (by omega)]; exact d7⟩
    · rw [upd_ne _ _ hne] at hLj
      obtain ⟨a1, a2, a3, a4, a5, a6, a7⟩ := (hR.kind hL).2 ⟨n, c, g3, k, s, m, hLj⟩
      have hgj : a3 = g3 := by rw [← grp_of a7, ← hR.grp hL, grp_of hLj]
      subst hgj
      obtain ⟨b1, b2, b3, b4, b5, b6⟩ := hs.kind j _ _ _ _ _ _ a7 hg3
      obtain ⟨d1, d2, d3, d4, d5, d6, d7⟩ := (hR.kind hL).1 ⟨_, _, _, _, _, _, b6⟩
      have : d3 = a3 := by rw [← grp_of d7, hR.grp hL, grp_of b6]
      subst this
      exact ⟨d1, d2, d4, d5, d6, by rw [upd_ne _ _ (by have := hf.ltL b6; omega)]; exact d7⟩

end Go.Eng
