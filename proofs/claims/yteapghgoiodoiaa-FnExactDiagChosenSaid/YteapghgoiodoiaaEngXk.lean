/- What a call gives whose first argument is a point with a map of what is kept: the map is cleared first, and nothing is known of it behind the call. -/
import Derived.Test.YteapghgoiodoiaaEngXg
namespace Go.Eng
set_option linter.unusedSectionVars false
set_option linter.unusedSimpArgs false
set_option linter.unusedVariables false
open Go Go.RowKit

noncomputable section
/-- the point's row, the map: a struct of two cells -/
def matchVS (H : Trie) (w : Nat) (ts : List Nat) : Bool :=
  sel (Nat.beq (tagOf w) 6) (match tget H (payOf w) with
    | some (.box 0 2 c) => sel (isMapW (getW c 1)) (sel (match tget H (mapBlk (getW c 1)) with | some (.mp _ _ _) => true | _ => false) (matchP H (getW c 0) (.row ts)) false) false
    | _ => false) false
/-- the map's block -/
def vsMap (H : Trie) (w : Nat) : Nat := match tget H (payOf w) with | some (.box 0 2 c) => mapBlk (getW c 1) | _ => 0
def mpKey (H : Trie) (b : Nat) : Nat := match tget H b with | some (.mp _ m _) => m | _ => 0
def vsHeap (m : Nat) (ts : List Nat) : Trie := hset (hset (hset .nil 0 (.mp 3 m [])) 1 (.cells (lenN ts) (listW ts) 0 0 0 0)) 2 (.box 0 2 (listW [wS 1 1 0 (lenN ts) 0, mapW 0]))
def runV (P : Program) (S : Sums) (fuel d f m : Nat) (ts : List Nat) (l : List PA) : OR :=
  let y := layP l (vsHeap m ts) 3 [mk 6 2]
  sel (sel (sel (tokL ts) (sel (Nat.beq (lenN ts) 0) false (ltb (lenN ts) 1048576)) false) (sel (okPA l) (ltb y.n 1000) false) false) (funE P (callN P S fuel d) fuel f y.ws y.H y.n) (.bad 0)
def isV1 (r : PR) (o : OR) : Bool :=
  match o with
  | .bad _ => false
  | .ok v H _ => sel (ltb v 340282366920938463463374607431768211456) (sel (match tget H 0 with | some (.mp _ _ _) => true | _ => false) (isPR H v r) false) false
/-- function, the map's keys' cells, point, arguments behind, result -/
abbrev MemoV := Nat × Nat × List Nat × List PA × PR
def memoV (l : List MemoV) : Sums := fun f args H n => match args with
  | [] => .no
  | x :: xs => List.rec (motive := fun _ => SR) .no (fun e _ ih => sel (sel (Nat.beq e.1 f) (sel (matchPL H e.2.2.2.1 xs) (matchVS H x e.2.2.1) false) false)
    (sel (ltb (putP [e.2.2.2.2] (hset H (vsMap H x) (.mp 3 (mpKey H (vsMap H x)) [])) n []).n 16000) (.yes (finD true 1 (putP [e.2.2.2.2] (hset H (vsMap H x) (.mp 3 (mpKey H (vsMap H x)) [])) n []))) ih) ih) l
end

/-- all blocks but one are what they were -/
structure BelowBut (mb : Nat) (w w' : World) : Prop where
  os : w'.os = w.os
  tape : w'.tape = w.tape
  output : w'.output = w.output
  size : w.heap.size ≤ w'.heap.size
  block : ∀ k, k < w.heap.size → k ≠ mb → w'.heap[k]? = w.heap[k]?

structure MemoVK (E : Env) (P : Program) (e : MemoV) : Prop where
  known : Known P e.1
  calls : ∀ (w : World) (s : Value) (vs : List Value) (mb : Nat) (ents : Array MapEntry) (clock : Nat), HoldsA E w (.row e.2.2.1) s → w.heap[mb]? = some (.map ents clock) → HoldsAL E w e.2.2.2.1 vs →
    Calls P e.1 (Value.agg #[s, .map (some mb)] :: vs).toArray w fun r w' => ∃ x, r = .returned x ∧ HoldsR1 E e.2.2.2.2 x ∧ BelowBut mb w w' ∧ ∃ ents' clock', w'.heap[mb]? = some (.map ents' clock')

section
variable {base n : Nat} {H : Trie} {ρ : Rho} {L : Look} {w : World}
/-- a map alone, of which nothing is known; all else is kept -/
theorem Ctx.mapAlone {E : Env} {mb m clock : Nat} {ents : Array MapEntry} (hm : w.heap[mb]? = some (.map ents clock)) (hk : E.kept mb = none) (hkp : ∀ k o, E.kept k = some o → w.heap[k]? = some o) :
    @Ctx E 0 (hset .nil 0 (.mp 3 m [])) 1 (updR (fun _ => none) 0 (mb, 0, 0)) (upd (fun _ => none) 0 (.mp 3 m [])) w := by
  letI : Env := E
  have hlt : mb < w.heap.size := (Array.getElem?_eq_some_iff.1 hm).1
  have one : ∀ b r, updR (fun _ => none) 0 (mb, 0, 0) b = some r → b = 0 ∧ r = (mb, 0, 0) := fun b r h => by
    by_cases hb : b = 0
    · subst hb; rw [updR_same] at h; injection h with h; exact ⟨rfl, h.symm⟩
    · rw [updR_ne _ _ hb] at h; cases h
  have oneL : ∀ b k, upd (fun _ => none) 0 (.mp 3 m []) b = some k → b = 0 ∧ k = .mp 3 m [] := fun b k h => by
    by_cases hb : b = 0
    · subst hb; rw [upd_same] at h; injection h with h; exact ⟨rfl, h.symm⟩
    · rw [upd_ne _ _ hb] at h; cases h
  have g0 : grp (upd (fun _ => none) 0 (.mp 3 m [])) 0 = 1 := NoRow.grp (k := .mp 3 m []) trivial (upd_same _ _ _)
  have c0 : Ctx w.heap.size .nil 0 (fun _ => none) (fun _ => none) w := Ctx.start w hkp
  refine ⟨⟨?_, ?_, ?_, ?_, ?_, ?_, ?_, Nat.zero_le _, ?_, ?_, ?_, ?_, hkp⟩, c0.agree.hset (by omega) _, fun b hb => ⟨upd_ne _ _ (by omega), updR_ne _ _ (by omega)⟩⟩
  · intro b r h
    obtain ⟨rfl, rfl⟩ := one b r h
    exact ⟨_, upd_same _ _ _, fun _ => ⟨ents, clock, hm, fun h => absurd rfl h, fun h => absurd rfl h⟩⟩
  · intro b b' r r' h h' _ _ _ _ hg
    obtain ⟨rfl, rfl⟩ := one b r h
    obtain ⟨rfl, rfl⟩ := one b' r' h'
    exact absurd rfl hg
  · intro b b' r r' h h' _ _ _ _ _
    obtain ⟨rfl, rfl⟩ := one b r h
    obtain ⟨rfl, rfl⟩ := one b' r' h'
    rfl
  · intro b r n c g k s mm h _ hL
    obtain ⟨_, h2⟩ := oneL _ _ hL
    cases h2
  · intro b r h _; exact Nat.zero_le _
  · intro b r h hg
    obtain ⟨rfl, rfl⟩ := one b r h
    rw [g0] at hg; cases hg
  · intro b r h
    obtain ⟨rfl, rfl⟩ := one b r h
    exact hlt
  · intro b r h hg
    obtain ⟨rfl, rfl⟩ := one b r h
    rw [g0]
    exact ⟨⟨_, updR_same _ _ _⟩, g0⟩
  · intro b n c g k s mm hL
    obtain ⟨_, h2⟩ := oneL _ _ hL
    cases h2
  · intro b p q s d lo hi hL
    obtain ⟨_, h2⟩ := oneL _ _ hL
    cases h2
  · intro b r h _
    obtain ⟨rfl, rfl⟩ := one b r h
    exact hk

/-- ██ A result found by a run. -/
theorem memoV_of {P : Program} {S : Sums} (hS : Always P S) {fuel d f m : Nat} {ts : List Nat} {l : List PA} {r : PR} (h : isV1 r (runV P S fuel d f m ts l) = true) (E : Env) : MemoVK E P (f, m, ts, l, r) := by
  unfold runV at h
  simp only at h
  cases hg : sel (sel (tokL ts) (sel (Nat.beq (lenN ts) 0) false (ltb (lenN ts) 1048576)) false) (sel (okPA l) (ltb (layP l (vsHeap m ts) 3 [mk 6 2]).n 1000) false) false with
  | false => rw [hg] at h; cases h
  | true =>
    rw [hg, sel_true] at h
    obtain ⟨hts, hg2⟩ := sel_and hg
    obtain ⟨hok, hlt⟩ := sel_and hg2
    obtain ⟨htok, _⟩ := sel_and hts
    have hlt := (ltb_iff _ _).1 hlt
    cases hr : funE P (callN P S fuel d) fuel f (layP l (vsHeap m ts) 3 [mk 6 2]).ws (layP l (vsHeap m ts) 3 [mk 6 2]).H (layP l (vsHeap m ts) 3 [mk 6 2]).n with
    | bad q => rw [hr] at h; cases h
    | ok v' H' n' =>
      rw [hr] at h
      refine ⟨known_of hr, fun w s vs mb ents clock hs hm hh cs => ?_⟩
      letI : Env := setK E fun k => if k = mb then none else if k < w.heap.size then w.heap[k]? else none
      have kmb : Env.kept mb = none := if_pos rfl
      have kold : ∀ k, k < w.heap.size → k ≠ mb → Env.kept k = w.heap[k]? := fun k h1 h2 => by
        show (if k = mb then none else if k < w.heap.size then w.heap[k]? else none) = _
        rw [if_neg h2, if_pos h1]
      have hkp : ∀ k o, Env.kept k = some o → w.heap[k]? = some o := fun k o h => by
        have h : (if k = mb then none else if k < w.heap.size then w.heap[k]? else none) = some o := h
        split at h
        · cases h
        · split at h
          · exact h
          · cases h
      have hkb : ∀ (rb : Nat) cs ty fz, w.heap[rb]? = some (.cells cs ty fz) → rb < 0 ∨ ∃ o, Env.kept rb = some o := fun rb cs ty fz h => by
        have hne : rb ≠ mb := fun hh => by rw [hh, hm] at h; cases h
        exact .inr ⟨_, (kold rb (Array.getElem?_eq_some_iff.1 h).1 hne).trans h⟩
      have c0 := Ctx.mapAlone (m := m) hm kmb hkp
      obtain ⟨hl0, rb, dd, cp, xs, ty, fz, rfl, g1, g2, g3, g4, g5, g6⟩ := hs
      have g3 : ts.length < 1048576 := g3
      have ew : wS 1 1 0 (lenN ts) 0 = wS 1 1 0 ts.length 0 := by rw [lenN_eq]
      have c1 := c0.argK (nb := ts.length) (ch := listW ts) (sz := cp) (d := dd) (by omega) g4 (hkb _ _ _ _ g4) g5 g1 (fun i hi => by
        obtain ⟨u, u1, u2⟩ := g6 i hi
        rw [getW_listW _ (tokL_slot htok)]
        exact ⟨u, u1, (u2.setK).vr _ _, u2.2⟩)
      have e1 : Ext (updR (fun _ => none) 0 (mb, 0, 0)) (upd (fun _ => none) 0 (.mp 3 m [])) (updR (updR (fun _ => none) 0 (mb, 0, 0)) 1 (rb, dd, cp)) (upd (upd (fun _ => none) 0 (.mp 3 m [])) 1 (.cells ts.length (listW ts) 0 0 0 0)) := .fresh c0.fresh _ _
      have c2 : Ctx 0 (vsHeap m ts) 3 (updR (updR (fun _ => none) 0 (mb, 0, 0)) 1 (rb, dd, cp)) (upd (upd (upd (fun _ => none) 0 (.mp 3 m [])) 1 (.cells ts.length (listW ts) 0 0 0 0)) 2 (.box 0 2 (listW [wS 1 1 0 (lenN ts) 0, mapW 0]))) w := by
        have := c1.agree.hset (i := 2) (by omega) (.box 0 2 (listW [wS 1 1 0 (lenN ts) 0, mapW 0]))
        refine ⟨c1.sim.box c1.fresh _ _ _, ?_, c1.fresh.updL _⟩
        unfold vsHeap
        rw [lenN_eq] at this ⊢
        exact this
      have e2 : Ext (updR (updR (fun _ => none) 0 (mb, 0, 0)) 1 (rb, dd, cp)) (upd (upd (fun _ => none) 0 (.mp 3 m [])) 1 (.cells ts.length (listW ts) 0 0 0 0)) _ _ := .freshL c1.fresh (.box 0 2 (listW [wS 1 1 0 (lenN ts) 0, mapW 0]))
      have vS : VR (updR (updR (fun _ => none) 0 (mb, 0, 0)) 1 (rb, dd, cp)) (upd (upd (upd (fun _ => none) 0 (.mp 3 m [])) 1 (.cells ts.length (listW ts) 0 0 0 0)) 2 (.box 0 2 (listW [wS 1 1 0 (lenN ts) 0, mapW 0]))) (wS 1 1 0 ts.length 0) (.slice (some ⟨rb, dd, none⟩) ts.length cp) :=
        .slice 1 1 0 ts.length 0 rb dd cp cp _ (updR_same _ _ _) (by omega) (by omega) g3 (by omega) g1 g2 (.inl rfl) (.inr ⟨by simp, by omega⟩)
      have vM : VR (updR (updR (fun _ => none) 0 (mb, 0, 0)) 1 (rb, dd, cp)) (upd (upd (upd (fun _ => none) 0 (.mp 3 m [])) 1 (.cells ts.length (listW ts) 0 0 0 0)) 2 (.box 0 2 (listW [wS 1 1 0 (lenN ts) 0, mapW 0]))) (mapW 0) (.map (some mb)) :=
        .map 0 mb 0 0 (by rw [updR_ne _ _ (by omega)]; exact updR_same _ _ _)
      have hsl : allSlot [wS 1 1 0 (lenN ts) 0, mapW 0] = true := allSlot_of' _ fun y hy => by
        simp only [List.mem_cons, List.not_mem_nil, or_false] at hy
        rcases hy with rfl | rfl
        · rw [ew, wS_eq]; omega
        · decide
      have hst : ∀ i, i < 2 → storable (getW (listW [wS 1 1 0 (lenN ts) 0, mapW 0]) i) = true := fun i hi => by
        rw [getW_listW _ hsl]
        rcases (show i = 0 ∨ i = 1 by omega) with rfl | rfl
        · show storable (wS 1 1 0 (lenN ts) 0) = true
          rw [ew, storable_iff, (s_parts 1 1 0 ts.length 0 (by omega) (by omega) g3 (by omega)).1]
          exact ⟨by decide, by decide, by decide, by rw [wS_eq]; omega⟩
        · show storable (mapW 0) = true
          decide
      have vA : VR (updR (updR (fun _ => none) 0 (mb, 0, 0)) 1 (rb, dd, cp)) (upd (upd (upd (fun _ => none) 0 (.mp 3 m [])) 1 (.cells ts.length (listW ts) 0 0 0 0)) 2 (.box 0 2 (listW [wS 1 1 0 (lenN ts) 0, mapW 0]))) (mk 6 2) (.agg #[.slice (some ⟨rb, dd, none⟩) ts.length cp, .map (some mb)]) := by
        refine .agg 2 2 _ _ (upd_same _ _ _) rfl (fun i hi => ?_) ?_ hst
        · rw [getW_listW _ hsl]
          rcases (show i = 0 ∨ i = 1 by simp at hi; omega) with rfl | rfl
          · show VR _ _ (wS 1 1 0 (lenN ts) 0) _
            have := vS
            rw [← ew] at this
            exact this
          · exact vM
        · exact listW_lt _ hsl
      obtain ⟨_, hL⟩ := layPB_sound (w := w) (base := 0) hkb l (vsHeap m ts) 3 [mk 6 2]
      obtain ⟨ρ', L', c, ha, e3⟩ := hL _ _ vs [.agg #[.slice (some ⟨rb, dd, none⟩) ts.length cp, .map (some mb)]] c2 (.cons _ _ _ _ vA .nil) hh.setK hlt hok
      obtain ⟨ρ2, L2, w', x, c3, e4, hb, _, _, hx, _, hc⟩ := funE_sound (callN_sound P (hS _) fuel d) cs c (vs := (Value.agg #[.slice (some ⟨rb, dd, none⟩) ts.length cp, .map (some mb)] :: vs).toArray) (by simpa using ha) hr
      obtain ⟨e, W, fr, ⟨h1, h2⟩, h3⟩ := hc
      subst h2
      have h : sel (ltb v' 340282366920938463463374607431768211456) (sel (match tget H' 0 with | some (.mp _ _ _) => true | _ => false) (isPR H' v' r) false) false = true := h
      obtain ⟨a1, a2⟩ := sel_and h
      obtain ⟨a2, a3⟩ := sel_and a2
      have hρ : ρ2 0 = some (mb, 0, 0) := e4.place _ _ (e3.place _ _ (by rw [updR_ne _ _ (by omega)]; exact updR_same _ _ _))
      split at a2
      · rename_i ag m' es hget
        obtain ⟨_, ents', clock', q1⟩ := map_block0 c3 hρ hget
        refine ⟨e, W, fr, ⟨x, h1, (isPR_inv c3 hx a3).unset, ⟨hb.os, hb.tape, hb.output, hb.size, fun k hk hne => ?_⟩, ents', clock', q1⟩, h3⟩
        have hold : w.heap[k]? = some (w.heap[k]) := Array.getElem?_eq_getElem hk
        rw [hold]
        exact c3.sim.kp k _ ((kold k hk hne).trans hold)
      · cases a2
end

section
variable {base n : Nat} {H : Trie} {ρ : Rho} {L : Look} {w : World}
theorem matchVS_holds {E : Env} (c : @Ctx E base H n ρ L w) {x : Nat} {v : Value} (hx : @VR E ρ L x v) {ts : List Nat} (h : matchVS H x ts = true) :
    ∃ s mb d sz ag m es, v = .agg #[s, .map (some mb)] ∧ HoldsA E w (.row ts) s ∧ ρ (vsMap H x) = some (mb, d, sz) ∧ tget H (vsMap H x) = some (.mp ag m es) := by
  letI : Env := E
  unfold matchVS at h
  obtain ⟨h6, h⟩ := sel_and h
  have h6 := Nat.eq_of_beq_eq_true h6
  split at h
  rotate_left
  · cases h
  rename_i ch hget
  obtain ⟨h1, h⟩ := sel_and h
  obtain ⟨h2, h3⟩ := sel_and h
  have evm : vsMap H x = mapBlk (getW ch 1) := by unfold vsMap; rw [hget]; rfl
  obtain ⟨id, kd, m', cc, us, hw, hp, hL2, hk, hs, hcells⟩ := hx.box_inv h6
  have hL3 := c.agree.2 _ _ hget
  rw [hp, hL2] at hL3
  injection hL3 with hL3
  injection hL3 with q1 q2 q3
  subst q1; subst q2; subst q3
  have hxt : v = .agg us := by
    rcases hk with ⟨_, hk⟩ | ⟨hk, _⟩
    · exact hk
    · omega
  subst hxt
  have c0 := hcells 0 (by omega)
  have c1 := hcells 1 (by omega)
  obtain ⟨mb, d, sz, hρ, hv1⟩ := c1.map_inv h1
  split at h2
  · rename_i ag m es hmget
    refine ⟨us[0]'(by omega), mb, d, sz, ag, m, es, ?_, matchP_holds c c0 _ h3, by rw [evm]; exact hρ, by rw [evm]; exact hmget⟩
    congr 1
    apply Array.ext
    · simp [hs]
    · intro i h1 h2
      have : i = 0 ∨ i = 1 := by omega
      rcases this with rfl | rfl
      · rfl
      · simpa using hv1
  · cases h2
end

theorem memoV_always {P : Program} : ∀ (l : List MemoV), (∀ e ∈ l, ∀ E, MemoVK E P e) → Always P (memoV l) := by
  intro l hl E base H n ρ L w f args vs v H' n' cs c ha h
  letI : Env := E
  obtain ⟨vs⟩ := vs
  cases args with
  | nil => cases h
  | cons x xs =>
    have ha : AR ρ L (x :: xs) vs := ha
    cases ha with
    | cons _ v0 _ vs hx hxs =>
    induction l with
    | nil => cases h
    | cons e l ih =>
      have e0 : memoV (e :: l) f (x :: xs) H n = sel (sel (Nat.beq e.1 f) (sel (matchPL H e.2.2.2.1 xs) (matchVS H x e.2.2.1) false) false)
        (sel (ltb (putP [e.2.2.2.2] (hset H (vsMap H x) (.mp 3 (mpKey H (vsMap H x)) [])) n []).n 16000) (.yes (finD true 1 (putP [e.2.2.2.2] (hset H (vsMap H x) (.mp 3 (mpKey H (vsMap H x)) [])) n []))) (memoV l f (x :: xs) H n)) (memoV l f (x :: xs) H n) := rfl
      rw [e0, sel_eq] at h
      split at h
      · rename_i h1
        rw [sel_ltb] at h
        split at h
        · rename_i hlt
          obtain ⟨hf, h1⟩ := sel_and h1
          obtain ⟨hm1, hm2⟩ := sel_and h1
          have hf := Nat.eq_of_beq_eq_true hf
          injection h with hfin
          have K := hl e List.mem_cons_self E
          have hh := matchPL_holds c e.2.2.2.1 xs vs hxs hm1
          obtain ⟨s, mb, d, sz, ag, m, es, rfl, hs, hρ, hget⟩ := matchVS_holds c hx hm2
          obtain ⟨hL, ents, clock, hmap⟩ := map_block0 c hρ hget
          obtain ⟨r, W, ⟨x', hr, hx', hb, ents', clock', hmap'⟩, hcall⟩ := calls_at (K.calls w s vs mb ents clock hs hmap hh) cs
          subst hr
          rw [← hf]
          have ek : mpKey H (vsMap H x) = m := by unfold mpKey; rw [hget]
          rw [ek] at hfin hlt
          have hmb : mb < w.heap.size := (Array.getElem?_eq_some_iff.1 hmap).1
          have map_junk : ∃ L', Ctx base (hset H (vsMap H x) (.mp 3 m [])) n ρ L' { w with heap := w.heap.setIfInBounds mb (.map ents' clock') } ∧ Ext ρ L ρ L' ∧ Below base w { w with heap := w.heap.setIfInBounds mb (.map ents' clock') } ∧ Loc H n ρ L ρ L' :=
            map_swapJ c hρ hget hmap
          obtain ⟨L1, c1, e1, b1, l1⟩ := map_junk
          have hW : Below ({ w with heap := w.heap.setIfInBounds mb (.map ents' clock') } : World).heap.size { w with heap := w.heap.setIfInBounds mb (.map ents' clock') } W := by
            refine ⟨hb.os, hb.tape, hb.output, by simpa using hb.size, fun k hk => ?_⟩
            have hk' : k < w.heap.size := by simpa using hk
            by_cases hkm : k = mb
            · subst hkm
              rw [hmap']
              simp [hk']
            · rw [hb.block k hk' hkm]
              show _ = (w.heap.setIfInBounds mb _)[k]?
              rw [Array.getElem?_setIfInBounds, if_neg (by omega)]
          have c2 := c1.later hW
          obtain ⟨L', c3, e3, ha3, hst3, hloc3⟩ := putP_sound (w := W) [e.2.2.2.2] [x'] (hset H (vsMap H x) (.mp 3 m [])) n [] [] ρ L1 c2 (.cons _ _ _ _ hx' .nil) (by omega) .nil (fun y hy => by cases hy)
          simp only [List.nil_append] at ha3
          have hle := putP_le [e.2.2.2.2] (hset H (vsMap H x) (.mp 3 m [])) n []
          unfold finD at hfin
          rw [sel_true] at hfin
          injection hfin with a1 a2 a3
          subst a1; subst a2; subst a3
          generalize (putP [e.2.2.2.2] (hset H (vsMap H x) (.mp 3 m [])) n []).ws = ws at ha3 ⊢
          rcases ha3 with _ | ⟨u, _, _, _, hu, hn0⟩
          cases hn0
          exact ⟨ρ, L', W, x', c3, e1.trans e3, b1.trans (hW.mono c1.sim.bs), Loc.trans (H1 := H) l1 (Nat.le_refl _) hloc3.any, hle, hu, K.known, hcall⟩
        · exact ih (fun e he => hl e (List.mem_cons_of_mem _ he)) h
      · exact ih (fun e he => hl e (List.mem_cons_of_mem _ he)) h
end Go.Eng
