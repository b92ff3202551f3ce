/- Part of the evaluator, in company. -/
import Derived.Test.YtadmpiidofncpacOCm
set_option linter.unusedSectionVars false
set_option linter.unusedSimpArgs false
set_option linter.unusedVariables false
namespace Go.Eng
open Go Go.RowKit
open Go.Conc
open Go.ConcN (WgLive WD CTag Vc Ssum phi sumTo cnt)
open Go.ConcR (stA smA rd wr mk KK WgAt DC0)
open Go.Eng.Wg
def LtL (a b : List Tre) : Prop := ∃ i x y, b[i]? = some y ∧ TLt x y ∧ a = b.set i x
theorem zdO : WellFounded TLt := by
 refine ⟨fun t => ?_⟩
 induction t with
 | leaf => exact ⟨_, fun a ⟨f, p, s, h, _⟩ => by cases h⟩
 | node f ih => exact ⟨_, fun a ⟨g, p, s, h, e⟩ => by cases h; subst e; exact ih p s⟩
theorem ze3 : ∀ (l : List Tre), Acc LtL l := by
 intro l
 induction l with
 | nil => exact ⟨_, fun a ⟨i, x, y, h, _⟩ => by simp at h⟩
 | cons t l ihl =>
  have : ∀ (t : Tre), Acc TLt t → ∀ (l : List Tre), Acc LtL l → Acc LtL (t :: l) := by
   intro t ht
   induction ht with
   | intro t _ iht =>
    intro l hl
    induction hl with
    | intro l hl0 ihl =>
     refine ⟨_, fun a ⟨i, x, y, h, hlt, e⟩ => ?_⟩
     subst e
     cases i with
     | zero =>
      simp at h; subst h
      exact iht x hlt l ⟨_, hl0⟩
     | succ i =>
      simp at h
      exact ihl _ ⟨i, x, y, by simpa using h, hlt, rfl⟩
  exact this t (zdO.apply t) l ihl
theorem zeo : WellFounded LtL := ⟨ze3⟩
abbrev Mu := Tre × Nat × List Tre × Nat
@[reducible] def muRel : WellFoundedRelation Mu := Prod.lex ⟨TLt, zdO⟩ (Prod.lex Nat.lt_wfRel (Prod.lex ⟨LtL, zeo⟩ Nat.lt_wfRel))
def muLt (a b : Mu) : Prop := muRel.rel a b
theorem ze4 : WellFounded muLt := muRel.wf
theorem muLt.one {a a' : Tre} {b c : Nat × List Tre × Nat} (h : TLt a' a) : muLt (a', b) (a, c) := Prod.Lex.left _ _ h
theorem muLt.two {a : Tre} {b b' : Nat} {c d : List Tre × Nat} (h : b' < b) : muLt (a, b', c) (a, b, d) := Prod.Lex.right _ (Prod.Lex.left _ _ h)
theorem muLt.three {a : Tre} {b : Nat} {c c' : List Tre} {d e : Nat} (h : LtL c' c) : muLt (a, b, c', d) (a, b, c, e) := Prod.Lex.right _ (Prod.Lex.right _ (Prod.Lex.left _ _ h))
theorem muLt.four {a : Tre} {b : Nat} {c : List Tre} {d d' : Nat} (h : d' < d) : muLt (a, b, c, d') (a, b, c, d) := Prod.Lex.right _ (Prod.Lex.right _ (Prod.Lex.right _ h))
def famL (N : Nat) (fam : Nat → Tre) : List Tre := (List.range N).map fam
theorem zdv (N : Nat) (fam : Nat → Tre) (k : Nat) (x : Tre) : famL N (Go.ConcN.upd fam k x) = (famL N fam).set k x := by
 apply List.ext_getElem?
 intro i
 unfold famL
 rw [List.getElem?_set]
 simp only [List.getElem?_map, List.length_map, List.length_range]
 by_cases hi : i < N
 ·rw [List.getElem?_range hi]
  by_cases hk : k = i
  ·subst hk; simp [hi, Go.ConcN.upd_same]
  ·simp [hk, Go.ConcN.upd_ne fam x (fun e => hk e.symm)]
 ·have : (List.range N)[i]? = none := by simp; omega
  rw [this]
  by_cases hk : k = i
  ·subst hk; simp [hi]
  ·simp [hk]
theorem zcI {N : Nat} {fam : Nat → Tre} {k : Nat} {x : Tre} (hk : k < N) (h : TLt x (fam k)) : LtL (famL N (Go.ConcN.upd fam k x)) (famL N fam) := by
 refine ⟨k, x, fam k, ?_, h, zdv N fam k x⟩
 unfold famL
 simp [List.getElem?_map, List.getElem?_range hk]
section
variable [Kp : Keep]
variable (P : Program) (ty : TypeId) (Wg n0 : Nat) (Sb : Nat → Prop) (Fz : Nat → Option Obj) (Post : Sta → Prop)
def AcqS (n0 j : Nat) (rel : Nat → Option Nat) (t : Trace) : Prop :=
 ∃ q, t.act? q = some (.mark (.acquire (stA Wg))) ∧ t.g? q = some 0 ∧ t.heard q ∧ ∀ i, i < j → ∃ r, rel (n0 + i) = some r ∧ r < q
structure PI (j : Nat) (D : Nat → WD) (pl : Nat → Nat) (fam : Nat → Tre) (prs : List (Nat × Obj)) (u : Nat → World) (rel : Nat → Option Nat) (tag : CTag) (bit : Nat) (τ0 : Tre) (f0 : Nat) (v : World) (st sm : Int)
  (gs : Array Goroutine) (w : World) (t : Trace) : Prop where
 n0p : 0 < n0
 jb : j ≤ 1000000
 len : prs.length = j
 size : gs.size = n0 + j
 c : ∃ a, gs[0]? = some a ∧ CState P ty Wg Fz Post prs tag (Deaf t 0) bit τ0 f0 v a w
 old : ∀ i g, 0 < i → i < n0 → gs[i]? = some g → ∃ m, fam i = chain m ∧ QuitsD P m (Deaf t i) g
 wk : ∀ i pr, prs[i]? = some pr → ∃ g, gs[n0 + i]? = some g ∧ WState P ty Wg pr (D i).stage (D i).deaf (pl i) (fam (n0 + i)) (u i) g w ∧ Deaf t (n0 + i) = (D i).deaf
 above : ∀ k, n0 + j ≤ k → Deaf t k = 0 ∧ rel k = none
 tr : Tr (fun l => ∃ b, locB l = some b ∧ Sb b) Wg n0 j w.heap.size rel t
 rl : ∀ i, i < j → ((D i).stage ≤ 6 ↔ ∃ r, rel (n0 + i) = some r)
 p0 : Pl Sb Wg w t 0 v
 pw : ∀ i, i < j → (D i).stage = 7 → Pl Sb Wg w t (n0 + i) (u i)
 ap : ∀ i, i < j → (D i).stage = 7 → Apart2 v (u i)
 aw : ∀ i i', i < j → i' < j → i ≠ i' → (D i).stage = 7 → (D i').stage = 7 → Apart2 (u i) (u i')
 fz : ∀ b o, Fz b = some o → Settled Sb Wg w b o ∧ ¬ MineAt v b ∧ ∀ i, i < j → (D i).stage = 7 → ¬ MineAt (u i) b
 pr : ∀ i pr, prs[i]? = some pr → (D i).stage ≤ 6 → Settled Sb Wg w pr.1 pr.2 ∧ ¬ MineAt v pr.1 ∧ ∀ i', i' < j → (D i').stage = 7 → ¬ MineAt (u i') pr.1
 wg : WgAt ty Wg w st sm
 mode : Go.ConcN.Mode j D tag st sm
 sbl : ∀ b, Sb b → b < w.heap.size
 kz : ∀ b o, Kp.kz b = some o → w.heap[b]? = some o ∧ b ≠ Wg ∧ ¬ MineAt v b ∧ ∀ i, i < j → (D i).stage = 7 → ¬ MineAt (u i) b
 acq : tag = .ret → AcqS Wg n0 j rel t
def muOf (n0 j : Nat) (D : Nat → WD) (pl : Nat → Nat) (fam : Nat → Tre) (tag : CTag) (bit : Nat) (τ0 : Tre) (f0 : Nat) : Mu :=
 (τ0, 2 * phi j (Vc j D) tag + bit + Ssum j D + sumTo j pl, famL (n0 + j) fam, f0)
def PInv (μ : Mu) (m : Machine) (t : Trace) : Prop :=
 ∃ (j : Nat) (D : Nat → WD) (pl : Nat → Nat) (fam : Nat → Tre) (prs : List (Nat × Obj)) (u : Nat → World) (rel : Nat → Option Nat) (tag : CTag) (bit : Nat) (τ0 : Tre) (f0 : Nat) (v : World) (st sm : Int) (gs : Array Goroutine) (w : World) (sl : Option (Nat × Nat)),
  m = crowd gs w sl ∧ PI P ty Wg n0 Sb Fz Post j D pl fam prs u rel tag bit τ0 f0 v st sm gs w t ∧ μ = muOf n0 j D pl fam tag bit τ0 f0
end
section
variable [Kp : Keep]
variable {P : Program} {ty : TypeId} {Wg n0 : Nat} {Sb : Nat → Prop} {Fz : Nat → Option Obj} {Post : Sta → Prop}
 {j : Nat} {D : Nat → WD} {pl : Nat → Nat} {fam : Nat → Tre} {prs : List (Nat × Obj)} {u : Nat → World} {rel rel' : Nat → Option Nat} {tag : CTag} {bit : Nat} {τ0 : Tre} {f0 : Nat} {v : World} {st sm : Int}
 {gs : Array Goroutine} {w w' : World} {t : Trace} {sl : Option (Nat × Nat)}
theorem PI.at (h : PI P ty Wg n0 Sb Fz Post j D pl fam prs u rel tag bit τ0 f0 v st sm gs w t) (d : Nat) : PI P ty Wg n0 Sb Fz Post j D pl fam prs u rel tag bit τ0 f0 v st sm gs (w.at d) t := by
 have rs : RS ty Wg w (w.at d) := fun x => x
 refine ⟨h.n0p, h.jb, h.len, h.size, ?_, h.old, fun i p hp => ?_, h.above, h.tr, h.rl, h.p0.at d, fun i hi hs => (h.pw i hi hs).at d, h.ap, h.aw, fun b o hb => ?_, fun i p hp hs => ?_, h.wg, h.mode, h.sbl, h.kz, h.acq⟩
 ·obtain ⟨a, h1, h2⟩ := h.c
  exact ⟨a, h1, h2.rely rs⟩
 ·obtain ⟨g, h1, h2, h3⟩ := h.wk i p hp
  exact ⟨g, h1, h2.rely rs, h3⟩
 ·obtain ⟨h1, h2⟩ := h.fz b o hb
  exact ⟨⟨h1.at_, h1.ne, h1.nsb, h1.nv, h1.nk⟩, h2⟩
 ·obtain ⟨h1, h2⟩ := h.pr i p hp hs
  exact ⟨⟨h1.at_, h1.ne, h1.nsb, h1.nv, h1.nk⟩, h2⟩
theorem ofEvents_g {g : Nat} {fn : FuncId} {pos : String} {es : Array Event} : ∀ op ∈ MemOp.ofEvents g fn pos es, op.g = g := fun op hop => by obtain ⟨e, _, rfl⟩ := memOps hop; rfl
set_option maxHeartbeats 1600000 in
theorem PI.stepX (h : PI P ty Wg n0 Sb Fz Post j D pl fam prs u rel tag bit τ0 f0 v st sm gs w t) {i : Nat} {pr : Nat × Obj} (hpr : prs[i]? = some pr) {g' : Goroutine} {ops : Trace} {φ : Goroutine → Goroutine} {tag' : CTag} {f' : Nat}
  (hrun : runT P (crowd gs w sl) (n0 + i) = (.next (crowd ((gs.map φ).setIfInBounds (n0 + i) g') w' sl), ops)) (hops : ∀ op ∈ ops, op.g = n0 + i) (hφ : ∀ x : Goroutine, x.status = .running ∨ x.status = .finished → φ x = x)
  (hcs' : ∀ a, gs[0]? = some a → CState P ty Wg Fz Post prs tag' (Deaf t 0) bit τ0 f' v (φ a) w') (htag : tag' = tag ∨ (tag = .blk ∧ tag' = .w3))
  {s' d' pl' : Nat} {τ' : Tre} {ui' : World} {st' sm' : Int}
  (hws : WState P ty Wg pr s' d' pl' τ' ui' g' w') (hdeaf : Deaf (t ++ ops) (n0 + i) = d')
  (hs0 : SafeO v w w' ops) (hsw : ∀ i', i' < j → i' ≠ i → (D i').stage = 7 → SafeO (u i') w w' ops)
  (hset : ∀ b o, w.heap[b]? = some o → b ≠ Wg → ((D i).stage = 7 → ¬ MineAt (u i) b) → w'.heap[b]? = some o)
  (h77 : s' = 7 → (D i).stage = 7 ∧ (∀ b, MineAt ui' b → MineAt (u i) b ∨ w.heap.size ≤ b) ∧ Pl Sb Wg w' (t ++ ops) (n0 + i) ui' ∧ Apart2 v ui' ∧ ∀ i', i' < j → i' ≠ i → (D i').stage = 7 → Apart2 (u i') ui')
  (htr : Tr (fun l => ∃ b, locB l = some b ∧ Sb b) Wg n0 j w'.heap.size rel' (t ++ ops)) (hrel : ∀ k, k ≠ n0 + i → rel' k = rel k) (hrl : s' ≤ 6 ↔ ∃ r, rel' (n0 + i) = some r)
  (hrs : RS ty Wg w w') (hwg : WgAt ty Wg w' st' sm')
  (hmode : Go.ConcN.Mode j (Go.ConcN.upd D i ⟨s', 0, d'⟩) tag' st' sm')
  (hpr' : s' ≤ 6 → Settled Sb Wg w' pr.1 pr.2 ∧ ¬ MineAt v pr.1 ∧ ∀ i', i' < j → i' ≠ i → (D i').stage = 7 → ¬ MineAt (u i') pr.1)
  (hacq : tag = .ret → AcqS Wg n0 j rel' (t ++ ops))
  (hlt : (s' + pl' < (D i).stage + pl i ∧ cnt ⟨s', 0, d'⟩ ≤ cnt (D i)) ∨ (s' = (D i).stage ∧ pl' = pl i ∧ TLt τ' (fam (n0 + i)))) :
  ∃ m₁ ops μ', runT P (crowd gs w sl) (n0 + i) = (.next m₁, ops) ∧ muLt μ' (muOf n0 j D pl fam tag bit τ0 f0) ∧ PInv P ty Wg n0 Sb Fz Post μ' m₁ (t ++ ops) := by
 have hi : i < j := by rw [← h.len]; exact (List.getElem?_eq_some_iff.1 hpr).1
 have hne0 : n0 + i ≠ 0 := by have := h.n0p; omega
 obtain ⟨a, ha, hcs⟩ := h.c
 have hd0 : Deaf (t ++ ops) 0 = Deaf t 0 := Deaf_other t (by omega) _ hops
 have hsz := hs0.size
 let D' : Nat → WD := Go.ConcN.upd D i ⟨s', 0, d'⟩
 let u' : Nat → World := Go.ConcN.upd u i ui'
 let pl1 : Nat → Nat := Go.ConcN.upd pl i pl'
 let fam' : Nat → Tre := Go.ConcN.upd fam (n0 + i) τ'
 have D's : D' i = ⟨s', 0, d'⟩ := Go.ConcN.upd_same _ _ _
 have D'n : ∀ {x}, x ≠ i → D' x = D x := fun hx => Go.ConcN.upd_ne _ _ hx
 have u's : u' i = ui' := Go.ConcN.upd_same _ _ _
 have u'n : ∀ {x}, x ≠ i → u' x = u x := fun hx => Go.ConcN.upd_ne _ _ hx
 have nobody : ∀ b, b < w.heap.size → (∀ x, x < j → (D x).stage = 7 → ¬ MineAt (u x) b) → ∀ x, x < j → (D' x).stage = 7 → ¬ MineAt (u' x) b := by
  intro b hb hn x hx hs
  by_cases e : x = i
  ·subst e
   rw [D's] at hs; rw [u's]
   obtain ⟨k1, k2, _⟩ := h77 hs
   intro hm
   rcases k2 b hm with k3 | k3
   ·exact hn x hx k1 k3
   ·omega
  ·rw [D'n e] at hs; rw [u'n e]; exact hn x hx hs
 refine ⟨_, _, muOf n0 j D' pl1 fam' tag' bit τ0 f', hrun, ?_, j, D', pl1, fam', prs, u', rel', tag', bit, τ0, f', v, st', sm', (gs.map φ).setIfInBounds (n0 + i) g', w', sl, rfl, ?_, rfl⟩
 ·-- the measure
  have e1 : Vc j D' + cnt (D i) = Vc j D + cnt ⟨s', 0, d'⟩ := Go.ConcN.Vc_upd D (⟨s', 0, d'⟩ : WD) hi
  have e2 : Ssum j D' + (D i).stage = Ssum j D + s' := Go.ConcN.sumTo_upd D (⟨s', 0, d'⟩ : WD) WD.stage hi
  have e3 : sumTo j pl1 + pl i = sumTo j pl + pl' := Go.ConcN.sumTo_upd pl pl' id hi
  unfold muOf
  rcases hlt with ⟨h1, h2⟩ | ⟨h1, h2, h3⟩
  ·refine muLt.two ?_
   rw [Go.ConcN.phi_retag j _ htag]
   have := Go.ConcN.phi_mono j (v' := Vc j D') (v := Vc j D) (by omega) tag
   omega
  ·have ec : cnt (⟨s', 0, d'⟩ : WD) = cnt (D i) := by simp only [cnt, h1]
   have ev : Vc j D' = Vc j D := by omega
   have es' : Ssum j D' = Ssum j D := by omega
   have ep : sumTo j pl1 = sumTo j pl := by omega
   rw [Go.ConcN.phi_retag j _ htag, ev, es', ep]
   exact muLt.three (zcI (by omega) h3)
 ·refine ⟨h.n0p, h.jb, h.len, by simp [h.size], ?_, fun k x hk hkn hx => ?_, fun x p hp => ?_, fun k hk => ?_, htr, fun x hx => ?_, h.p0.otherO hs0, fun x hx hs => ?_, fun x hx hs => ?_, fun x y hx hy hxy hs hs2 => ?_, fun b o hb => ?_, fun x p hp hs => ?_, hwg, hmode, fun b hb => Nat.lt_of_lt_of_le (h.sbl b hb) hsz, fun b o hb => ⟨hset b o (h.kz b o hb).1 (h.kz b o hb).2.1 fun hs => (h.kz b o hb).2.2.2 i hi hs, (h.kz b o hb).2.1, (h.kz b o hb).2.2.1, nobody b (Array.getElem?_eq_some_iff.1 (h.kz b o hb).1).1 (h.kz b o hb).2.2.2⟩, fun e => ?_⟩
  ·refine ⟨φ a, ?_, ?_⟩
   ·rw [Array.getElem?_setIfInBounds_ne hne0, Array.getElem?_map, ha]; rfl
   ·rw [hd0]; exact hcs' a ha
  ·rw [Array.getElem?_setIfInBounds_ne (by omega), Array.getElem?_map] at hx
   obtain ⟨y, hy, rfl⟩ := Option.map_eq_some_iff.1 hx
   obtain ⟨m, hm1, hm2⟩ := h.old k y hk hkn hy
   refine ⟨m, by show Go.ConcN.upd fam (n0 + i) τ' k = _; rw [Go.ConcN.upd_ne _ _ (by omega)]; exact hm1, ?_⟩
   rw [hφ _ hm2.status, Deaf_other t (by omega) _ hops]
   exact hm2
  ·obtain ⟨x1, hx1, hx2, hx3⟩ := h.wk x p hp
   by_cases e : x = i
   ·subst e
    rw [hpr] at hp; injection hp with hp; subst hp
    refine ⟨g', ?_, ?_, ?_⟩
    ·have : n0 + x < (gs.map φ).size := by simp [h.size]; exact hi
     rw [Array.getElem?_setIfInBounds_self_of_lt this]
    ·show WState P ty Wg pr (D' x).stage (D' x).deaf (Go.ConcN.upd pl x pl' x) (Go.ConcN.upd fam (n0 + x) τ' (n0 + x)) (u' x) g' w'
     rw [D's, u's, Go.ConcN.upd_same, Go.ConcN.upd_same]; exact hws
    ·rw [D's]; exact hdeaf
   ·refine ⟨x1, ?_, ?_, ?_⟩
    ·rw [Array.getElem?_setIfInBounds_ne (by omega), Array.getElem?_map, hx1, Option.map_some, hφ _ hx2.status]
    ·show WState P ty Wg p (D' x).stage (D' x).deaf (Go.ConcN.upd pl i pl' x) (Go.ConcN.upd fam (n0 + i) τ' (n0 + x)) (u' x) x1 w'
     rw [D'n e, u'n e, Go.ConcN.upd_ne _ _ e, Go.ConcN.upd_ne _ _ (by omega)]; exact hx2.rely hrs
    ·rw [Deaf_other t (by omega) _ hops, hx3, D'n e]
  ·rw [Deaf_other t (by omega) _ hops, hrel k (by omega)]
   exact h.above k hk
  ·by_cases e : x = i
   ·subst e; rw [D's]; exact hrl
   ·rw [D'n e, hrel _ (by omega)]; exact h.rl x hx
  ·by_cases e : x = i
   ·subst e; rw [D's] at hs; rw [u's]; exact (h77 hs).2.2.1
   ·rw [D'n e] at hs; rw [u'n e]; exact (h.pw x hx hs).otherO (hsw x hx e hs)
  ·by_cases e : x = i
   ·subst e; rw [D's] at hs; rw [u's]; exact (h77 hs).2.2.2.1
   ·rw [D'n e] at hs; rw [u'n e]; exact h.ap x hx hs
  ·by_cases e : x = i
   ·subst e
    rw [D's] at hs; rw [u's, u'n (fun e => hxy e.symm)]; rw [D'n (fun e => hxy e.symm)] at hs2
    exact ((h77 hs).2.2.2.2 y hy (fun e => hxy e.symm) hs2).symm
   ·by_cases e2 : y = i
    ·subst e2
     rw [D's] at hs2; rw [u's, u'n e]; rw [D'n e] at hs
     exact (h77 hs2).2.2.2.2 x hx e hs
    ·rw [D'n e] at hs; rw [D'n e2] at hs2; rw [u'n e, u'n e2]; exact h.aw x y hx hy hxy hs hs2
  ·obtain ⟨k1, k2, k3⟩ := h.fz b o hb
   exact ⟨⟨hset b o k1.at_ k1.ne (fun hs => k3 i hi hs), k1.ne, k1.nsb, k1.nv, k1.nk⟩, k2, nobody b k1.lt k3⟩
  ·by_cases e : x = i
   ·subst e
    rw [hpr] at hp; injection hp with hp; subst hp
    rw [D's] at hs
    obtain ⟨k1, k2, k3⟩ := hpr' hs
    refine ⟨k1, k2, fun y hy hs2 => ?_⟩
    by_cases e2 : y = x
    ·subst e2
     rw [D's] at hs2
     have q1 : s' ≤ 6 := hs
     have q2 : s' = 7 := hs2
     omega
    ·rw [D'n e2] at hs2; rw [u'n e2]; exact k3 y hy e2 hs2
   ·rw [D'n e] at hs
    obtain ⟨k1, k2, k3⟩ := h.pr x p hp hs
    exact ⟨⟨hset _ _ k1.at_ k1.ne (fun hs => k3 i hi hs), k1.ne, k1.nsb, k1.nv, k1.nk⟩, k2, nobody _ k1.lt k3⟩
  ·have e2 : tag = .ret := by
    rcases htag with rfl | ⟨_, rfl⟩
    ·exact e
    ·cases e
   exact hacq e2
theorem PI.stepW (h : PI P ty Wg n0 Sb Fz Post j D pl fam prs u rel tag bit τ0 f0 v st sm gs w t) {i : Nat} {pr : Nat × Obj} (hpr : prs[i]? = some pr) {g g' : Goroutine} (hg : gs[n0 + i]? = some g) {es : Array Event} (hgo : stepG P false g w = .go g' w' es)
  {s' d' pl' : Nat} {τ' : Tre} {ui' : World} {st' sm' : Int}
  (hws : WState P ty Wg pr s' d' pl' τ' ui' g' w') (hdeaf : deafBehind (D i).deaf es = d')
  (hs0 : Safe v w w' es) (hsw : ∀ i', i' < j → i' ≠ i → (D i').stage = 7 → Safe (u i') w w' es)
  (hset : ∀ b o, w.heap[b]? = some o → b ≠ Wg → ((D i).stage = 7 → ¬ MineAt (u i) b) → w'.heap[b]? = some o)
  (h77 : s' = 7 → (D i).stage = 7 ∧ (∀ b, MineAt ui' b → MineAt (u i) b ∨ w.heap.size ≤ b) ∧ Pl Sb Wg w' (t ++ MemOp.ofEvents (n0 + i) g.frame.fn g.frame.place es) (n0 + i) ui' ∧ Apart2 v ui' ∧ ∀ i', i' < j → i' ≠ i → (D i').stage = 7 → Apart2 (u i') ui')
  (htr : Tr (fun l => ∃ b, locB l = some b ∧ Sb b) Wg n0 j w'.heap.size rel' (t ++ MemOp.ofEvents (n0 + i) g.frame.fn g.frame.place es)) (hrel : ∀ k, k ≠ n0 + i → rel' k = rel k) (hrl : s' ≤ 6 ↔ ∃ r, rel' (n0 + i) = some r)
  (hrs : RS ty Wg w w') (hwg : WgAt ty Wg w' st' sm')
  (hmode : ∀ tag', (tag' = tag ∨ (tag = .blk ∧ tag' = .w3)) → (mayWake P g = true → g'.status = .running → tag' ≠ .blk) → Go.ConcN.Mode j (Go.ConcN.upd D i ⟨s', 0, d'⟩) tag' st' sm')
  (hpr' : s' ≤ 6 → Settled Sb Wg w' pr.1 pr.2 ∧ ¬ MineAt v pr.1 ∧ ∀ i', i' < j → i' ≠ i → (D i').stage = 7 → ¬ MineAt (u i') pr.1)
  (hacq : tag = .ret → AcqS Wg n0 j rel' (t ++ MemOp.ofEvents (n0 + i) g.frame.fn g.frame.place es))
  (hlt : (s' + pl' < (D i).stage + pl i ∧ cnt ⟨s', 0, d'⟩ ≤ cnt (D i)) ∨ (s' = (D i).stage ∧ pl' = pl i ∧ TLt τ' (fam (n0 + i)))) :
  ∃ m₁ ops μ', runT P (crowd gs w sl) (n0 + i) = (.next m₁, ops) ∧ muLt μ' (muOf n0 j D pl fam tag bit τ0 f0) ∧ PInv P ty Wg n0 Sb Fz Post μ' m₁ (t ++ ops) := by
 have hrun := runT_crowd_go (P := P) (sl := sl) (i := n0 + i) hg (by rw [show (n0 + i == 0) = false by have := h.n0p; simp; omega]; exact hgo)
 obtain ⟨a, ha, hcs⟩ := h.c
 obtain ⟨tag', f', hcs', htag, hwk⟩ := hcs.woken hrs g g'
 obtain ⟨g1, hg1, _, hdt⟩ := h.wk i pr hpr
 refine h.stepX hpr hrun ofEvents_g (fun x hx => ?_) (fun a' ha' => by rw [ha] at ha'; injection ha' with e; subst e; exact hcs') htag hws (by rw [Deaf_own, hdt]; exact hdeaf) hs0.ops (fun x hx hne hs => (hsw x hx hne hs).ops) hset h77 htr hrel hrl hrs hwg (hmode tag' htag hwk) hpr' hacq hlt
 unfold woken
 split
 ·exact again_running _ hx
 ·rfl
end
end Go.Eng
namespace Go.Eng
open Go Go.RowKit
open Go.Conc
open Go.ConcN (WgLive WD CTag Vc Ssum phi sumTo cnt isW3 isOpen OpenSt AllQuit pend)
open Go.ConcR (stA smA rd wr mk KK WgAt DC0 Bk)
open Go.Eng.Wg
section
variable {j i : Nat} {D : Nat → WD} {tag : CTag} {st sm : Int}
theorem ze5 (hi : i < j) (h5 : 5 ≤ (D i).stage) {s' d' : Nat} (hs : s' ≤ 4) : Vc j (Go.ConcN.upd D i ⟨s', 0, d'⟩) + 1 = Vc j D := by
 have := Go.ConcN.Vc_upd D (⟨s', 0, d'⟩ : WD) hi
 have c1 : cnt (D i) = 1 := by simp [cnt, h5]
 have c2 : cnt (⟨s', 0, d'⟩ : WD) = 0 := by simp [cnt]; omega
 omega
theorem zbu (hm : Go.ConcN.Mode j D tag st sm) (hi : i < j) (h5 : (D i).stage = 5) (hj : j ≤ 1000000) :
  ∃ v wt : Nat, wt ≤ 1 ∧ v < 2147483647 ∧ st = ((v : Int) + 1) * KK + wt ∧ sm = 0 ∧ ((v = 0 ∧ wt = 1) → ∀ d', Go.ConcN.Mode j (Go.ConcN.upd D i ⟨4, 0, d'⟩) tag (v * KK + wt) 0) ∧
   (¬ (v = 0 ∧ wt = 1) → ∀ d', Go.ConcN.Mode j (Go.ConcN.upd D i ⟨1, 0, d'⟩) tag (v * KK + wt) 0) := by
 have hle := Go.ConcN.Vc_le j D
 have hdn : ∀ {s' d' : Nat}, s' ≤ 4 → Vc j (Go.ConcN.upd D i ⟨s', 0, d'⟩) + 1 = Vc j D := fun hs => ze5 hi (by omega) hs
 have hop : OpenSt j D → ∀ d', OpenSt j (Go.ConcN.upd D i ⟨1, 0, d'⟩) := fun h d' x hx => by
  by_cases e : x = i
  ·subst e; rw [Go.ConcN.upd_same]; simp
  ·rw [Go.ConcN.upd_ne _ _ e]; exact h x hx
 cases hm with
 | opn h1 h2 h3 =>
  have hp : pend tag ≤ 1 := by cases tag <;> simp only [pend] <;> first | omega | (split <;> omega)
  have h0 := @hdn 1 0 (by omega)
  refine ⟨Vc j D + pend tag - 1, 0, by omega, by omega, ?_, rfl, fun h => absurd h.2 (by omega), fun _ d' => ?_⟩
  ·have : ((Vc j D + pend tag : Nat) : Int) = ((Vc j D + pend tag - 1 : Nat) : Int) + 1 := by omega
   rw [this]; simp
  ·have hv := @hdn 1 d' (by omega)
   have e : (((Vc j D + pend tag - 1 : Nat) : Int)) * KK + ((0 : Nat) : Int) = ((Vc j (Go.ConcN.upd D i ⟨1, 0, d'⟩) + pend tag : Nat) : Int) * KK := by
    rw [show Vc j D + pend tag - 1 = Vc j (Go.ConcN.upd D i ⟨1, 0, d'⟩) + pend tag by omega]; simp
   rw [e]
   exact .opn h1 (hop h2 d') fun vs ev => by have := h3 vs ev; omega
 | reg h1 h2 h3 =>
  refine ⟨Vc j D - 1, 1, by omega, by omega, ?_, rfl, fun h d' => ?_, fun h d' => ?_⟩
  ·have : ((Vc j D : Nat) : Int) = ((Vc j D - 1 : Nat) : Int) + 1 := by omega
   rw [this]; simp
  ·have h1' : Vc j D = 1 := by omega
   have hoth : ∀ x, x < j → x ≠ i → (D x).stage = 1 := fun x hx e => by
    have c0 := Go.ConcN.others_uncounted hi h1' (by simp [cnt, h5]) x hx e
    have := h2 x hx
    simp only [cnt] at c0
    split at c0 <;> omega
   have := Go.ConcN.Mode.last (j := j) (D := Go.ConcN.upd D i ⟨4, 0, d'⟩) (tag := tag) i h1 hi (by rw [Go.ConcN.upd_same]; simp) (fun x hx e => by rw [Go.ConcN.upd_ne _ _ e]; exact hoth x hx e)
   rw [Go.ConcN.upd_same] at this
   rw [h.1]
   simpa using this
  ·have hv := @hdn 1 d' (by omega)
   have e : (((Vc j D - 1 : Nat) : Int)) * KK + ((1 : Nat) : Int) = ((Vc j (Go.ConcN.upd D i ⟨1, 0, d'⟩) : Nat) : Int) * KK + 1 := by
    rw [show Vc j D - 1 = Vc j (Go.ConcN.upd D i ⟨1, 0, d'⟩) by omega]; simp
   rw [e]
   exact .reg h1 (hop h2 d') (by omega)
 | last L _ h2 h3 h4 =>
  by_cases e : i = L
  ·subst e; omega
  ·have := h4 i hi e; omega
 | sema h2 => have := h2 i hi; omega
 | fin _ h2 => have := h2 i hi; omega
theorem z6y (hm : Go.ConcN.Mode j D tag st sm) (hi : i < j) (h : (D i).stage = 4 ∨ (D i).stage = 3 ∨ (D i).stage = 2) :
  st = (if (D i).stage = 2 then 0 else 1) ∧ sm = 0 ∧ isW3 tag ∧ (∀ d', Go.ConcN.Mode j (Go.ConcN.upd D i ⟨3, 0, d'⟩) tag 1 0) ∧ (∀ d', Go.ConcN.Mode j (Go.ConcN.upd D i ⟨2, 0, d'⟩) tag 0 0) ∧ ∀ d', Go.ConcN.Mode j (Go.ConcN.upd D i ⟨1, 0, d'⟩) .w3 0 1 := by
 obtain ⟨h1, h2, h3, h4⟩ := hm.isLast hi h
 refine ⟨h3, h4, h1, fun d' => ?_, fun d' => ?_, fun d' => .sema fun x hx => ?_⟩
 ·have := Go.ConcN.Mode.last (j := j) (D := Go.ConcN.upd D i ⟨3, 0, d'⟩) (tag := tag) i h1 hi (by rw [Go.ConcN.upd_same]; simp) (fun x hx e => by rw [Go.ConcN.upd_ne _ _ e]; exact h2 x hx e)
  rw [Go.ConcN.upd_same] at this
  simpa using this
 ·have := Go.ConcN.Mode.last (j := j) (D := Go.ConcN.upd D i ⟨2, 0, d'⟩) (tag := tag) i h1 hi (by rw [Go.ConcN.upd_same]; simp) (fun x hx e => by rw [Go.ConcN.upd_ne _ _ e]; exact h2 x hx e)
  rw [Go.ConcN.upd_same] at this
  simpa using this
 ·by_cases e : x = i
  ·subst e; rw [Go.ConcN.upd_same]
  ·rw [Go.ConcN.upd_ne _ _ e]; exact h2 x hx e
end
theorem z3O {v v' w w' : World} {es : Array Event} (k : Turn v v' w w' es) : ∀ e ∈ es, e.loc ≠ .mark .disable ∧ e.loc ≠ .mark .enable := fun e he => by
 have := k.evs e he
 obtain ⟨loc, wr, sy⟩ := e
 refine ⟨?_, ?_⟩ <;> (rintro rfl; exact this.elim)
theorem z4U {v v' w w' : World} {es : Array Event} {g : Nat} {fn : FuncId} {pos : String} (k : Turn v v' w w' es) : ∀ op ∈ MemOp.ofEvents g fn pos es, ∀ a, op.act ≠ .mark (.release a) := fun op hop a => by
 obtain ⟨e, he, rfl⟩ := memOps hop
 have := k.evs e he
 intro hx
 have hl := Go.ConcR.loc_of_ofEvent hx
 obtain ⟨loc, wr, sy⟩ := e
 simp only at hl; subst hl
 exact this.elim
theorem z98 {v v' w w' : World} {es : Array Event} {g : Nat} {fn : FuncId} {pos : String} (k : Turn v v' w w' es) : ∀ op ∈ MemOp.ofEvents g fn pos es, ∀ x, op.act.touch? = some x → x.kind ≠ .said := fun op hop x hx => by
 obtain ⟨e, he, rfl⟩ := memOps hop
 have h := k.evs e he
 obtain ⟨loc, wr, sy⟩ := e
 cases loc with
 | cell a =>
  have h1 : MemAct.ofEvent ⟨.cell a, wr, sy⟩ = .access ⟨.cell a, wr, sy⟩ := rfl
  simp only [h1] at hx
  injection hx with hx; subst hx
  cases sy <;> simp
 | obj r =>
  have h1 : MemAct.ofEvent ⟨.obj r, wr, sy⟩ = .access ⟨.obj r, wr, sy⟩ ∨ MemAct.ofEvent ⟨.obj r, wr, sy⟩ = .close r := by
   cases wr <;> cases sy <;> first | exact .inl rfl | exact .inr rfl
  rcases h1 with h1 | h1
  ·simp only [h1] at hx
   injection hx with hx; subst hx
   cases sy <;> simp
  ·simp only [h1] at hx; cases hx
 | output => exact h.elim
 | goroutines => exact h.elim
 | mark m =>
  have h1 : MemAct.ofEvent ⟨.mark m, wr, sy⟩ = .mark m := rfl
  simp only [h1] at hx
  cases m <;> first | exact h.elim | cases hx
section
variable [Kp : Keep]
variable {P : Program} {ty : TypeId} {Wg n0 : Nat} {Sb : Nat → Prop} {Fz : Nat → Option Obj} {Post : Sta → Prop}
 {j : Nat} {D : Nat → WD} {pl : Nat → Nat} {fam : Nat → Tre} {prs : List (Nat × Obj)} {u : Nat → World} {rel rel' : Nat → Option Nat} {tag : CTag} {bit : Nat} {τ0 : Tre} {f0 : Nat} {v : World} {st sm : Int}
 {gs : Array Goroutine} {w w' : World} {t : Trace} {sl : Option (Nat × Nat)}
theorem PI.wgl (h : PI P ty Wg n0 Sb Fz Post j D pl fam prs u rel tag bit τ0 f0 v st sm gs w t) : Wg < w.heap.size := (Array.getElem?_eq_some_iff.1 (show w.heap[Wg]? = some _ from h.wg)).1
theorem PI.playW (h : PI P ty Wg n0 Sb Fz Post j D pl fam prs u rel tag bit τ0 f0 v st sm gs w t) {i : Nat} {pr : Nat × Obj} (hpr : prs[i]? = some pr) {fr fr' : Frame} {cs cs' : List Frame} (hg : gs[n0 + i]? = some (G fr cs)) {es : Array Event} (hgo : stepG P false (G fr cs) w = .go (G fr' cs') w' es)
  (h7 : (D i).stage = 7) (hd : (D i).deaf = 0) (hp : pl i = 1) {τ' : Tre} {ui' : World} (hw : WkT P ty Wg pr τ' (fr', cs', ui')) (hτ : TLt τ' (fam (n0 + i))) (hv : View ui' w') (k : Turn (u i) ui' w w' es) :
  ∃ m₁ ops μ', runT P (crowd gs w sl) (n0 + i) = (.next m₁, ops) ∧ muLt μ' (muOf n0 j D pl fam tag bit τ0 f0) ∧ PInv P ty Wg n0 Sb Fz Post μ' m₁ (t ++ ops) := by
 have hi : i < j := by rw [← h.len]; exact (List.getElem?_eq_some_iff.1 hpr).1
 have hpw := h.pw i hi h7
 have hnW : ¬ MineAt (u i) Wg := fun hm => (hpw.sb Wg hm.read).2 rfl
 have hkW : w'.heap[Wg]? = w.heap[Wg]? := k.keep Wg h.wgl hnW
 have hmode := (h.mode.same (i := i) 0 0)
 rw [h7] at hmode
 have hrn : ∀ r, rel (n0 + i) ≠ some r := fun r hr => by have := (h.rl i hi).2 ⟨r, hr⟩; omega
 refine h.stepW hpr hg hgo (.play hw) (by rw [hd]; exact deafBehind_still (z3O k) 0) (Safe.z9U (h.ap i hi h7).symm k h.p0.view) (fun x hx hne hs => Safe.z9U (h.aw i x hi hx (Ne.symm hne) h7 hs) k (h.pw x hx hs).view)
  (fun b o hb _ hn => (k.keep b (Array.getElem?_eq_some_iff.1 hb).1 (hn h7)).trans hb) (fun _ => ⟨h7, k.mine, hpw.own k hv h.tr.seen h.wgl h.sbl, ((h.ap i hi h7).symm.turn k h.p0.view.size).symm, fun x hx hne hs => ((h.aw i x hi hx (Ne.symm hne) h7 hs).turn k (h.pw x hx hs).view.size).symm⟩)
  (rel' := rel) ?_ (fun _ _ => rfl) ⟨fun hc => by omega, fun ⟨r, hr⟩ => absurd hr (hrn r)⟩ (fun ⟨a, b, hl⟩ => ⟨a, b, hkW.trans hl⟩) (hkW.trans h.wg) (fun tag' ht _ => hmode.retag ht) (fun hc => by omega) (fun e => absurd e (h.mode.not_ret hi (by omega))) (.inr ⟨h7.symm, hp.symm, hτ⟩)
 refine h.tr.grow ofEvents_g (by omega) k.size (fun op hop => z9T (g := n0 + i) k hpw.view h.tr.seen op (Array.mem_append.2 (.inr hop))) (z4U k) (fun said => hpw.kn.clean (h.tr.nr said) k h.tr.seen) (fun op hop x hx hb => ?_) (fun op hop x hx hk => absurd hk (z98 k op hop x hx)) (fun _ hc => by omega) (fun r _ hr => absurd hr (hrn r))
 obtain ⟨e, he, rfl⟩ := memOps hop
 obtain ⟨_, h1, _⟩ := z2K (k.evs e he) hx hb
 rcases h1 with h1 | h1
 ·have := h.wgl; omega
 ·exact absurd rfl (hpw.sb Wg h1).2
theorem PI.bookW (h : PI P ty Wg n0 Sb Fz Post j D pl fam prs u rel tag bit τ0 f0 v st sm gs w t) {i : Nat} {pr : Nat × Obj} (hpr : prs[i]? = some pr) {g g' : Goroutine} (hg : gs[n0 + i]? = some g) {es : Array Event} (hgo : stepG P false g w = .go g' w' es)
  {s' d' : Nat} {τ' : Tre} {st' sm' : Int} (hs6 : (D i).stage ≤ 6) (hs' : s' ≤ 6) (hp : pl i = 0) (hws : WState P ty Wg pr s' d' 0 τ' (u i) g' w') (ha : Aside Wg w w') (hwg : WgAt ty Wg w' st' sm') (hbk : ∀ e ∈ es, Bk Wg e)
  (hd : ∀ x e, es[x]? = some e → (MemAct.ofEvent e).touch? = none ∨ 0 < deafBehind (D i).deaf (es.extract 0 x)) (hdeaf : deafBehind (D i).deaf es = d')
  (hmode : ∀ tag', (tag' = tag ∨ (tag = .blk ∧ tag' = .w3)) → (mayWake P g = true → g'.status = .running → tag' ≠ .blk) → Go.ConcN.Mode j (Go.ConcN.upd D i ⟨s', 0, d'⟩) tag' st' sm')
  (hlt : (s' < (D i).stage ∧ cnt ⟨s', 0, d'⟩ ≤ cnt (D i)) ∨ (s' = (D i).stage ∧ TLt τ' (fam (n0 + i)))) :
  ∃ m₁ ops μ', runT P (crowd gs w sl) (n0 + i) = (.next m₁, ops) ∧ muLt μ' (muOf n0 j D pl fam tag bit τ0 f0) ∧ PInv P ty Wg n0 Sb Fz Post μ' m₁ (t ++ ops) := by
 have hi : i < j := by rw [← h.len]; exact (List.getElem?_eq_some_iff.1 hpr).1
 obtain ⟨g1, hg1, _, hdt⟩ := h.wk i pr hpr
 have htw : ∀ e ∈ es, ∀ x, (MemAct.ofEvent e).touch? = some x → locB x.loc = some Wg ∧ x.kind = .atomic := fun e he x hx => by
  rcases hbk e he with h1 | h1 | ⟨a, wr, rfl, hw⟩
  ·rw [Go.ConcR.ofEvent_loc_mark h1] at hx; cases hx
  ·rw [Go.ConcR.ofEvent_loc_mark h1] at hx; cases hx
  ·simp only [Go.ConcR.ofEvent_cell, MemAct.touch?, Option.some.injEq] at hx
   subst hx
   exact ⟨by simp [locB, hw], by simp⟩
 have htw' : ∀ op ∈ MemOp.ofEvents (n0 + i) g.frame.fn g.frame.place es, ∀ x, op.act.touch? = some x → locB x.loc = some Wg ∧ x.kind = .atomic := fun op hop x hx => by
  obtain ⟨e, he, rfl⟩ := memOps hop
  exact htw e he x hx
 obtain ⟨k1, k2, k3⟩ := h.pr i pr hpr hs6
 obtain ⟨r, hr⟩ := (h.rl i hi).1 hs6
 refine h.stepW hpr hg hgo hws hdeaf (Safe.z9V ha (fun b hb => (h.p0.sb b hb).2) fun e he x hx => (htw e he x hx).1) (fun x hx hne hs => Safe.z9V ha (fun b hb => ((h.pw x hx hs).sb b hb).2) fun e he y hy => (htw e he y hy).1)
  (fun b o hb he _ => (ha.block b he).trans hb) (fun hc => by omega) (rel' := rel) ?_ (fun _ _ => rfl) ⟨fun _ => ⟨r, hr⟩, fun _ => hs'⟩ (fun _ => ⟨_, _, hwg⟩) hwg hmode (fun _ => ⟨k1.book ha, k2, fun x hx _ hs => k3 x hx hs⟩) (fun e => ?_) (hlt.imp (fun x => ⟨by omega, x.2⟩) fun x => ⟨x.1, hp.symm, x.2⟩)
 ·refine h.tr.grow ofEvents_g (by omega) (Nat.le_of_eq ha.size.symm) (fun op hop => ?_) (fun op hop a => ?_) (h.tr.book ofEvents_g (.inr ⟨by omega, by omega⟩) fun op hop x hx => ?_) (fun op hop x hx _ => ?_) (fun op hop x hx hk => ?_) (fun _ hc => by omega) (fun r' _ hr' => ?_)
  ·obtain ⟨e, he, rfl⟩ := memOps hop
   rcases hbk e he with h1 | h1 | ⟨a, wr, rfl, hw⟩
   ·rw [Go.ConcR.ofEvent_loc_mark h1]; trivial
   ·rw [Go.ConcR.ofEvent_loc_mark h1]; trivial
   ·rw [Go.ConcR.ofEvent_cell]; show a.block < w'.heap.size; rw [hw, ha.size]; exact h.wgl
  ·obtain ⟨e, he, rfl⟩ := memOps hop
   intro hx
   have hl := Go.ConcR.loc_of_ofEvent hx
   rcases hbk e he with h1 | h1 | ⟨a', wr, rfl, hw⟩
   ·rw [h1] at hl; cases hl
   ·rw [h1] at hl; cases hl
   ·cases hl
  ·obtain ⟨h1, h2⟩ := htw' op hop x hx
   exact ⟨h1, by rw [h2]; simp, by rw [h2]; simp⟩
  ·obtain ⟨h1, h2⟩ := htw' op hop x hx
   rw [h2]; simp
  ·obtain ⟨h1, h2⟩ := htw' op hop x hx
   rw [h2] at hk; cases hk
  ·rw [hr] at hr'; injection hr' with hr'; subst hr'
   exact ⟨(h.tr.wkr (n0 + i) r (by omega) hr).1.book hdt _ _ hbk hd, htw'⟩
 ·obtain ⟨q, q1, q2, q3, q4⟩ := h.acq e
  have hql := lt_of_act? q1
  exact ⟨q, by rw [act?_old hql]; exact q1, by rw [g?_old hql]; exact q2, (heard_old hql).2 q3, q4⟩
end
end Go.Eng
namespace Go.Eng
open Go Go.RowKit
open Go.Conc
open Go.ConcN (WgLive WD CTag Vc Ssum phi sumTo cnt isW3 isOpen OpenSt AllQuit pend)
open Go.ConcR (stA smA rd wr mk KK WgAt DC0 Bk)
open Go.Eng.Wg
theorem zcJ {g : Goroutine} (h : g.status ≠ .blocked ∨ g.offers = none) (r : Nat) (send : Bool) : offersAt g r send = [] := by
 rcases h with h | h
 ·exact offersAt_of_not_blocked h r send
 ·unfold offersAt
  rw [h]
  split <;> simp_all
section
variable [Kp : Keep]
variable {P : Program} {ty : TypeId} {Wg n0 : Nat} {Sb : Nat → Prop} {Fz : Nat → Option Obj} {Post : Sta → Prop}
 {j : Nat} {D : Nat → WD} {pl : Nat → Nat} {fam : Nat → Tre} {prs : List (Nat × Obj)} {u : Nat → World} {rel rel' : Nat → Option Nat} {tag : CTag} {bit d : Nat} {τ0 τ : Tre} {f0 : Nat} {v : World} {st sm : Int}
 {gs : Array Goroutine} {w w' : World} {t : Trace} {sl : Option (Nat × Nat)} {a : Goroutine}
theorem CState.offers (h : CState P ty Wg Fz Post prs tag d bit τ f0 v a w) : a.status ≠ .blocked ∨ a.offers = none := by
 by_cases hb : tag = .blk
 ·subst hb
  cases h with
  | blk p hb => exact .inr (hb w id).2.1
 ·rcases h.status with ⟨hs, _⟩ | ⟨_, hs⟩
  ·exact .inl (by rw [hs]; simp)
  ·exact absurd hs hb
theorem PI.noPartner (h : PI P ty Wg n0 Sb Fz Post j D pl fam prs u rel tag bit τ0 f0 v st sm gs w t) (i c : Nat) (send : Bool) : partners (gs.setIfInBounds i ph) c send = [] := by
 refine partners_nil fun k g hk => ?_
 rcases getElem?_stand gs i k g hk with ⟨_, rfl⟩ | ⟨_, hk⟩
 ·rfl
 ·refine zcJ ?_ c send
  have hlt : k < n0 + j := by have := (Array.getElem?_eq_some_iff.1 hk).1; rw [h.size] at this; exact this
  have ok : ∀ {x : Goroutine}, x.status = .running ∨ x.status = .finished → x.status ≠ .blocked := fun hx => by rcases hx with hx | hx <;> rw [hx] <;> simp
  rcases Nat.eq_zero_or_pos k with rfl | hpos
  ·obtain ⟨a, ha, hc⟩ := h.c
   rw [ha] at hk; injection hk with hk; subst hk
   exact hc.offers
  ·rcases Nat.lt_or_ge k n0 with hkn | hkn
   ·obtain ⟨m, _, hq⟩ := h.old k g hpos hkn hk
    exact .inl (ok hq.status)
   ·obtain ⟨x, rfl⟩ : ∃ x, k = n0 + x := ⟨k - n0, by omega⟩
    obtain ⟨p, hp⟩ : ∃ p, prs[x]? = some p := ⟨prs[x]'(by rw [h.len]; omega), by simp [show x < prs.length by rw [h.len]; omega]⟩
    obtain ⟨g1, hg1, hw1, _⟩ := h.wk x p hp
    rw [hk] at hg1; injection hg1 with hg1; subst hg1
    exact .inl (ok hw1.status)
theorem PI.sendW (h : PI P ty Wg n0 Sb Fz Post j D pl fam prs u rel tag bit τ0 f0 v st sm gs w t) {i : Nat} {pr : Nat × Obj} (hpr : prs[i]? = some pr) {fr : Frame} {cs : List Frame} (hg : gs[n0 + i]? = some (G fr cs))
  (h7 : (D i).stage = 7) (hd : (D i).deaf = 0) (hp : pl i = 1) {c cap sn rc : Nat} {buf : Array Value} {tm : Bool} {x z : Value} (hgo : ∀ W, stepG P false (G fr cs) W = .comm (G fr cs) #[scase c x z] true .send W #[])
  (hc : (u i).heap[c]? = some (.chan cap buf false sn rc tm)) (hroom : buf.size < cap) {τ' : Tre} (hw : WkT P ty Wg pr τ' (fr.finish undef, cs, sent (u i) c cap sn rc buf tm x)) (hτ : TLt τ' (fam (n0 + i))) :
  ∃ m₁ ops μ', runT P (crowd gs w sl) (n0 + i) = (.next m₁, ops) ∧ muLt μ' (muOf n0 j D pl fam tag bit τ0 f0) ∧ PInv P ty Wg n0 Sb Fz Post μ' m₁ (t ++ ops) := by
 have hi : i < j := by rw [← h.len]; exact (List.getElem?_eq_some_iff.1 hpr).1
 have hpw := h.pw i hi h7
 have hmo : MineO (.chan cap buf false sn rc tm) := ⟨by unfold junk; simp, by simp⟩
 have hmi : MineAt (u i) c := ⟨_, hc, hmo⟩
 have hwc : w.heap[c]? = some (.chan cap buf false sn rc tm) := by
  have hlt : c < w.heap.size := Nat.lt_of_lt_of_le hmi.read.lt hpw.view.size
  have := hpw.view.alike c _ w.heap[c] hc (by simp [hlt])
  rw [← z1F this hmo]; simp [hlt]
 have hcW : c ≠ Wg := (hpw.sb c hmi.read).2
 have hcl : c < w.heap.size := (Array.getElem?_eq_some_iff.1 hwc).1
 have hrn : ∀ r, rel (n0 + i) ≠ some r := fun r hr => by have := (h.rl i hi).2 ⟨r, hr⟩; omega
 have hne : (n0 + i == 0) = false := by have := h.n0p; simp; omega
 have hrun := crowd_send_room (P := P) (sl := sl) hg (by rw [hne]; exact hgo w) hwc hroom (h.noPartner (n0 + i) c false)
 rw [finishComm_send, Go.Conc.ofEvents_eq] at hrun
 simp only [Array.map_empty, Array.empty_append] at hrun
 obtain ⟨W', hW'⟩ : ∃ W', W' = w.setChan c cap (buf.push x) false (sn + 1) rc tm := ⟨_, rfl⟩
 rw [← hW'] at hrun
 have heap' : W'.heap = w.heap.setIfInBounds c (.chan cap (buf.push x) false (sn + 1) rc tm) := by rw [hW']; rfl
 have hsz : W'.heap.size = w.heap.size := by rw [heap']; simp
 have hsame : W'.os = w.os ∧ W'.tape = w.tape ∧ W'.output = w.output := by rw [hW']; exact ⟨rfl, rfl, rfl⟩
 have hkeep : ∀ b, b ≠ c → W'.heap[b]? = w.heap[b]? := fun b hb => by rw [heap', Array.getElem?_setIfInBounds_ne (fun e => hb e.symm)]
 obtain ⟨ops, hops⟩ : ∃ ops : Trace, ops = #[({ g := n0 + i, fn := (G fr cs).frame.fn, pos := (G fr cs).frame.place, act := .send c sn } : MemOp), { g := n0 + i, fn := (G fr cs).frame.fn, pos := (G fr cs).frame.place, act := .sendDone c sn }] := ⟨_, rfl⟩
 rw [← hops] at hrun
 have hmem : ∀ op ∈ ops, op.g = n0 + i ∧ (op.act = .send c sn ∨ op.act = .sendDone c sn) := by
  rw [hops]; intro op hop
  simp only [List.mem_toArray, List.mem_cons, List.not_mem_nil, or_false] at hop
  rcases hop with rfl | rfl
  ·exact ⟨rfl, .inl rfl⟩
  ·exact ⟨rfl, .inr rfl⟩
 have hnt : ∀ op ∈ ops, op.act.touch? = none := fun op hop => by rcases (hmem op hop).2 with h1 | h1 <;> rw [h1] <;> rfl
 have hstill : ∀ op ∈ ops, op.act ≠ .mark .disable ∧ op.act ≠ .mark .enable := fun op hop => by rcases (hmem op hop).2 with h1 | h1 <;> rw [h1] <;> simp
 have safe : ∀ {y : World}, ¬ ReadAt y c → SafeO y w W' ops := fun hy => ⟨Nat.le_of_eq hsz.symm, hsame, fun b hb => hkeep b (fun e => hy (e ▸ hb)), fun op hop x b hx _ => by rw [hnt op hop] at hx; cases hx⟩
 obtain ⟨g1, hg1, _, hdt⟩ := h.wk i pr hpr
 have hmode := (h.mode.same (i := i) 0 0)
 rw [h7] at hmode
 have hu : (sent (u i) c cap sn rc buf tm x).heap = (u i).heap.setIfInBounds c (.chan cap (buf.push x) false (sn + 1) rc tm) := rfl
 have hcu : c < (u i).heap.size := hmi.read.lt
 have hug : ∀ b, (sent (u i) c cap sn rc buf tm x).heap[b]? = if b = c then some (.chan cap (buf.push x) false (sn + 1) rc tm) else (u i).heap[b]? := fun b => by
  rw [hu]
  split
  ·rename_i e; subst e; rw [Array.getElem?_setIfInBounds_self_of_lt hcu]
  ·rename_i e; rw [Array.getElem?_setIfInBounds_ne (fun e' => e e'.symm)]
 have hmine : ∀ b, MineAt (sent (u i) c cap sn rc buf tm x) b → MineAt (u i) b := fun b ⟨o, h1, h2⟩ => by
  rw [hug] at h1
  split at h1
  ·rename_i e; rw [e]; exact hmi
  ·exact ⟨o, h1, h2⟩
 have hread : ∀ b, ReadAt (sent (u i) c cap sn rc buf tm x) b → ReadAt (u i) b := fun b ⟨o, h1, h2⟩ => by
  rw [hug] at h1
  split at h1
  ·rename_i e; rw [e]; exact hmi.read
  ·exact ⟨o, h1, h2⟩
 have hview : View (sent (u i) c cap sn rc buf tm x) W' := by
  refine ⟨by rw [hsz, hu]; simpa using hpw.view.size, fun b o O ho hO => ?_, hsame.1.trans hpw.view.os, hsame.2.1.trans hpw.view.tape, hsame.2.2.trans hpw.view.output, fun b o ho => ?_⟩
  ·rw [hug] at ho
   split at ho
   ·rename_i e; subst e
    injection ho with ho; subst ho
    rw [heap', Array.getElem?_setIfInBounds_self_of_lt hcl] at hO
    injection hO with hO; subst hO
    exact .same _
   ·rename_i e
    rw [hkeep b e] at hO
    exact hpw.view.alike b o O ho hO
  ·rw [hug] at ho
   split at ho
   ·injection ho with ho; subst ho; trivial
   ·exact hpw.view.views b o ho
 have ap2 : ∀ {y : World}, Apart2 y (u i) → Apart2 y (sent (u i) c cap sn rc buf tm x) := fun ha => ⟨fun b hb hr => ha.l b hb (hread b hr), fun b hb hr => ha.r b (hmine b hb) hr⟩
 refine h.stepX (w' := W') (sl := sl) (f' := f0) (φ := id) (g' := G (fr.finish undef) cs) hpr (by rw [Array.map_id]; exact hrun) (fun op hop => (hmem op hop).1) (fun x _ => rfl) (fun a ha => ?_) (.inl rfl) (s' := 7) (d' := 0) (pl' := 1) (τ' := τ') (ui' := sent (u i) c cap sn rc buf tm x) (.play hw) ?_
  (safe ((h.ap i hi h7).r c hmi)) (fun x hx hne hs => safe ((h.aw i x hi hx (Ne.symm hne) h7 hs).l c hmi)) (fun b o hb hbe hn => ?_) (fun _ => ⟨h7, fun b hb => .inl (hmine b hb), ⟨hview, ⟨fun k y b hy hb hm => ?_, fun k y b hy hb hr hwr => ?_⟩, fun b hb => hpw.sb b (hread b hb)⟩, ap2 (h.ap i hi h7), fun x hx hne hs => ap2 (h.aw x i hx hi hne hs h7)⟩)
  (rel' := rel) ?_ (fun _ _ => rfl) ⟨fun hc => by omega, fun ⟨r, hr⟩ => absurd hr (hrn r)⟩ (fun ⟨p, q, hl⟩ => ⟨p, q, (hkeep Wg (Ne.symm hcW)).trans hl⟩) ((hkeep Wg (Ne.symm hcW)).trans h.wg) hmode (fun hc => by omega) (fun e => absurd e (h.mode.not_ret hi (by omega))) (.inr ⟨h7.symm, hp.symm, hτ⟩)
 ·obtain ⟨a0, ha0, hc0⟩ := h.c
  rw [ha] at ha0; injection ha0 with ha0; subst ha0
  exact hc0.rely fun ⟨p, q, hl⟩ => ⟨p, q, (hkeep Wg (Ne.symm hcW)).trans hl⟩
 ·rw [Go.ConcN.Deaf_still t _ _ hstill, hdt, hd]
 ·refine (hkeep b fun e => ?_).trans hb
  subst e; exact hn h7 hmi
 ·rcases z0T hy with ⟨_, h1⟩ | ⟨_, op, hop, _, h1⟩
  ·exact (hpw.kn.mine k y b h1 hb (hmine b hm)).app _
  ·rw [hnt op hop] at h1; cases h1
 ·rcases z0T hy with ⟨_, h1⟩ | ⟨_, op, hop, _, h1⟩
  ·exact (hpw.kn.read k y b h1 hb (hread b hr) hwr).app _
  ·rw [hnt op hop] at h1; cases h1
 ·refine h.tr.grow (fun op hop => (hmem op hop).1) (by omega) (Nat.le_of_eq hsz.symm) (fun op hop => ?_) (fun op hop b => ?_) (fun said => noRace_append (h.tr.nr said) (fun op hop => (hmem op hop).1) fun k y _ op hop b hb _ => by rw [hnt op hop] at hb; cases hb)
   (fun op hop y hy => by rw [hnt op hop] at hy; cases hy) (fun op hop y hy => by rw [hnt op hop] at hy; cases hy) (fun _ hc => by omega) (fun r _ hr => absurd hr (hrn r))
  ·rw [hsz]; rcases (hmem op hop).2 with h1 | h1 <;> rw [h1] <;> exact hcl
  ·rcases (hmem op hop).2 with h1 | h1 <;> rw [h1] <;> simp
theorem Safe.quiet {y : World} {es : Array Event} (hn : ∀ e ∈ es, (MemAct.ofEvent e).touch? = none) : Safe y w w es :=
 ⟨Nat.le_refl _, ⟨rfl, rfl, rfl⟩, fun _ _ => rfl, fun e he x b hx _ => by rw [hn e he] at hx; cases hx⟩
theorem PI.relW (h : PI P ty Wg n0 Sb Fz Post j D pl fam prs u rel tag bit τ0 f0 v st sm gs w t) {i : Nat} {pr : Nat × Obj} (hpr : prs[i]? = some pr) {g : Goroutine} (hg : gs[n0 + i]? = some g) (h7 : (D i).stage = 7) (hd : (D i).deaf = 0)
  {m : Nat} (hG : Goes P false (RS ty Wg) DC0 (WR0 P (RS ty Wg) ty Wg) m g w) (hpo : (u i).heap[pr.1]? = some pr.2) (hpm : MineO pr.2) (hlt : pl i = 1 ∨ (pl i = 0 ∧ fam (n0 + i) = chain m)) :
  ∃ m₁ ops μ', runT P (crowd gs w sl) (n0 + i) = (.next m₁, ops) ∧ muLt μ' (muOf n0 j D pl fam tag bit τ0 f0) ∧ PInv P ty Wg n0 Sb Fz Post μ' m₁ (t ++ ops) := by
 have hi : i < j := by rw [← h.len]; exact (List.getElem?_eq_some_iff.1 hpr).1
 have hpw := h.pw i hi h7
 obtain ⟨g1, hg1, _, hdt⟩ := h.wk i pr hpr
 have hrn : ∀ r, rel (n0 + i) ≠ some r := fun r hr => by have := (h.rl i hi).2 ⟨r, hr⟩; omega
 rcases Goes.cases hG with hstop | ⟨m', rfl, hstep⟩
 ·obtain ⟨_, g', hgo, m2, hk⟩ := hstop w id
  have hmi : MineAt (u i) pr.1 := ⟨_, hpo, hpm⟩
  have hset : Settled Sb Wg w pr.1 pr.2 := by
   have hl : pr.1 < w.heap.size := Nat.lt_of_lt_of_le hmi.read.lt hpw.view.size
   have := hpw.view.alike pr.1 _ w.heap[pr.1] hpo (by simp [hl])
   exact ⟨by rw [← z1F this hpm]; simp [hl], (hpw.sb _ hmi.read).2, (hpw.sb _ hmi.read).1, hpw.view.views _ _ hpo, by
    cases hk : Kp.kz pr.1 with
    | none => rfl
    | some o => exact absurd hmi ((h.kz pr.1 o hk).2.2.2 i hi h7)⟩
  have hn : ∀ e ∈ #[Go.ConcR.mk (.releaseMerge (stA Wg))], (MemAct.ofEvent e).touch? = none := by intro e he; simp at he; subst he; rfl
  refine h.stepW hpr hg hgo (s' := 6) (d' := 0) (pl' := 0) (ui' := u i) (.k1 hk) (by rw [hd]; rfl) (Safe.quiet hn) (fun _ _ _ _ => Safe.quiet hn) (fun b o hb _ _ => hb) (fun hc => by omega) (rel' := Go.ConcN.upd rel (n0 + i) (some t.size))
   (h.tr.release h.wgl (by omega) (by omega) h.n0p (hdt.trans hd)) (fun k hk => Go.ConcN.upd_ne _ _ hk) ⟨fun _ => ⟨t.size, Go.ConcN.upd_same _ _ _⟩, fun _ => by omega⟩ id h.wg
   (fun tag' ht _ => (h.mode.counted hi (by omega) (.inl rfl) 0 0).retag ht) (fun _ => ⟨hset, (h.ap i hi h7).symm.l _ hmi |> fun hr hm => hr hm.read, fun x hx hne hs hm => (h.aw i x hi hx (Ne.symm hne) h7 hs).l _ hmi hm.read⟩)
   (fun e => absurd e (h.mode.not_ret hi (by omega))) (.inl ⟨by omega, by simp [cnt, h7]⟩)
 ·obtain ⟨g', w1, es, hgo, ⟨rfl, rfl⟩, hg'⟩ := hstep w id
  have hmode := (h.mode.same (i := i) 0 0)
  rw [h7] at hmode
  have k := Turn.mute (u i) w1
  refine h.stepW hpr hg hgo (s' := 7) (d' := 0) (pl' := 0) (ui' := u i) (.r0 hg' hpo hpm) (by rw [hd]; rfl) (Safe.quiet (by simp)) (fun _ _ _ _ => Safe.quiet (by simp)) (fun b o hb _ _ => hb)
   (fun _ => ⟨h7, fun b hb => .inl hb, hpw.own k hpw.view h.tr.seen h.wgl h.sbl, h.ap i hi h7, fun x hx hne hs => h.aw x i hx hi hne hs h7⟩) (rel' := rel)
   (h.tr.grow ofEvents_g (by omega) (Nat.le_refl _) (by rw [Go.Conc.ofEvents_eq]; simp) (by rw [Go.Conc.ofEvents_eq]; simp) (by rw [Go.Conc.ofEvents_eq]; simpa using h.tr.nr) (by rw [Go.Conc.ofEvents_eq]; simp) (by rw [Go.Conc.ofEvents_eq]; simp) (fun _ hc => by omega) (fun r _ hr => absurd hr (hrn r)))
   (fun _ _ => rfl) ⟨fun hc => by omega, fun ⟨r, hr⟩ => absurd hr (hrn r)⟩ id h.wg (fun tag' ht _ => hmode.retag ht) (fun hc => by omega) (fun e => absurd e (h.mode.not_ret hi (by omega))) ?_
  rcases hlt with h1 | ⟨h1, h2⟩
  ·exact .inl ⟨by omega, by simp [cnt, h7]⟩
  ·exact .inr ⟨h7.symm, h1.symm, by rw [h2]; exact z5H m'⟩
end
end Go.Eng
namespace Go.Eng
open Go Go.RowKit
open Go.Conc
open Go.ConcN (WgLive WD CTag Vc Ssum phi sumTo cnt isW3 isOpen OpenSt AllQuit pend)
open Go.ConcR (stA smA rd wr KK WgAt DC0 Bk)
open Go.Eng.Wg
theorem bk_rd (Wg : Nat) : Bk Wg (Go.ConcR.rd (stA Wg)) := .inr (.inr ⟨stA Wg, false, rfl, rfl⟩)
theorem zcK (Wg : Nat) : Bk Wg (Go.ConcR.wr (stA Wg)) := .inr (.inr ⟨stA Wg, true, rfl, rfl⟩)
theorem zcL (Wg : Nat) : ∀ x e, (#[Go.ConcR.rd (stA Wg), Go.ConcR.wr (stA Wg)] : Array Event)[x]? = some e → (MemAct.ofEvent e).touch? = none ∨ 0 < deafBehind 1 ((#[Go.ConcR.rd (stA Wg), Go.ConcR.wr (stA Wg)] : Array Event).extract 0 x)
 | 0, _, _ => .inr (by simp [deafBehind])
 | 1, _, _ => .inr (by simp [deafBehind, Go.ConcR.rd])
 | x + 2, e, h => by simp at h
theorem zdw (Wg : Nat) : ∀ x e, (semEvents (smA Wg))[x]? = some e → (MemAct.ofEvent e).touch? = none ∨ 0 < deafBehind 1 ((semEvents (smA Wg)).extract 0 x)
 | 0, e, h => by simp [semEvents] at h; subst h; exact .inl rfl
 | 1, e, h => .inr (by simp [deafBehind, semEvents])
 | 2, e, h => .inr (by simp [deafBehind, semEvents])
 | 3, e, h => by simp [semEvents] at h; subst h; exact .inl rfl
 | x + 4, e, h => by simp [semEvents] at h
theorem bk_sem (Wg : Nat) : ∀ e ∈ semEvents (smA Wg), Bk Wg e := by
 intro e he
 simp [semEvents] at he
 rcases he with rfl | rfl | rfl | rfl
 ·exact .inl rfl
 ·exact .inr (.inr ⟨smA Wg, false, rfl, rfl⟩)
 ·exact .inr (.inr ⟨smA Wg, true, rfl, rfl⟩)
 ·exact .inr (.inl rfl)
theorem z4V {Wg : Nat} {e : Event} (h : e.mute = true) : Bk Wg e ∧ (MemAct.ofEvent e).touch? = none ∧ ∀ a, MemAct.ofEvent e ≠ .mark (.release a) := by
 obtain ⟨loc, wr, sy⟩ := e
 cases loc with
 | mark m => cases m <;> simp_all [Event.mute, Bk, MemAct.ofEvent, MemAct.touch?]
 | _ => simp [Event.mute] at h
section
variable [Kp : Keep]
variable {P : Program} {ty : TypeId} {Wg n0 : Nat} {Sb : Nat → Prop} {Fz : Nat → Option Obj} {Post : Sta → Prop}
 {j : Nat} {D : Nat → WD} {pl : Nat → Nat} {fam : Nat → Tre} {prs : List (Nat × Obj)} {u : Nat → World} {rel rel' : Nat → Option Nat} {tag : CTag} {bit d : Nat} {τ0 τ : Tre} {f0 : Nat} {v : World} {st sm : Int}
 {gs : Array Goroutine} {w w' : World} {t : Trace} {sl : Option (Nat × Nat)} {a : Goroutine}
theorem PI.idleW (h : PI P ty Wg n0 Sb Fz Post j D pl fam prs u rel tag bit τ0 f0 v st sm gs w t) {i : Nat} {pr : Nat × Obj} (hpr : prs[i]? = some pr) {g g' : Goroutine} (hg : gs[n0 + i]? = some g) (hgo : stepG P false g w = .go g' w #[])
  (hs6 : (D i).stage ≤ 6) (hp : pl i = 0) {m : Nat} (hf : fam (n0 + i) = chain (m + 1)) (hws : WState P ty Wg pr (D i).stage (D i).deaf 0 (chain m) (u i) g' w) :
  ∃ m₁ ops μ', runT P (crowd gs w sl) (n0 + i) = (.next m₁, ops) ∧ muLt μ' (muOf n0 j D pl fam tag bit τ0 f0) ∧ PInv P ty Wg n0 Sb Fz Post μ' m₁ (t ++ ops) :=
 h.bookW hpr hg hgo hs6 hs6 hp hws (.refl Wg w) h.wg (by simp) (by simp) rfl (fun tag' ht _ => (h.mode.same (i := i) 0 (D i).deaf).retag ht) (.inr ⟨rfl, by rw [hf]; exact z5H m⟩)
theorem PI.worker (h : PI P ty Wg n0 Sb Fz Post j D pl fam prs u rel tag bit τ0 f0 v st sm gs w t) {i : Nat} (hi : i < j) {g : Goroutine} (hg : gs[n0 + i]? = some g) (hrun : g.status = .running) :
  ∃ m₁ ops μ', runT P (crowd gs w sl) (n0 + i) = (.next m₁, ops) ∧ muLt μ' (muOf n0 j D pl fam tag bit τ0 f0) ∧ PInv P ty Wg n0 Sb Fz Post μ' m₁ (t ++ ops) := by
 obtain ⟨pr, hpr⟩ : ∃ p, prs[i]? = some p := ⟨prs[i]'(by rw [h.len]; omega), by simp [show i < prs.length by rw [h.len]; omega]⟩
 obtain ⟨g1, hg1, hw, hdt⟩ := h.wk i pr hpr
 obtain rfl : g = g1 := by rw [hg] at hg1; exact Option.some.inj hg1
 have hlive : WgLive ty Wg w := ⟨_, _, h.wg⟩
 have key : ∀ s d p τ, (D i).stage = s → (D i).deaf = d → pl i = p → fam (n0 + i) = τ → WState P ty Wg pr s d p τ (u i) g w →
   ∃ m₁ ops μ', runT P (crowd gs w sl) (n0 + i) = (.next m₁, ops) ∧ muLt μ' (muOf n0 j D pl fam tag bit τ0 f0) ∧ PInv P ty Wg n0 Sb Fz Post μ' m₁ (t ++ ops) := by
  intro s d p τ hs hd hp hf hw
  cases hw with
  | play hw =>
   cases τ with
   | leaf =>
    obtain ⟨h1, h2, h3⟩ := hw
    obtain ⟨m, hm⟩ := h1 w hlive
    exact h.relW hpr hg hs hd hm h2 h3 (.inl hp)
   | node f =>
    rcases hw with ⟨fr', cs', hm, hk⟩ | hk | ⟨c, cap, buf, sn, rc, tm, x, z, hm, hc, hroom, hk⟩
    ·exact h.playW hpr hg (hm w) hs hd hp hk ⟨f, _, _, hf, rfl⟩ (h.pw i hi hs).view (Turn.mute _ _)
    ·obtain ⟨fr', cs', v', hG, hk⟩ := hk (fill (u i) w)
     obtain ⟨w', es, h1, h2, h3⟩ := z6x hG (h.pw i hi hs).view
     exact h.playW hpr hg h1 hs hd hp hk ⟨f, _, _, hf, rfl⟩ h2 h3
    ·exact h.sendW hpr hg hs hd hp hm hc hroom hk ⟨f, _, _, hf, rfl⟩
  | r0 hG h2 h3 => exact h.relW hpr hg hs hd hG h2 h3 (.inr ⟨hp, hf⟩)
  | k1 hG =>
   rcases Goes.cases hG with hstop | ⟨m', rfl, hstep⟩
   ·obtain ⟨_, g', hgo, m2, hk⟩ := hstop w id
    exact h.bookW hpr hg hgo (s' := 5) (d' := 1) (by omega) (by omega) hp (.d1 hk) (.refl Wg w) h.wg (by intro e he; simp at he; subst he; exact .inl rfl) (by intro x e he; exact .inl (by have := Array.mem_of_getElem? he; simp at this; subst this; rfl)) (by rw [hd]; rfl)
     (fun tag' ht _ => (h.mode.counted hi (by omega) (.inr rfl) 0 1).retag ht) (.inl ⟨by omega, by simp [cnt, hs]⟩)
   ·obtain ⟨g', w1, es, hgo, ⟨rfl, rfl⟩, hg'⟩ := hstep w id
    exact h.idleW hpr hg hgo (by omega) hp hf (by rw [hs, hd]; exact .k1 hg')
  | d1 hG =>
   rcases Goes.cases hG with hstop | ⟨m', rfl, hstep⟩
   ·obtain ⟨_, hall⟩ := hstop w id
    obtain ⟨n, wt, q1, q2, q3, q4, q5, q6⟩ := zbu h.mode hi hs h.jb
    have hwg := h.wg
    rw [q3, q4] at hwg
    obtain ⟨g', hgo, hl, hq⟩ := hall n wt q1 q2 hwg
    by_cases hc : n = 0 ∧ wt = 1
    ·obtain ⟨m2, hk⟩ := hl hc
     exact h.bookW hpr hg hgo (s' := 4) (d' := 1) (by omega) (by omega) hp (.d2 hk) (aside_setCell w (stA Wg) _) (hwg.setSt _) (by intro e he; simp at he; rcases he with rfl | rfl; exact bk_rd Wg; exact zcK Wg) (by rw [hd]; exact zcL Wg) (by rw [hd]; rfl)
      (fun tag' ht _ => (q5 hc 1).retag ht) (.inl ⟨by omega, by simp [cnt]⟩)
    ·obtain ⟨q, hk⟩ := hq hc
     exact h.bookW hpr hg hgo (s' := 1) (d' := 1) (by omega) (by omega) hp (.quit hk) (aside_setCell w (stA Wg) _) (hwg.setSt _) (by intro e he; simp at he; rcases he with rfl | rfl; exact bk_rd Wg; exact zcK Wg) (by rw [hd]; exact zcL Wg) (by rw [hd]; rfl)
      (fun tag' ht _ => (q6 hc 1).retag ht) (.inl ⟨by omega, by simp [cnt]⟩)
   ·obtain ⟨g', w1, es, hgo, ⟨rfl, rfl⟩, hg'⟩ := hstep w id
    exact h.idleW hpr hg hgo (by omega) hp hf (by rw [hs, hd]; exact .d1 hg')
  | d2 hG =>
   rcases Goes.cases hG with hstop | ⟨m', rfl, hstep⟩
   ·obtain ⟨_, hx⟩ := hstop w id
    obtain ⟨q1, q2, q3, q4, _, _⟩ := z6y h.mode hi (.inl hs)
    rw [hs] at q1
    simp at q1
    have hwg := h.wg
    rw [q1, q2] at hwg
    obtain ⟨g', hgo, m2, hk⟩ := hx hwg
    exact h.bookW hpr hg hgo (s' := 3) (d' := 1) (by omega) (by omega) hp (.d3 hk) (.refl Wg w) hwg (by intro e he; simp at he; subst he; exact bk_rd Wg) (by
     rw [hd]; intro x e he
     match x, he with
     | 0, _ => exact .inr (by simp [deafBehind])
     | x + 1, he => simp at he) (by rw [hd]; rfl)
     (fun tag' ht _ => (q4 1).retag ht) (.inl ⟨by omega, by simp [cnt]⟩)
   ·obtain ⟨g', w1, es, hgo, ⟨rfl, rfl⟩, hg'⟩ := hstep w id
    exact h.idleW hpr hg hgo (by omega) hp hf (by rw [hs, hd]; exact .d2 hg')
  | d3 hG =>
   rcases Goes.cases hG with hstop | ⟨m', rfl, hstep⟩
   ·obtain ⟨_, hx⟩ := hstop w id
    obtain ⟨q1, q2, q3, _, q5, _⟩ := z6y h.mode hi (.inr (.inl hs))
    rw [hs] at q1
    simp at q1
    have hwg := h.wg
    rw [q1, q2] at hwg
    obtain ⟨g', hgo, m2, hk⟩ := hx hwg
    exact h.bookW hpr hg hgo (s' := 2) (d' := 1) (by omega) (by omega) hp (.d4 hk) (aside_setCell w (stA Wg) _) (hwg.setSt 0) (by intro e he; simp at he; subst he; exact zcK Wg) (by
     rw [hd]; intro x e he
     match x, he with
     | 0, _ => exact .inr (by simp [deafBehind])
     | x + 1, he => simp at he) (by rw [hd]; rfl)
     (fun tag' ht _ => (q5 1).retag ht) (.inl ⟨by omega, by simp [cnt]⟩)
   ·obtain ⟨g', w1, es, hgo, ⟨rfl, rfl⟩, hg'⟩ := hstep w id
    exact h.idleW hpr hg hgo (by omega) hp hf (by rw [hs, hd]; exact .d3 hg')
  | d4 hG =>
   rcases Goes.cases hG with hstop | ⟨m', rfl, hstep⟩
   ·obtain ⟨_, hmw, hx⟩ := hstop w id
    obtain ⟨q1, q2, q3, _, _, q6⟩ := z6y h.mode hi (.inr (.inr hs))
    rw [hs] at q1
    simp at q1
    have hwg := h.wg
    rw [q1, q2] at hwg
    obtain ⟨g', hgo, q, hq⟩ := hx hwg
    have hrun' : g'.status = .running := by
     cases q with
     | zero => exact absurd hq.2 (by decide)
     | succ q => exact hq.elim (fun x => absurd x.2 (by decide)) (fun x => x.1)
    refine h.bookW hpr hg hgo (s' := 1) (d' := 1) (by omega) (by omega) hp (.quit hq) (aside_setCell w (smA Wg) _) (hwg.setSm 1) (bk_sem Wg) (by rw [hd]; exact zdw Wg) (by rw [hd]; simp [deafBehind, semEvents]) (fun tag' ht hwk => ?_) (.inl ⟨by omega, by simp [cnt]⟩)
    have e3 : tag' = .w3 := by
     have hnb := hwk hmw hrun'
     rcases ht with rfl | ⟨_, rfl⟩
     ·cases tag' <;> first | rfl | exact q3.elim | exact absurd rfl hnb
     ·rfl
    subst e3
    exact q6 1
   ·obtain ⟨g', w1, es, hgo, ⟨rfl, rfl⟩, hg'⟩ := hstep w id
    exact h.idleW hpr hg hgo (by omega) hp hf (by rw [hs, hd]; exact .d4 hg')
  | quit hq =>
   rename_i m
   cases m with
   | zero => rw [hq.1] at hrun; cases hrun
   | succ m =>
    rcases hq with ⟨hfin, _⟩ | ⟨_, g', es, hmu, hst, hq⟩
    ·rw [hfin] at hrun; cases hrun
    ·have hmode := h.mode.same (i := i) 0 (deafBehind d es)
     rw [hs] at hmode
     exact h.bookW hpr hg (hst w) (s' := 1) (d' := deafBehind d es) (by omega) (by omega) hp (.quit hq) (.refl Wg w) h.wg (fun e he => (z4V (hmu e he)).1) (fun x e he => .inl (z4V (Wg := Wg) (hmu e (Array.mem_of_getElem? he))).2.1) (by rw [hd])
      (fun tag' ht _ => hmode.retag ht) (.inr ⟨hs.symm, by rw [hf]; exact z5H m⟩)
 exact key _ _ _ _ rfl rfl rfl rfl hw
theorem PI.older (h : PI P ty Wg n0 Sb Fz Post j D pl fam prs u rel tag bit τ0 f0 v st sm gs w t) {k : Nat} (hk0 : 0 < k) (hkn : k < n0) {g : Goroutine} (hg : gs[k]? = some g) (hrun : g.status = .running) :
  ∃ m₁ ops μ', runT P (crowd gs w sl) k = (.next m₁, ops) ∧ muLt μ' (muOf n0 j D pl fam tag bit τ0 f0) ∧ PInv P ty Wg n0 Sb Fz Post μ' m₁ (t ++ ops) := by
 obtain ⟨m, hf, hq⟩ := h.old k g hk0 hkn hg
 cases m with
 | zero => rw [hq.1] at hrun; cases hrun
 | succ m =>
  rcases hq with ⟨hfin, _⟩ | ⟨_, g', es, hmu, hst, hq⟩
  ·rw [hfin] at hrun; cases hrun
  ·have hr := runT_crowd_go (P := P) (sl := sl) (i := k) hg (by rw [show (k == 0) = false by simp; omega]; exact hst w)
   obtain ⟨a, ha, hcs⟩ := h.c
   obtain ⟨tag', f', hcs', htag, hwk⟩ := hcs.woken (w' := w) id g g'
   have hnt : ∀ e ∈ es, (MemAct.ofEvent e).touch? = none := fun e he => (z4V (Wg := Wg) (hmu e he)).2.1
   have hnt' : ∀ op ∈ MemOp.ofEvents k g.frame.fn g.frame.place es, op.act.touch? = none := fun op hop => by obtain ⟨e, he, rfl⟩ := memOps hop; exact hnt e he
   have hdo : ∀ {x}, x ≠ k → Deaf (t ++ MemOp.ofEvents k g.frame.fn g.frame.place es) x = Deaf t x := fun hx => Deaf_other t (Ne.symm hx) _ ofEvents_g
   have safe : ∀ {y : World}, Safe y w w es := Safe.quiet hnt
   refine ⟨_, _, muOf n0 j D pl (Go.ConcN.upd fam k (chain m)) tag' bit τ0 f', hr, ?_, j, D, pl, Go.ConcN.upd fam k (chain m), prs, u, rel, tag', bit, τ0, f', v, st, sm, _, w, sl, rfl, ?_, rfl⟩
   ·unfold muOf
    rw [Go.ConcN.phi_retag j _ htag]
    exact muLt.three (zcI (by omega) (by rw [hf]; exact z5H m))
   ·refine ⟨h.n0p, h.jb, h.len, by simp [h.size], ⟨_, ?_, by rw [hdo (by omega)]; exact hcs'⟩, fun x y hx hxn hy => ?_, fun x p hp => ?_, fun x hx => ?_, ?_, h.rl, h.p0.other safe, fun x hx hs => (h.pw x hx hs).other safe, h.ap, h.aw, h.fz, h.pr, h.wg, h.mode.retag htag, h.sbl, h.kz, fun e => ?_⟩
    ·rw [Array.getElem?_setIfInBounds_ne (by omega), Array.getElem?_map, ha]; rfl
    ·by_cases e : x = k
     ·subst e
      have hlt : x < (gs.map (woken P g g' w)).size := by simp [h.size]; omega
      rw [Array.getElem?_setIfInBounds_self_of_lt hlt] at hy
      injection hy with hy; subst hy
      exact ⟨m, Go.ConcN.upd_same _ _ _, by rw [Deaf_own]; exact hq⟩
     ·rw [Array.getElem?_setIfInBounds_ne (fun h => e h.symm), Array.getElem?_map] at hy
      obtain ⟨z, hz, rfl⟩ := Option.map_eq_some_iff.1 hy
      obtain ⟨m', hm1, hm2⟩ := h.old x z hx hxn hz
      exact ⟨m', by rw [Go.ConcN.upd_ne _ _ e]; exact hm1, by rw [woken_quitsD hm2, hdo e]; exact hm2⟩
    ·obtain ⟨g1, k1, k2, k3⟩ := h.wk x p hp
     refine ⟨g1, ?_, ?_, by rw [hdo (by omega)]; exact k3⟩
     ·rw [Array.getElem?_setIfInBounds_ne (by omega), Array.getElem?_map, k1, Option.map_some, k2.woken]
     ·rw [Go.ConcN.upd_ne _ _ (by omega)]; exact k2
    ·rw [hdo (by omega)]; exact h.above x hx
    ·refine h.tr.grow ofEvents_g (by omega) (Nat.le_refl _) (fun op hop => ?_) (fun op hop b => ?_) (fun said => noRace_append (h.tr.nr said) ofEvents_g fun i x _ op hop b hb _ => by rw [hnt' op hop] at hb; cases hb) (fun op hop x hx => by rw [hnt' op hop] at hx; cases hx) (fun op hop x hx => by rw [hnt' op hop] at hx; cases hx) (fun _ _ => hnt') (fun r hc _ => by omega)
     ·obtain ⟨e, he, rfl⟩ := memOps hop
      exact low_mute (hmu e he) _
     ·obtain ⟨e, he, rfl⟩ := memOps hop
      exact (z4V (Wg := Wg) (hmu e he)).2.2 b
    ·have e2 : tag = .ret := by
      rcases htag with rfl | ⟨_, rfl⟩
      ·exact e
      ·cases e
     obtain ⟨q, q1, q2, q3, q4⟩ := h.acq e2
     have hql := lt_of_act? q1
     exact ⟨q, by rw [act?_old hql]; exact q1, by rw [g?_old hql]; exact q2, (heard_old hql).2 q3, q4⟩
end
end Go.Eng
