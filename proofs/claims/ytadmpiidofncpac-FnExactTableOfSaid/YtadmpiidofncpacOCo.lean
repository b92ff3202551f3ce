/- Part of the evaluator, in company. -/
import Derived.Test.YtadmpiidofncpacOCn
import Derived.Conc.RecvAny
import Derived.Conc.CrowdCom2
set_option linter.unusedSectionVars false
set_option linter.unusedSimpArgs false
set_option linter.unusedVariables false
namespace Go.Eng
open Go Go.RowKit
open Go.Conc
open Go.ConcN (WgLive WD CTag Vc Ssum phi sumTo cnt isW3 isOpen OpenSt AllQuit pend)
open Go.ConcR (stA smA KK WgAt DC0 Bk)
open Go.Eng.Wg
section
variable [Kp : Keep]
variable {P : Program} {ty : TypeId} {Wg n0 : Nat} {Sb : Nat → Prop} {Fz : Nat → Option Obj} {Post : Sta → Prop}
 {j : Nat} {D : Nat → WD} {pl : Nat → Nat} {fam : Nat → Tre} {prs : List (Nat × Obj)} {u : Nat → World} {rel rel' : Nat → Option Nat} {tag : CTag} {bit d : Nat} {τ0 τ : Tre} {f0 : Nat} {v : World} {st sm : Int}
 {gs : Array Goroutine} {w w' : World} {t : Trace} {sl : Option (Nat × Nat)} {a : Goroutine}
theorem zcM {b b' : Goroutine} {w' : World} {x : Goroutine} (hx : x.status = .running ∨ x.status = .finished) : woken P b b' w' x = x := by
 unfold woken
 split
 ·exact again_running _ hx
 ·rfl
theorem PI.step0 (h : PI P ty Wg n0 Sb Fz Post j D pl fam prs u rel tag bit τ0 f0 v st sm gs w t) {a a' : Goroutine} (ha : gs[0]? = some a) {es : Array Event} (hgo : stepG P true a w = .go a' w' es)
  {tag' : CTag} {bit' : Nat} {τ' : Tre} {f' : Nat} {v' : World} {st' sm' : Int}
  (hcs' : CState P ty Wg Fz Post prs tag' (deafBehind (Deaf t 0) es) bit' τ' f' v' a' w') (hsz : w.heap.size ≤ w'.heap.size)
  (hsw : ∀ i, i < j → (D i).stage = 7 → Safe (u i) w w' es) (hown : Pl Sb Wg w' (t ++ MemOp.ofEvents 0 a.frame.fn a.frame.place es) 0 v') (hap : ∀ i, i < j → (D i).stage = 7 → Apart2 v' (u i))
  (hset : ∀ b o, w.heap[b]? = some o → b ≠ Wg → ¬ MineAt v b → w'.heap[b]? = some o ∧ ¬ MineAt v' b)
  (htr : Tr (fun l => ∃ b, locB l = some b ∧ Sb b) Wg n0 j w'.heap.size rel (t ++ MemOp.ofEvents 0 a.frame.fn a.frame.place es)) (hrs : RS ty Wg w w') (hwg : WgAt ty Wg w' st' sm') (hmode : Go.ConcN.Mode j D tag' st' sm')
  (hacq : tag' = .ret → AcqS Wg n0 j rel (t ++ MemOp.ofEvents 0 a.frame.fn a.frame.place es)) (hlt : muLt (muOf n0 j D pl fam tag' bit' τ' f') (muOf n0 j D pl fam tag bit τ0 f0)) :
  ∃ m₁ ops μ', runT P (crowd gs w sl) 0 = (.next m₁, ops) ∧ muLt μ' (muOf n0 j D pl fam tag bit τ0 f0) ∧ PInv P ty Wg n0 Sb Fz Post μ' m₁ (t ++ ops) := by
 have hrun := runT_crowd_go (P := P) (sl := sl) (i := 0) ha (by simpa using hgo)
 have hdo : ∀ {x}, x ≠ 0 → Deaf (t ++ MemOp.ofEvents 0 a.frame.fn a.frame.place es) x = Deaf t x := fun hx => Deaf_other t (Ne.symm hx) _ ofEvents_g
 have hlt0 : 0 < gs.size := (Array.getElem?_eq_some_iff.1 ha).1
 have n0p := h.n0p
 refine ⟨_, _, muOf n0 j D pl fam tag' bit' τ' f', hrun, hlt, j, D, pl, fam, prs, u, rel, tag', bit', τ', f', v', st', sm', _, w', sl, rfl, ?_, rfl⟩
 refine ⟨h.n0p, h.jb, h.len, by simp [h.size], ⟨a', ?_, by rw [Deaf_own]; exact hcs'⟩, fun x y hx hxn hy => ?_, fun x p hp => ?_, fun x hx => ?_, htr, h.rl, hown, fun x hx hs => (h.pw x hx hs).other (hsw x hx hs), hap, h.aw, fun b o hb => ?_, fun x p hp hs => ?_, hwg, hmode, fun b hb => Nat.lt_of_lt_of_le (h.sbl b hb) hsz, fun b o hb => ⟨(hset b o (h.kz b o hb).1 (h.kz b o hb).2.1 (h.kz b o hb).2.2.1).1, (h.kz b o hb).2.1, (hset b o (h.kz b o hb).1 (h.kz b o hb).2.1 (h.kz b o hb).2.2.1).2, (h.kz b o hb).2.2.2⟩, hacq⟩
 ·have : 0 < (gs.map (woken P a a' w')).size := by simpa using hlt0
  rw [Array.getElem?_setIfInBounds_self_of_lt this]
 ·rw [Array.getElem?_setIfInBounds_ne (by omega), Array.getElem?_map] at hy
  obtain ⟨z, hz, rfl⟩ := Option.map_eq_some_iff.1 hy
  obtain ⟨m, hm1, hm2⟩ := h.old x z hx hxn hz
  exact ⟨m, hm1, by rw [woken_quitsD hm2, hdo (by omega)]; exact hm2⟩
 ·obtain ⟨g1, k1, k2, k3⟩ := h.wk x p hp
  exact ⟨g1, by rw [Array.getElem?_setIfInBounds_ne (by omega), Array.getElem?_map, k1, Option.map_some, k2.woken], k2.rely hrs, by rw [hdo (by omega)]; exact k3⟩
 ·rw [hdo (by omega)]; exact h.above x hx
 ·obtain ⟨k1, k2, k3⟩ := h.fz b o hb
  obtain ⟨q1, q2⟩ := hset b o k1.at_ k1.ne k2
  exact ⟨⟨q1, k1.ne, k1.nsb, k1.nv, k1.nk⟩, q2, k3⟩
 ·obtain ⟨k1, k2, k3⟩ := h.pr x p hp hs
  obtain ⟨q1, q2⟩ := hset _ _ k1.at_ k1.ne k2
  exact ⟨⟨q1, k1.ne, k1.nsb, k1.nv, k1.nk⟩, q2, k3⟩
theorem PI.play0 (h : PI P ty Wg n0 Sb Fz Post j D pl fam prs u rel tag bit τ0 f0 v st sm gs w t) {fr fr' : Frame} {cs cs' : List Frame} (ha : gs[0]? = some (G fr cs)) {es : Array Event} (hgo : stepG P true (G fr cs) w = .go (G fr' cs') w' es)
  {tag' : CTag} {τ' : Tre} {v' : World} (hcs' : CState P ty Wg Fz Post prs tag' 0 0 τ' 0 v' (G fr' cs') w') (h0 : Deaf t 0 = 0) (hmode : Go.ConcN.Mode j D tag' st sm) (hr : tag' ≠ .ret) (hτ : TLt τ' τ0) (hv : View v' w') (k : Turn v v' w w' es) :
  ∃ m₁ ops μ', runT P (crowd gs w sl) 0 = (.next m₁, ops) ∧ muLt μ' (muOf n0 j D pl fam tag bit τ0 f0) ∧ PInv P ty Wg n0 Sb Fz Post μ' m₁ (t ++ ops) := by
 have hnW : ¬ MineAt v Wg := fun hm => (h.p0.sb Wg hm.read).2 rfl
 have hkW : w'.heap[Wg]? = w.heap[Wg]? := k.keep Wg h.wgl hnW
 have n0p := h.n0p
 refine h.step0 ha hgo (by rw [h0, deafBehind_still (z3O k) 0]; exact hcs') k.size (fun x hx hs => Safe.z9U (h.ap x hx hs) k (h.pw x hx hs).view) (h.p0.own k hv h.tr.seen h.wgl h.sbl) (fun x hx hs => (h.ap x hx hs).turn k (h.pw x hx hs).view.size)
  (fun b o hb _ hn => ⟨(k.keep b (Array.getElem?_eq_some_iff.1 hb).1 hn).trans hb, fun h1 => (k.mine b h1).elim hn fun h2 => by have := (Array.getElem?_eq_some_iff.1 hb).1; omega⟩) ?_ (fun ⟨x, y, hl⟩ => ⟨x, y, hkW.trans hl⟩) (hkW.trans h.wg) hmode (fun e => absurd e hr) (muLt.one hτ)
 refine h.tr.grow ofEvents_g (by omega) k.size (fun op hop => z9T (g := 0) k h.p0.view h.tr.seen op (Array.mem_append.2 (.inr hop))) (z4U k) (fun said => h.p0.kn.clean (h.tr.nr said) k h.tr.seen) (fun op hop x hx hb => ?_) (fun _ _ _ _ _ => rfl) (fun hc => absurd rfl hc) (fun r hc _ => by omega)
 obtain ⟨e, he, rfl⟩ := memOps hop
 obtain ⟨_, h1, _⟩ := z2K (k.evs e he) hx hb
 rcases h1 with h1 | h1
 ·have := h.wgl; omega
 ·exact absurd rfl (h.p0.sb Wg h1).2
def B0 (Wg : Nat) (e : Event) : Prop := (∀ x, (MemAct.ofEvent e).touch? = some x → locB x.loc = some Wg ∧ x.kind ≠ .plain) ∧ (∀ B, Wg < B → (MemAct.ofEvent e).low B) ∧ ∀ b, MemAct.ofEvent e ≠ .mark (.release b)
theorem PI.book0 (h : PI P ty Wg n0 Sb Fz Post j D pl fam prs u rel tag bit τ0 f0 v st sm gs w t) {a a' : Goroutine} (ha : gs[0]? = some a) {es : Array Event} (hgo : stepG P true a w = .go a' w' es)
  {tag' : CTag} {bit' : Nat} {τ' : Tre} {f' : Nat} {st' sm' : Int} (hcs' : CState P ty Wg Fz Post prs tag' (deafBehind (Deaf t 0) es) bit' τ' f' v a' w') (hA : Aside Wg w w') (hwg : WgAt ty Wg w' st' sm') (hbk : ∀ e ∈ es, B0 Wg e)
  (hmode : Go.ConcN.Mode j D tag' st' sm') (hacq : tag' = .ret → AcqS Wg n0 j rel (t ++ MemOp.ofEvents 0 a.frame.fn a.frame.place es)) (hlt : muLt (muOf n0 j D pl fam tag' bit' τ' f') (muOf n0 j D pl fam tag bit τ0 f0)) :
  ∃ m₁ ops μ', runT P (crowd gs w sl) 0 = (.next m₁, ops) ∧ muLt μ' (muOf n0 j D pl fam tag bit τ0 f0) ∧ PInv P ty Wg n0 Sb Fz Post μ' m₁ (t ++ ops) := by
 have n0p := h.n0p
 have safe : ∀ {y : World}, (∀ b, ReadAt y b → b ≠ Wg) → Safe y w w' es := fun hy => Safe.z9V hA hy fun e he x hx => ((hbk e he).1 x hx).1
 have s0 := safe fun b hb => (h.p0.sb b hb).2
 refine h.step0 ha hgo hcs' (Nat.le_of_eq hA.size.symm) (fun x hx hs => safe fun b hb => ((h.pw x hx hs).sb b hb).2) (h.p0.other s0) h.ap (fun b o hb he hn => ⟨(hA.block b he).trans hb, hn⟩) ?_ (fun _ => ⟨_, _, hwg⟩) hwg hmode hacq hlt
 refine h.tr.grow ofEvents_g (by omega) (Nat.le_of_eq hA.size.symm) (fun op hop => ?_) (fun op hop b => ?_) (h.tr.book ofEvents_g (.inl rfl) fun op hop x hx => ?_) (fun op hop x hx _ => ?_) (fun _ _ _ _ _ => rfl) (fun hc => absurd rfl hc) (fun r hc _ => by omega)
 ·obtain ⟨e, he, rfl⟩ := memOps hop
  rw [hA.size]
  exact (hbk e he).2.1 _ h.wgl
 ·obtain ⟨e, he, rfl⟩ := memOps hop
  exact (hbk e he).2.2 b
 ·obtain ⟨e, he, rfl⟩ := memOps hop
  obtain ⟨q1, q2⟩ := (hbk e he).1 x hx
  exact ⟨q1, q2, fun _ => rfl⟩
 ·obtain ⟨e, he, rfl⟩ := memOps hop
  exact ((hbk e he).1 x hx).2
theorem PI.spawn (h : PI P ty Wg n0 Sb Fz Post j D pl fam prs u rel tag bit τ0 f0 v st sm gs w t) {fr fr' cfr : Frame} {cs ccs : List Frame} (ha : gs[0]? = some (G fr cs)) (hgo : stepG P true (G fr cs) w = .spawn (G fr' cs) (G cfr ccs) w #[])
  (h0 : Deaf t 0 = 0) (hj : j < 1000000) {v' u' : World} {τ τ' : Tre} {pr : Nat × Obj} (hw : WkT P ty Wg pr τ' (cfr, ccs, u')) (hs : Split v v' u') (hp : PhT P ty Wg Fz Post τ false (prs ++ [pr]) (fr', cs, v')) (hτ : TLt τ τ0) (htag : tag = .sp 0 2 ∨ tag = .sp 1 2) :
  ∃ m₁ ops μ', runT P (crowd gs w sl) 0 = (.next m₁, ops) ∧ muLt μ' (muOf n0 j D pl fam tag bit τ0 f0) ∧ PInv P ty Wg n0 Sb Fz Post μ' m₁ (t ++ ops) := by
 have n0p := h.n0p
 have hrun := runT_crowd_spawn (P := P) (sl := sl) (i := 0) ha (by simpa using hgo)
 rw [Go.Conc.ofEvents_eq, h.size] at hrun
 simp only [Array.map_empty, Array.push_empty, List.push_toArray, List.cons_append, List.nil_append] at hrun
 obtain ⟨x, hx⟩ : ∃ x : MemOp, x = { g := 0, fn := (G fr cs).frame.fn, pos := (G fr cs).frame.place, act := .go (n0 + j) } := ⟨_, rfl⟩
 obtain ⟨y, hy⟩ : ∃ y : MemOp, y = { g := n0 + j, fn := (G cfr ccs).frame.fn, pos := (G fr cs).frame.place, act := .start } := ⟨_, rfl⟩
 have hops : ∃ ops : Trace, ops = #[x, y] ∧ runT P (crowd gs w sl) 0 = (.next (crowd ((gs.setIfInBounds 0 (G fr' cs)).push (G cfr ccs)) w sl), ops) := ⟨_, rfl, by rw [hrun, hx, hy]⟩
 obtain ⟨ops, hops, hrun'⟩ := hops
 have hx' : x.g = 0 ∧ x.act = .go (n0 + j) := by rw [hx]; exact ⟨rfl, rfl⟩
 have hy' : y.g = n0 + j ∧ y.act = .start := by rw [hy]; exact ⟨rfl, rfl⟩
 obtain ⟨hk1, hk2⟩ := h.above (n0 + j) (Nat.le_refl _)
 have hst : ∀ op ∈ ops, op.act ≠ .mark .disable ∧ op.act ≠ .mark .enable := by
  rw [hops]; intro op hop
  simp only [List.mem_toArray, List.mem_cons, List.not_mem_nil, or_false] at hop
  rcases hop with rfl | rfl
  ·rw [hx'.2]; exact ⟨by simp, by simp⟩
  ·rw [hy'.2]; exact ⟨by simp, by simp⟩
 have hnt : ∀ op ∈ ops, op.act.touch? = none := by
  rw [hops]; intro op hop
  simp only [List.mem_toArray, List.mem_cons, List.not_mem_nil, or_false] at hop
  rcases hop with rfl | rfl
  ·rw [hx'.2]; rfl
  ·rw [hy'.2]; rfl
 have hdf : ∀ k, Deaf (t ++ ops) k = Deaf t k := fun k => Go.ConcN.Deaf_still t k _ hst
 have knq : ∀ {k : Nat} {z : World}, Kn t k z → Kn (t ++ ops) k z := fun hk => hk.quiet fun op hop x b hx _ => by rw [hnt op hop] at hx; cases hx
 obtain ⟨hv1, hv2⟩ := hs.vw w h.p0.view
 obtain ⟨ho, hvc⟩ : OpenSt j D ∧ (st = ((Vc j D + 1 : Nat) : Int) * KK ∧ sm = 0) := by
  have hm := h.mode
  rcases htag with rfl | rfl
  ·cases hm with
   | opn h1 h2 h3 => exact ⟨h2, rfl, rfl⟩
   | reg h1 _ _ => exact h1.elim
   | last L h1 _ _ _ => exact h1.elim
   | fin h1 _ => exact h1.elim
  ·cases hm with
   | opn h1 h2 h3 => exact ⟨h2, rfl, rfl⟩
   | reg h1 _ _ => exact h1.elim
   | last L h1 _ _ _ => exact h1.elim
   | fin h1 _ => exact h1.elim
 let D' : Nat → WD := Go.ConcN.upd D j ⟨7, 0, 0⟩
 have D's : D' j = ⟨7, 0, 0⟩ := Go.ConcN.upd_same _ _ _
 have D'n : ∀ {k}, k ≠ j → D' k = D k := fun hk => Go.ConcN.upd_ne _ _ hk
 let uu : Nat → World := Go.ConcN.upd u j u'
 have us : uu j = u' := Go.ConcN.upd_same _ _ _
 have un : ∀ {k}, k ≠ j → uu k = u k := fun hk => Go.ConcN.upd_ne _ _ hk
 have hVc : Vc (j + 1) D' = Vc j D + 1 := by
  show sumTo (j + 1) _ = _
  simp only [sumTo, D's]
  have : (sumTo j fun i => cnt (D' i)) = Vc j D := Go.ConcN.sumTo_congr fun k hk => by rw [D'n (by omega)]
  rw [this]; simp [cnt]
 have hmode : Go.ConcN.Mode (j + 1) D' (.sp 0 5) st sm := by
  rw [hvc.1, hvc.2]
  have := Go.ConcN.Mode.opn (j := j + 1) (D := D') (tag := .sp 0 5) trivial (fun k hk => by
   by_cases e : k = j
   ·subst e; rw [D's]; simp
   ·rw [D'n e]; exact ho k (by omega)) (fun vs e => by cases e)
  rw [hVc] at this
  simpa [pend] using this
 have nobody : ∀ b, ¬ MineAt v b → (∀ k, k < j → (D k).stage = 7 → ¬ MineAt (u k) b) → ¬ MineAt v' b ∧ ∀ k, k < j + 1 → (D' k).stage = 7 → ¬ MineAt (uu k) b := by
  intro b hn hk
  refine ⟨fun hm => hn (hs.mine b hm), fun k hkj hst hm => ?_⟩
  by_cases e : k = j
  ·subst e; rw [us] at hm; exact hn (hs.minec b hm)
  ·rw [un e] at hm; rw [D'n e] at hst; exact hk k (by omega) hst hm
 have hltj : ∀ {k p}, (prs ++ [pr])[k]? = some p → (k < j ∧ prs[k]? = some p) ∨ (k = j ∧ p = pr) := by
  intro k p hp
  rcases Nat.lt_or_ge k prs.length with hk | hk
  ·rw [List.getElem?_append_left hk] at hp; exact .inl ⟨by rw [← h.len]; exact hk, hp⟩
  ·rw [List.getElem?_append_right hk] at hp
   have : k - prs.length = 0 := by
    rcases Nat.eq_zero_or_pos (k - prs.length) with h1 | h1
    ·exact h1
    ·rw [List.getElem?_eq_none (by simp; omega)] at hp; cases hp
   rw [this] at hp
   simp at hp
   exact .inr ⟨by have := h.len; omega, hp.symm⟩
 have hgs0 : 0 < gs.size := by rw [h.size]; omega
 refine ⟨_, ops, muOf n0 (j + 1) D' (Go.ConcN.upd pl j 1) (Go.ConcN.upd fam (n0 + j) τ') (.sp 0 5) 0 τ 0, hrun', muLt.one hτ, j + 1, D', Go.ConcN.upd pl j 1, Go.ConcN.upd fam (n0 + j) τ', prs ++ [pr], uu, rel, .sp 0 5, 0, τ, 0, v', st, sm, _, w, sl, rfl, ?_, rfl⟩
 refine ⟨h.n0p, by omega, by simp [h.len], by simp [h.size]; omega, ⟨G fr' cs, ?_, by rw [hdf, h0]; exact .play0 hp⟩, fun k g hk hkn hg => ?_, fun k p hp => ?_, fun k hk => ?_, ?_, fun k hk => ?_, ⟨hv1, ⟨fun i a b h1 h2 h3 => ?_, fun i a b h1 h2 h3 h4 => ?_⟩, fun b hb => h.p0.sb b (hs.read b hb)⟩, fun k hk hs7 => ?_, fun k hk hs7 => ?_, fun k l hk hl hkl h1 h2 => ?_,
  fun b o hb => ?_, fun k p hp hs6 => ?_, h.wg, hmode, h.sbl, fun b o hb => ⟨(h.kz b o hb).1, (h.kz b o hb).2.1, nobody b (h.kz b o hb).2.2.1 (h.kz b o hb).2.2.2⟩, fun e => by cases e⟩
 ·rw [Array.getElem?_push_lt (by simpa using hgs0), ← Array.getElem?_eq_getElem, Array.getElem?_setIfInBounds_self_of_lt hgs0]
 ·have hlt : k < gs.size := by rw [h.size]; omega
  rw [Array.getElem?_push_lt (by simpa using hlt), ← Array.getElem?_eq_getElem, Array.getElem?_setIfInBounds_ne (by omega)] at hg
  obtain ⟨m, q1, q2⟩ := h.old k g hk hkn hg
  exact ⟨m, by rw [Go.ConcN.upd_ne _ _ (by omega)]; exact q1, by rw [hdf]; exact q2⟩
 ·rcases hltj hp with ⟨hk, hp'⟩ | ⟨rfl, rfl⟩
  ·obtain ⟨g1, q1, q2, q3⟩ := h.wk k p hp'
   have hlt : n0 + k < gs.size := by rw [h.size]; omega
   refine ⟨g1, ?_, ?_, by rw [hdf, D'n (by omega)]; exact q3⟩
   ·rw [Array.getElem?_push_lt (by simpa using hlt), ← Array.getElem?_eq_getElem, Array.getElem?_setIfInBounds_ne (by omega)]; exact q1
   ·rw [D'n (by omega), un (by omega), Go.ConcN.upd_ne _ _ (by omega), Go.ConcN.upd_ne _ _ (by omega)]; exact q2
  ·refine ⟨G cfr ccs, ?_, ?_, by rw [hdf, D's]; exact hk1⟩
   ·rw [show n0 + k = (gs.setIfInBounds 0 (G fr' cs)).size by simp [h.size], Array.getElem?_push_size]
   ·rw [D's, us, Go.ConcN.upd_same, Go.ConcN.upd_same]; exact .play hw
 ·rw [hdf]; exact h.above k (by omega)
 ·rw [hops]; exact h.tr.fork hx' hy' h.n0p hk2 h0 hk1
 ·by_cases e : k = j
  ·subst e
   rw [D's]
   exact ⟨fun hc => by simp at hc, fun ⟨r, hr⟩ => by rw [hk2] at hr; cases hr⟩
  ·rw [D'n e]; exact h.rl k (by omega)
 ·exact (knq h.p0.kn).mine i a b h1 h2 (hs.mine b h3)
 ·exact (knq h.p0.kn).read i a b h1 h2 (hs.read b h3) h4
 ·by_cases e : k = j
  ·subst e
   rw [us]
   refine ⟨hv2, ?_, fun b hb => h.p0.sb b (hs.readc b hb)⟩
   rw [hops]
   exact Kn.fork hx' hy' h0 hk1 (fun i a b h1 h2 h3 => h.p0.kn.mine i a b h1 h2 (hs.minec b h3)) (fun i a b h1 h2 h3 h4 => h.p0.kn.read i a b h1 h2 (hs.readc b h3) h4)
  ·rw [un e]; rw [D'n e] at hs7
   have := h.pw k (by omega) hs7
   exact ⟨this.view, knq this.kn, this.sb⟩
 ·by_cases e : k = j
  ·subst e; rw [us]; exact hs.apart
  ·rw [un e]; rw [D'n e] at hs7
   have := h.ap k (by omega) hs7
   exact ⟨fun b hb hr => this.l b (hs.mine b hb) hr, fun b hb hr => this.r b hb (hs.read b hr)⟩
 ·have ap : ∀ x, x < j → (D x).stage = 7 → Apart2 (u x) u' := fun x hx h7 => by
   have := h.ap x hx h7
   exact ⟨fun b hb hr => this.r b hb (hs.readc b hr), fun b hb hr => this.l b (hs.minec b hb) hr⟩
  by_cases e : k = j
  ·subst e
   rw [us, un (fun e => hkl e.symm)]
   rw [D'n (fun e => hkl e.symm)] at h2
   exact (ap l (by omega) h2).symm
  ·by_cases e2 : l = j
   ·subst e2
    rw [us, un e]
    rw [D'n e] at h1
    exact ap k (by omega) h1
   ·rw [un e, un e2]; rw [D'n e] at h1; rw [D'n e2] at h2
    exact h.aw k l (by omega) (by omega) hkl h1 h2
 ·obtain ⟨q1, q2, q3⟩ := h.fz b o hb
  obtain ⟨r1, r2⟩ := nobody b q2 q3
  exact ⟨q1, r1, r2⟩
 ·rcases hltj hp with ⟨hk, hp'⟩ | ⟨rfl, rfl⟩
  ·rw [D'n (by omega)] at hs6
   obtain ⟨q1, q2, q3⟩ := h.pr k p hp' hs6
   obtain ⟨r1, r2⟩ := nobody _ q2 q3
   exact ⟨q1, r1, r2⟩
  ·rw [D's] at hs6; simp at hs6
end
end Go.Eng
namespace Go.Eng
open Go Go.RowKit
open Go.Conc
open Go.ConcN (WgLive WD CTag Vc Ssum phi sumTo cnt isW3 isOpen OpenSt AllQuit pend)
open Go.ConcR (stA smA KK WgAt DC0 Bk)
open Go.Eng.Wg
theorem z4e {Wg : Nat} {e : Event} {m : Mark} (h : e.loc = .mark m) (hm : m = .disable ∨ m = .enable ∨ m = .acquire (stA Wg)) : B0 Wg e := by
 unfold B0
 rw [Go.ConcR.ofEvent_loc_mark h]
 rcases hm with rfl | rfl | rfl
 ·exact ⟨fun x hx => (by cases hx), fun _ _ => trivial, fun b => by simp⟩
 ·exact ⟨fun x hx => (by cases hx), fun _ _ => trivial, fun b => by simp⟩
 ·exact ⟨fun x hx => (by cases hx), fun B hB => hB, fun b => by simp⟩
theorem z2k {Wg : Nat} {e : Event} (h : Bk Wg e) : B0 Wg e := by
 rcases h with h1 | h1 | ⟨a, wr, rfl, hw⟩
 ·exact z4e h1 (.inl rfl)
 ·exact z4e h1 (.inr (.inl rfl))
 ·unfold B0
  rw [Go.ConcR.ofEvent_cell]
  refine ⟨fun x hx => ?_, fun B hB => by show a.block < B; rw [hw]; exact hB, fun b => by simp⟩
  simp only [MemAct.touch?, Option.some.injEq] at hx
  subst hx
  exact ⟨by simp [locB, hw], by simp⟩
theorem zdP {Wg : Nat} {e : Event} (h : EvS Wg e) : B0 Wg e ∧ e.loc ≠ .mark .disable ∧ e.loc ≠ .mark .enable := by
 obtain ⟨a, hw, h1⟩ := h
 rcases h1 with h1 | h1
 ·refine ⟨?_, by rw [h1]; simp, by rw [h1]; simp⟩
  unfold B0
  rw [Go.ConcR.ofEvent_loc_mark h1]
  refine ⟨fun x hx => ?_, fun B hB => by show a.block < B; rw [hw]; exact hB, fun b => by simp⟩
  simp only [MemAct.touch?, Option.some.injEq] at hx
  subst hx
  exact ⟨by simp [locB, hw], by simp⟩
 ·refine ⟨?_, by rw [h1]; simp, by rw [h1]; simp⟩
  unfold B0
  rw [Go.ConcR.ofEvent_loc_mark h1]
  refine ⟨fun x hx => ?_, fun B hB => by show a.block < B; rw [hw]; exact hB, fun b => by simp⟩
  simp only [MemAct.touch?, Option.some.injEq] at hx
  subst hx
  exact ⟨by simp [locB, hw], by simp⟩
section
variable {j : Nat} {D : Nat → WD} {tag : CTag} {st sm : Int}
theorem z1R (hm : Go.ConcN.Mode j D tag st sm) (ho : isOpen tag) : OpenSt j D ∧ st = ((Vc j D + pend tag : Nat) : Int) * KK ∧ sm = 0 ∧ ∀ vs, tag = .w2 vs → Vc j D ≤ vs ∧ 1 ≤ vs := by
 cases hm with
 | opn h1 h2 h3 => exact ⟨h2, rfl, rfl, h3⟩
 | reg h1 _ _ => cases tag <;> first | exact h1.elim | exact ho.elim
 | last L h1 _ _ _ => cases tag <;> first | exact h1.elim | exact ho.elim
 | sema _ => exact ho.elim
 | fin h1 _ => cases tag <;> first | exact h1.elim | exact ho.elim
theorem z18 {tag' : CTag} (h2 : OpenSt j D) (ho : isOpen tag') {p : Nat} (hp : pend tag' = p) (hn : ∀ vs, tag' = .w2 vs → Vc j D ≤ vs ∧ 1 ≤ vs) : Go.ConcN.Mode j D tag' (((Vc j D + p : Nat) : Int) * KK) 0 := by
 subst hp; exact .opn ho h2 hn
theorem allQuit_of (h2 : OpenSt j D) (h : Vc j D = 0) : AllQuit j D := fun i hi => by
 have h0 : cnt (D i) = 0 := by
  have := Go.ConcN.le_sumTo (f := fun x => cnt (D x)) hi
  simp only [Vc] at h; omega
 have := h2 i hi
 simp only [cnt] at h0
 split at h0 <;> omega
theorem ze6 (hm : Go.ConcN.Mode j D .w3 st sm) : (sm = 0 ∧ Go.ConcN.Mode j D .blk st sm) ∨ (st = 0 ∧ sm = 1 ∧ AllQuit j D) := by
 cases hm with
 | opn h1 _ _ => exact h1.elim
 | reg _ h2 h3 => exact .inl ⟨rfl, .reg trivial h2 h3⟩
 | last L _ h2 h3 h4 => exact .inl ⟨rfl, .last L trivial h2 h3 h4⟩
 | sema h2 => exact .inr ⟨rfl, rfl, h2⟩
 | fin h1 _ => exact h1.elim
theorem z5I (hm : Go.ConcN.Mode j D tag st sm) (h : Go.ConcN.isFin tag) : st = 0 ∧ sm = 0 ∧ AllQuit j D := by
 cases hm with
 | opn h1 _ _ => cases tag <;> first | exact h1.elim | exact h.elim
 | reg h1 _ _ => cases tag <;> first | exact h1.elim | exact h.elim
 | last L h1 _ _ _ => cases tag <;> first | exact h1.elim | exact h.elim
 | sema _ => exact h.elim
 | fin _ h2 => exact ⟨rfl, rfl, h2⟩
end
section
variable [Kp : Keep]
variable {P : Program} {ty : TypeId} {Wg n0 : Nat} {Sb : Nat → Prop} {Fz : Nat → Option Obj} {Post : Sta → Prop}
 {j : Nat} {D : Nat → WD} {pl : Nat → Nat} {fam : Nat → Tre} {prs : List (Nat × Obj)} {u : Nat → World} {rel rel' : Nat → Option Nat} {tag : CTag} {bit d : Nat} {τ0 τ : Tre} {f0 : Nat} {v : World} {st sm : Int}
 {gs : Array Goroutine} {w w' : World} {t : Trace} {sl : Option (Nat × Nat)} {a : Goroutine}
abbrev Steps1 (P : Program) (ty : TypeId) (Wg n0 : Nat) (Sb : Nat → Prop) (Fz : Nat → Option Obj) (Post : Sta → Prop) (μ : Mu) (gs : Array Goroutine) (w : World) (sl : Option (Nat × Nat)) (t : Trace) : Prop :=
 ∃ m₁ ops μ', runT P (crowd gs w sl) 0 = (.next m₁, ops) ∧ muLt μ' μ ∧ PInv P ty Wg n0 Sb Fz Post μ' m₁ (t ++ ops)
theorem PI.idle0 (h : PI P ty Wg n0 Sb Fz Post j D pl fam prs u rel tag bit τ0 f0 v st sm gs w t) {a a' : Goroutine} (ha : gs[0]? = some a) (hgo : stepG P true a w = .go a' w #[])
  {tag' : CTag} {bit' : Nat} {τ' : Tre} {f' : Nat} (hcs' : CState P ty Wg Fz Post prs tag' (Deaf t 0) bit' τ' f' v a' w) (hmode : Go.ConcN.Mode j D tag' st sm) (hacq : tag' = .ret → AcqS Wg n0 j rel t)
  (hlt : muLt (muOf n0 j D pl fam tag' bit' τ' f') (muOf n0 j D pl fam tag bit τ0 f0)) : Steps1 P ty Wg n0 Sb Fz Post (muOf n0 j D pl fam tag bit τ0 f0) gs w sl t :=
 h.book0 ha hgo hcs' (.refl Wg w) h.wg (by simp) hmode (fun e => by rw [Go.Conc.ofEvents_eq]; simpa using hacq e) hlt
theorem z1D {j : Nat} {D : Nat → WD} {pl : Nat → Nat} {fam : Nat → Tre} {tag : CTag} {bit : Nat} {τ0 : Tre} {f f' : Nat} (h : f' < f) : muLt (muOf n0 j D pl fam tag bit τ0 f') (muOf n0 j D pl fam tag bit τ0 f) := muLt.four h
theorem z2g {j : Nat} {D : Nat → WD} {pl : Nat → Nat} {fam : Nat → Tre} {tag tag' : CTag} {bit bit' : Nat} {τ0 : Tre} {f f' : Nat} (h : 2 * phi j (Vc j D) tag' + bit' < 2 * phi j (Vc j D) tag + bit) :
  muLt (muOf n0 j D pl fam tag' bit' τ0 f') (muOf n0 j D pl fam tag bit τ0 f) := muLt.two (by omega)
def PEnd [Kp : Keep] (P : Program) (Wg : Nat) (Sb : Nat → Prop) (Post : Sta → Prop) (m : Machine) (t : Trace) : Prop :=
 ∃ (gs : Array Goroutine) (w : World) (sl : Option (Nat × Nat)) (fr : Frame) (cs : List Frame) (v : World) (q : Nat → Nat),
  m = crowd gs w sl ∧ gs[0]? = some (G fr cs) ∧ Post (fr, cs, v) ∧ View v w ∧ Leavers P t gs q ∧ Past (fun l => (∃ b, locB l = some b ∧ Sb b) ∨ locB l = some Wg) w.heap.size t ∧ (∀ b, ReadAt v b → ¬ Sb b ∧ b ≠ Wg) ∧ (∀ b, Sb b → b < w.heap.size) ∧ Wg < w.heap.size ∧
   (∀ op ∈ t, ∀ a, op.act ≠ .mark (.release a)) ∧ (∀ op ∈ t, op.g < gs.size) ∧ (∀ op ∈ t, ∀ x, op.act.touch? = some x → x.kind = .said → op.g = 0) ∧ ∀ b o, Kp.kz b = some o → w.heap[b]? = some o ∧ ¬ MineAt v b
noncomputable def backV (Fz : Nat → Option Obj) (prs : List (Nat × Obj)) (v w : World) : World :=
 open Classical in { v with heap := Array.ofFn (n := w.heap.size) fun b => if (∃ o, Fz b.1 = some o ∨ (b.1, o) ∈ prs) then w.heap[b.1] else (v.heap[b.1]?).getD junk }
theorem PI.atEnd (h : PI P ty Wg n0 Sb Fz Post j D pl fam prs u rel .ret bit τ0 f0 v st sm gs w t) (hd : Deaf t 0 = 0) {fr' : Frame} {cs : List Frame} (ha : gs[0]? = some (G fr' cs)) (hb : ∀ v'', Back Fz prs v v'' → Post (fr', cs, v'')) :
  PEnd P Wg Sb Post (crowd gs w sl) t := by
 classical
 obtain ⟨hs0, hs1, hq⟩ := z5I h.mode trivial
 have n0p := h.n0p
 have hset : ∀ b o, Fz b = some o ∨ (b, o) ∈ prs → Settled Sb Wg w b o ∧ ¬ MineAt v b := by
  intro b o hbo
  rcases hbo with hbo | hbo
  ·obtain ⟨q1, q2, _⟩ := h.fz b o hbo; exact ⟨q1, q2⟩
  ·obtain ⟨i, hi, he⟩ := List.mem_iff_getElem.1 hbo
   obtain ⟨q1, q2, _⟩ := h.pr i (b, o) (by rw [List.getElem?_eq_getElem hi, he]) (by rw [hq i (by rw [← h.len]; exact hi)]; omega)
   exact ⟨q1, q2⟩
 have hheap : (backV Fz prs v w).heap = Array.ofFn (n := w.heap.size) fun b => if (∃ o, Fz b.1 = some o ∨ (b.1, o) ∈ prs) then w.heap[b.1] else (v.heap[b.1]?).getD junk := rfl
 have hsz : (backV Fz prs v w).heap.size = w.heap.size := by rw [hheap]; simp
 have hget : ∀ b, b < w.heap.size → (backV Fz prs v w).heap[b]? = some (if (∃ o, Fz b = some o ∨ (b, o) ∈ prs) then w.heap[b]! else (v.heap[b]?).getD junk) := by
  intro b hlt
  rw [hheap, Array.getElem?_ofFn]
  simp [hlt]
 have hyes : ∀ b o, Fz b = some o ∨ (b, o) ∈ prs → (backV Fz prs v w).heap[b]? = some o := by
  intro b o hbo
  obtain ⟨q1, _⟩ := hset b o hbo
  rw [hget b q1.lt, if_pos ⟨o, hbo⟩]
  have := q1.at_
  rw [getElem!_def, this]
 have hno : ∀ b, b < w.heap.size → (¬ ∃ o, Fz b = some o ∨ (b, o) ∈ prs) → (backV Fz prs v w).heap[b]? = some ((v.heap[b]?).getD junk) := by
  intro b hlt hn
  rw [hget b hlt, if_neg hn]
 have hback : Back Fz prs v (backV Fz prs v w) := by
  refine ⟨by rw [hsz]; exact h.p0.view.size, fun b o ho => ?_, hyes, fun b o ho hn => ?_, rfl, rfl, rfl, fun _ _ b o ho => ?_⟩
  ·have hlt : b < w.heap.size := by rw [← hsz]; exact (Array.getElem?_eq_some_iff.1 ho).1
   by_cases hc : ∃ o, Fz b = some o ∨ (b, o) ∈ prs
   ·obtain ⟨o', ho'⟩ := hc
    rw [hyes b o' ho'] at ho; injection ho with ho; subst ho
    exact .inr (.inr ho')
   ·rw [hno b hlt hc] at ho; injection ho with ho
    cases hv : v.heap[b]? with
    | none => rw [hv] at ho; exact .inl ho.symm
    | some o1 => rw [hv] at ho; simp at ho; subst ho; exact .inr (.inl rfl)
  ·have hlt : b < w.heap.size := Nat.lt_of_lt_of_le (Array.getElem?_eq_some_iff.1 ho).1 h.p0.view.size
   rw [hno b hlt (fun ⟨o', ho'⟩ => hn o' ho'), ho]; rfl
  ·have hlt : b < w.heap.size := by rw [← hsz]; exact (Array.getElem?_eq_some_iff.1 ho).1
   by_cases hc : ∃ o, Fz b = some o ∨ (b, o) ∈ prs
   ·obtain ⟨o', ho'⟩ := hc
    rw [hyes b o' ho'] at ho; injection ho with ho; subst ho
    exact (hset b o' ho').1.nv
   ·rw [hno b hlt hc] at ho; injection ho with ho
    cases hv : v.heap[b]? with
    | none => rw [hv] at ho; subst ho; exact trivial
    | some o1 => rw [hv] at ho; simp at ho; subst ho; exact h.p0.view.views b o1 hv
 obtain ⟨q, q1, q2, q3, q4⟩ := h.acq rfl
 have hpast := h.tr.done h.n0p q1 q2 q3 (fun k hk hkj => by obtain ⟨r, hr, hrq⟩ := q4 (k - n0) (by omega); exact ⟨r, by rw [show n0 + (k - n0) = k by omega] at hr; exact hr, hrq⟩) hd
 refine ⟨gs, w, sl, fr', cs, backV Fz prs v w, fun k => if h : ∃ m, ∃ g, gs[k]? = some g ∧ QuitsD P m (Deaf t k) g then Classical.choose h else 0, rfl, ha, hb _ hback, ?_, ⟨fun k g hk hg => ?_, fun k hk => (h.above k (by rw [h.size] at hk; exact hk)).1⟩, hpast, fun b hr => ?_, h.sbl, h.wgl, h.tr.norel, fun op hop => by rw [h.size]; exact h.tr.gs op hop, h.tr.wgs, fun b o hk => ⟨(h.kz b o hk).1, fun ⟨o', ho', hm⟩ => ?_⟩⟩
 ·refine ⟨Nat.le_of_eq hsz, fun b o O ho hO => ?_, h.p0.view.os, h.p0.view.tape, h.p0.view.output, (hback.views h.p0.view.views fun b o ho => (hset b o ho).1.nv)⟩
  rcases hback.alike b o ho with rfl | h1 | h1 | h1
  ·exact .junk O
  ·exact h.p0.view.alike b o O h1 hO
  ·have := (hset b o (.inl h1)).1.at_
   rw [hO] at this; injection this with this; subst this; exact .same _
  ·have := (hset b o (.inr h1)).1.at_
   rw [hO] at this; injection this with this; subst this; exact .same _
 ·have hlt : k < n0 + j := by have := (Array.getElem?_eq_some_iff.1 hg).1; rw [h.size] at this; exact this
  have ex : ∃ m, ∃ g, gs[k]? = some g ∧ QuitsD P m (Deaf t k) g := by
   rcases Nat.lt_or_ge k n0 with hkn | hkn
   ·obtain ⟨m, _, hm⟩ := h.old k g hk hkn hg
    exact ⟨m, g, hg, hm⟩
   ·obtain ⟨x, rfl⟩ : ∃ x, k = n0 + x := ⟨k - n0, by omega⟩
    obtain ⟨p, hp⟩ : ∃ p, prs[x]? = some p := ⟨prs[x]'(by rw [h.len]; omega), by simp [show x < prs.length by rw [h.len]; omega]⟩
    obtain ⟨g1, hg1, hw1, hdt⟩ := h.wk x p hp
    rw [hq x (by omega)] at hw1
    generalize (D x).deaf = dd at hw1 hdt
    generalize fam (n0 + x) = ff at hw1
    generalize pl x = pp at hw1
    cases hw1 with
    | quit hqd => exact ⟨_, g1, hg1, by rw [hdt]; exact hqd⟩
  rw [dif_pos ex]
  obtain ⟨g1, hg1, hm⟩ := Classical.choose_spec ex
  rw [hg] at hg1; injection hg1 with hg1; subst hg1
  exact hm
 ·obtain ⟨o, ho, hro⟩ := hr
  rcases hback.alike b o ho with rfl | h1 | h1 | h1
  ·exact absurd rfl hro
  ·exact h.p0.sb b ⟨o, h1, hro⟩
  ·exact ⟨(hset b o (.inl h1)).1.nsb, (hset b o (.inl h1)).1.ne⟩
  ·exact ⟨(hset b o (.inr h1)).1.nsb, (hset b o (.inr h1)).1.ne⟩
 ·have hlt : b < w.heap.size := (Array.getElem?_eq_some_iff.1 (h.kz b o hk).1).1
  by_cases hc : ∃ o, Fz b = some o ∨ (b, o) ∈ prs
  ·obtain ⟨o2, ho2⟩ := hc
   have := (hset b o2 ho2).1.nk
   rw [hk] at this; cases this
  ·rw [hno b hlt hc] at ho'; injection ho' with ho'
   cases hv : v.heap[b]? with
   | none => rw [hv] at ho'; subst ho'; exact hm.1 rfl
   | some o1 => rw [hv] at ho'; simp at ho'; subst ho'; exact (h.kz b o hk).2.2.1 ⟨o1, hv, hm⟩
theorem PI.w1step (h : PI P ty Wg n0 Sb Fz Post j D pl fam prs u rel tag bit τ0 f0 v st sm gs w t) {a : Goroutine} (ha : gs[0]? = some a) (hop : isOpen tag) (hpd : pend tag = 0) (hd : Deaf t 0 = 1)
  {Anch : Goroutine → World → Prop} {cs : List Frame} {fr' : Frame} (hA : WArgs P ty Wg Fz Post prs v Anch cs fr') {m : Nat}
  (hG : Goes P true (RS ty Wg) DC0 (SW1 P (RS ty Wg) ty Wg (EndAt P ty Wg cs fr') fun v => SW2 P (RS ty Wg) ty Wg Anch v (SRd P (RS ty Wg) Wg (SW3 P (RS ty Wg) ty Wg (SW4 P (RS ty Wg) ty Wg (EndAt P ty Wg cs fr'))))) m a w)
  (hlt : ∀ (tag' : CTag) (f' : Nat), phi j (Vc j D) tag' < phi j (Vc j D) .w1 ∨ (tag' = .w1 ∧ f' < m) → muLt (muOf n0 j D pl fam tag' 0 τ0 f') (muOf n0 j D pl fam tag bit τ0 f0)) :
  Steps1 P ty Wg n0 Sb Fz Post (muOf n0 j D pl fam tag bit τ0 f0) gs w sl t := by
 obtain ⟨ho, hst, hsm, _⟩ := z1R h.mode hop
 rw [hpd] at hst
 have hle := Go.ConcN.Vc_le j D
 have hjb := h.jb
 rcases Goes.cases hG with hstop | ⟨m', rfl, hstep⟩
 ·obtain ⟨_, hall⟩ := hstop w id
  have hwg := h.wg
  rw [hst, hsm] at hwg
  obtain ⟨g', hgo, h1, h2⟩ := hall (Vc j D) (by omega) (by simpa using hwg)
  by_cases hv : Vc j D = 0
  ·obtain ⟨m2, hk⟩ := h1 hv
   exact h.book0 ha hgo (tag' := .ke) (bit' := 0) (f' := m2) (τ' := τ0) (st' := 0) (sm' := 0) (by rw [hd]; exact CState.ke hA hk) (.refl Wg w) (by rw [hv] at hwg; simpa using hwg) (by intro e he; simp at he; subst he; exact z2k (bk_rd Wg)) (.fin trivial (allQuit_of ho hv)) (fun e => by cases e)
    (hlt _ _ (.inl (by simp [phi])))
  ·obtain ⟨m2, hk⟩ := h2 hv
   exact h.book0 ha hgo (tag' := .w2 (Vc j D)) (bit' := 0) (f' := m2) (τ' := τ0) (st' := ((Vc j D + 0 : Nat) : Int) * KK) (sm' := 0) (by rw [hd]; exact CState.w2 hA hk) (.refl Wg w) (by simpa using hwg) (by intro e he; simp at he; subst he; exact z2k (bk_rd Wg))
    (z18 (tag' := .w2 (Vc j D)) (p := 0) ho trivial rfl fun vs e => by injection e with e; omega) (fun e => by cases e) (hlt _ _ (.inl (by simp [phi])))
 ·obtain ⟨g', w1, es, hgo, ⟨rfl, rfl⟩, hg'⟩ := hstep w id
  refine h.idle0 ha hgo (τ' := τ0) (by rw [hd]; exact .w1 hA hg') ?_ (fun e => by cases e) (hlt _ _ (.inr ⟨rfl, Nat.lt_succ_self _⟩))
  rw [hst, hsm]; exact z18 (tag' := .w1) (p := 0) ho trivial rfl (fun vs e => by cases e)
theorem PI.starter (h : PI P ty Wg n0 Sb Fz Post j D pl fam prs u rel tag bit τ0 f0 v st sm gs w t) {a : Goroutine} (ha : gs[0]? = some a) (hrun : a.status = .running) :
  Steps1 P ty Wg n0 Sb Fz Post (muOf n0 j D pl fam tag bit τ0 f0) gs w sl t ∨ PEnd P Wg Sb Post (crowd gs w sl) t := by
 obtain ⟨a1, ha1, hc⟩ := h.c
 obtain rfl : a = a1 := by rw [ha] at ha1; exact Option.some.inj ha1
 have hlive : WgLive ty Wg w := ⟨_, _, h.wg⟩
 have hle := Go.ConcN.Vc_le j D
 have hjb := h.jb
 have n0p := h.n0p
 generalize hd : Deaf t 0 = d at hc
 have skd : ∀ {τ' : Tre} {fr' : Frame} {cs : List Frame} {m : Nat}, PhT P ty Wg Fz Post τ' true prs (fr', cs, v) → isOpen tag → pend tag = 0 → d = 0 →
   Goes P true (RS ty Wg) DC0 (SKd P (RS ty Wg) (SA1 P (RS ty Wg) ty Wg fun v => match v with
    | 0 => SRd P (RS ty Wg) Wg (SKe P (RS ty Wg) fun g _ => g = G fr' cs)
    | _ + 1 => SKe P (RS ty Wg) fun g _ => g = G fr' cs)) m a w →
   (∀ (s' : CTag) (f' : Nat), s' = .sp 3 4 ∨ (s' = .sp 4 5 ∧ f' < m) → muLt (muOf n0 j D pl fam s' 0 τ' f') (muOf n0 j D pl fam tag bit τ0 f0)) → Steps1 P ty Wg n0 Sb Fz Post (muOf n0 j D pl fam tag bit τ0 f0) gs w sl t := by
  intro τ' fr' cs m hp ho hpd hd0 hG hlt
  obtain ⟨h2, hst, hsm, _⟩ := z1R h.mode ho
  rw [hpd] at hst
  have hwg := h.wg
  rw [hst, hsm] at hwg
  rcases Goes.cases hG with hstop | ⟨m', rfl, hstep⟩
  ·obtain ⟨_, g', hgo, m2, hk⟩ := hstop w id
   exact h.book0 ha hgo (tag' := .sp 3 4) (bit' := 0) (f' := m2) (τ' := τ') (by rw [hd, hd0]; exact CState.sa1 hp hk) (.refl Wg w) hwg (by intro e he; simp at he; subst he; exact z4e rfl (.inl rfl)) (z18 (tag' := .sp 3 4) (p := 0) h2 trivial rfl (fun vs e => by cases e)) (fun e => by cases e) (hlt _ _ (.inl rfl))
  ·obtain ⟨g', w1, es, hgo, ⟨rfl, rfl⟩, hg'⟩ := hstep w id
   refine h.idle0 ha hgo (tag' := .sp 4 5) (bit' := 0) (f' := m') (τ' := τ') (by rw [hd, hd0]; exact CState.skd hp hg') ?_ (fun e => by cases e) (hlt _ _ (.inr ⟨rfl, Nat.lt_succ_self _⟩))
   rw [hst, hsm]; exact z18 (tag' := .sp 4 5) (p := 0) h2 trivial rfl (fun vs e => by cases e)
 have kd : ∀ {τ' : Tre} {Anch : Goroutine → World → Prop} {fr' : Frame} {cs : List Frame} {m : Nat}, WArgs P ty Wg Fz Post prs v Anch cs fr' → isOpen tag → pend tag = 0 → d = 0 → Goes P true (RS ty Wg) DC0 (SKd P (RS ty Wg) Anch) m a w →
   (∀ (s' : CTag) (f' : Nat), s' = .anch ∨ (s' = .kd ∧ f' < m) → muLt (muOf n0 j D pl fam s' 0 τ' f') (muOf n0 j D pl fam tag bit τ0 f0)) → Steps1 P ty Wg n0 Sb Fz Post (muOf n0 j D pl fam tag bit τ0 f0) gs w sl t := by
  intro τ' Anch fr' cs m hA ho hpd hd0 hG hlt
  obtain ⟨h2, hst, hsm, _⟩ := z1R h.mode ho
  rw [hpd] at hst
  have hwg := h.wg
  rw [hst, hsm] at hwg
  rcases Goes.cases hG with hstop | ⟨m', rfl, hstep⟩
  ·obtain ⟨_, g', hgo, m2, hk⟩ := hstop w id
   exact h.book0 ha hgo (tag' := .anch) (bit' := 0) (f' := m2) (τ' := τ') (by rw [hd, hd0]; exact CState.anch hA hk) (.refl Wg w) hwg (by intro e he; simp at he; subst he; exact z4e rfl (.inl rfl)) (z18 (tag' := .anch) (p := 0) h2 trivial rfl (fun vs e => by cases e)) (fun e => by cases e) (hlt _ _ (.inl rfl))
  ·obtain ⟨g', w1, es, hgo, ⟨rfl, rfl⟩, hg'⟩ := hstep w id
   refine h.idle0 ha hgo (tag' := .kd) (bit' := 0) (f' := m') (τ' := τ') (by rw [hd, hd0]; exact CState.kd hA hg') ?_ (fun e => by cases e) (hlt _ _ (.inr ⟨rfl, Nat.lt_succ_self _⟩))
   rw [hst, hsm]; exact z18 (tag' := .kd) (p := 0) h2 trivial rfl (fun vs e => by cases e)
 have play : ∀ {τ : Tre} {pend0 : Bool} {fr : Frame} {cs : List Frame}, a = G fr cs → τ = τ0 → PhT P ty Wg Fz Post τ pend0 prs (fr, cs, v) → ((pend0 = false ∧ tag = .sp 0 5) ∨ (pend0 = true ∧ (tag = .sp 0 2 ∨ tag = .sp 1 2))) → d = 0 →
   Steps1 P ty Wg n0 Sb Fz Post (muOf n0 j D pl fam tag bit τ0 f0) gs w sl t := by
  intro τ pend0 fr cs e1 e2 hp htag hd0
  subst e1; subst e2
  have hopn : isOpen tag := by rcases htag with ⟨_, rfl⟩ | ⟨_, rfl | rfl⟩ <;> trivial
  cases τ with
  | leaf => exact hp.elim
  | node f =>
   rcases hp with ⟨fr', cs', hm, hk⟩ | hk | ⟨hpe, fr', hAdd, hk⟩ | ⟨hpe, hlen, fr', cfr, ccs, v', u', τ', pr, hsp, hw, hs, hk⟩ | ⟨hpe, fr', hW, _, hback⟩
   ·rcases htag with ⟨rfl, rfl⟩ | ⟨rfl, ht⟩
    ·exact h.play0 ha (hm w) (tag' := .sp 0 5) (.play0 hk) (hd.trans hd0) h.mode (by simp) ⟨f, _, _, rfl, rfl⟩ h.p0.view (Turn.mute _ _)
    ·refine h.play0 ha (hm w) (tag' := .sp 0 2) (.play1 hk) (hd.trans hd0) ?_ (by simp) ⟨f, _, _, rfl, rfl⟩ h.p0.view (Turn.mute _ _)
     obtain ⟨h2, hst, hsm, _⟩ := z1R h.mode hopn
     rw [hst, hsm]
     rcases ht with rfl | rfl <;> exact z18 (tag' := .sp 0 2) (p := 1) h2 trivial rfl (fun vs e => by cases e)
   ·obtain ⟨fr', cs', v', hG, hk⟩ := hk (fill v w)
    obtain ⟨w', es, h1, h2, h3⟩ := z6x hG h.p0.view
    rcases htag with ⟨rfl, rfl⟩ | ⟨rfl, ht⟩
    ·exact h.play0 ha h1 (tag' := .sp 0 5) (.play0 hk) (hd.trans hd0) h.mode (by simp) ⟨f, _, _, rfl, rfl⟩ h2 h3
    ·refine h.play0 ha h1 (tag' := .sp 0 2) (.play1 hk) (hd.trans hd0) ?_ (by simp) ⟨f, _, _, rfl, rfl⟩ h2 h3
     obtain ⟨h2, hst, hsm, _⟩ := z1R h.mode hopn
     rw [hst, hsm]
     rcases ht with rfl | rfl <;> exact z18 (tag' := .sp 0 2) (p := 1) h2 trivial rfl (fun vs e => by cases e)
   ·subst hpe
    rcases htag with ⟨_, rfl⟩ | ⟨h1, _⟩
    ·obtain ⟨m, hG⟩ := hAdd w hlive
     exact skd hk trivial rfl hd0 hG fun s' f' _ => muLt.one ⟨f, _, _, rfl, rfl⟩
    ·cases h1
   ·subst hpe
    rcases htag with ⟨h1, _⟩ | ⟨_, ht⟩
    ·cases h1
    ·exact h.spawn ha (hsp w) (hd.trans hd0) (by rw [← h.len]; exact hlen) hw hs hk ⟨f, _, _, rfl, rfl⟩ ht
   ·subst hpe
    rcases htag with ⟨_, rfl⟩ | ⟨h1, _⟩
    ·obtain ⟨Anch, k1, k2, k3⟩ := hW
     obtain ⟨m, hG⟩ := k2 w hlive
     exact kd (τ' := f (0, 0) (fr, cs, v)) ⟨k1, k3, hback⟩ trivial rfl hd0 hG fun s' f' _ => muLt.one ⟨f, _, _, rfl, rfl⟩
    ·cases h1
 cases hc with
 | play0 hp => exact .inl (play rfl rfl hp (.inl ⟨rfl, rfl⟩) rfl)
 | play1 hp => exact .inl (play rfl rfl hp (.inr ⟨rfl, .inl rfl⟩) rfl)
 | skd hp hG =>
  refine .inl (skd hp trivial rfl rfl hG fun s' f' hs => ?_)
  rcases hs with rfl | ⟨rfl, hf⟩
  ·exact z2g (by simp only [phi]; omega)
  ·exact z1D hf
 | sa1 hp hG =>
  left
  obtain ⟨h2, hst, hsm, _⟩ := z1R h.mode trivial
  have hwg := h.wg
  rw [hst, hsm] at hwg
  rcases Goes.cases hG with hstop | ⟨m', rfl, hstep⟩
  ·obtain ⟨_, hall⟩ := hstop w id
   obtain ⟨g', hgo, hk⟩ := hall (Vc j D) (by omega) (by simpa [pend] using hwg)
   have hwg' := hwg.setSt (((Vc j D + 1 : Nat) : Int) * KK)
   have ev : (((Vc j D : Nat) : Int) + 1) * KK = ((Vc j D + 1 : Nat) : Int) * KK := by push_cast; rfl
   rw [ev] at hgo hk
   have hbk : ∀ e ∈ #[Go.ConcR.rd (stA Wg), Go.ConcR.wr (stA Wg)], B0 Wg e := by intro e he; simp at he; rcases he with rfl | rfl; exact z2k (bk_rd Wg); exact z2k (zcK Wg)
   cases hv : Vc j D with
   | zero =>
    simp only [hv] at hk
    obtain ⟨m2, hk⟩ := hk
    rw [hv] at hgo hwg'
    exact h.book0 ha hgo (tag' := .sp 2 3) (bit' := 0) (f' := m2) (by rw [hd]; exact CState.srd hp hk) (aside_setCell w (stA Wg) _) hwg' hbk (by have := z18 (tag' := .sp 2 3) (p := 1) h2 trivial rfl (fun vs e => by cases e); rw [hv] at this; exact this) (fun e => by cases e) (z2g (by simp only [phi]; omega))
   | succ n =>
    simp only [hv] at hk
    obtain ⟨m2, hk⟩ := hk
    rw [hv] at hgo hwg'
    exact h.book0 ha hgo (tag' := .sp 1 3) (bit' := 0) (f' := m2) (by rw [hd]; exact CState.ske hp hk) (aside_setCell w (stA Wg) _) hwg' hbk (by have := z18 (tag' := .sp 1 3) (p := 1) h2 trivial rfl (fun vs e => by cases e); rw [hv] at this; exact this) (fun e => by cases e) (z2g (by simp only [phi]; omega))
  ·obtain ⟨g', w1, es, hgo, ⟨rfl, rfl⟩, hg'⟩ := hstep w id
   exact h.idle0 ha hgo (by rw [hd]; exact CState.sa1 hp hg') h.mode (fun e => by cases e) (z1D (Nat.lt_succ_self _))
 | srd hp hG =>
  left
  obtain ⟨h2, hst, hsm, _⟩ := z1R h.mode trivial
  rcases Goes.cases hG with hstop | ⟨m', rfl, hstep⟩
  ·obtain ⟨_, g', e, hgo, hev, m2, hk⟩ := hstop w id
   obtain ⟨b1, b2, b3⟩ := zdP hev
   refine h.book0 ha hgo (tag' := .sp 1 3) (bit' := 0) (f' := m2) (by rw [hd, Go.ConcR.deafBehind_one b2 b3]; exact CState.ske hp hk) (.refl Wg w) h.wg (by intro x hx; simp at hx; subst hx; exact b1) ?_ (fun e => by cases e) (z2g (by simp only [phi]; omega))
   rw [hst, hsm]; exact z18 (tag' := .sp 1 3) (p := 1) h2 trivial rfl (fun vs e => by cases e)
  ·obtain ⟨g', w1, es, hgo, ⟨rfl, rfl⟩, hg'⟩ := hstep w id
   exact h.idle0 ha hgo (by rw [hd]; exact CState.srd hp hg') h.mode (fun e => by cases e) (z1D (Nat.lt_succ_self _))
 | ske hp hG =>
  left
  obtain ⟨h2, hst, hsm, _⟩ := z1R h.mode trivial
  rcases Goes.cases hG with hstop | ⟨m', rfl, hstep⟩
  ·obtain ⟨_, g', hgo, m2, hk⟩ := hstop w id
   refine h.book0 ha hgo (tag' := .sp 1 2) (bit' := 0) (f' := m2) (by rw [hd]; exact CState.sfin hp hk (z0s (fun g w e => by rw [e]; rfl) hk)) (.refl Wg w) h.wg (by intro x hx; simp at hx; subst hx; exact z4e rfl (.inr (.inl rfl))) ?_ (fun e => by cases e) (z2g (by simp only [phi]; omega))
   rw [hst, hsm]; exact z18 (tag' := .sp 1 2) (p := 1) h2 trivial rfl (fun vs e => by cases e)
  ·obtain ⟨g', w1, es, hgo, ⟨rfl, rfl⟩, hg'⟩ := hstep w id
   exact h.idle0 ha hgo (by rw [hd]; exact CState.ske hp hg') h.mode (fun e => by cases e) (z1D (Nat.lt_succ_self _))
 | sfin hp hG _ =>
  left
  rcases Goes.cases hG with hstop | ⟨m', rfl, hstep⟩
  ·exact play (hstop w id) rfl hp (.inr ⟨rfl, .inr rfl⟩) rfl
  ·obtain ⟨g', w1, es, hgo, ⟨rfl, rfl⟩, hg'⟩ := hstep w id
   exact h.idle0 ha hgo (by rw [hd]; exact CState.sfin hp hg' (z0s (fun g w e => by rw [e]; rfl) hg')) h.mode (fun e => by cases e) (z1D (Nat.lt_succ_self _))
 | kd hA hG =>
  refine .inl (kd (τ' := τ0) hA trivial rfl rfl hG fun s' f' hs => ?_)
  rcases hs with rfl | ⟨rfl, hf⟩
  ·exact z2g (by simp only [phi]; omega)
  ·exact z1D hf
 | anch hA hG =>
  left
  rcases Goes.cases hG with hstop | ⟨m', rfl, hstep⟩
  ·obtain ⟨m, hG⟩ := hA.round _ w (hstop w id)
   refine h.w1step ha trivial rfl hd hA hG fun tag' f' ht => ?_
   rcases ht with ht | ⟨rfl, _⟩
   ·exact z2g (by simp only [phi] at ht ⊢; omega)
   ·exact z2g (by simp only [phi]; omega)
  ·obtain ⟨g', w1, es, hgo, ⟨rfl, rfl⟩, hg'⟩ := hstep w id
   exact h.idle0 ha hgo (by rw [hd]; exact CState.anch hA hg') h.mode (fun e => by cases e) (z1D (Nat.lt_succ_self _))
 | w1 hA hG =>
  refine .inl (h.w1step ha trivial rfl hd hA hG fun tag' f' ht => ?_)
  rcases ht with ht | ⟨rfl, hf⟩
  ·exact z2g (by omega)
  ·exact z1D hf
 | w2 hA hG =>
  rename_i vs _ _ _
  left
  obtain ⟨h2, hst, hsm, hvs⟩ := z1R h.mode trivial
  obtain ⟨hv1, hv2⟩ := hvs vs rfl
  have hwg := h.wg
  rw [hst, hsm] at hwg
  rcases Goes.cases hG with hstop | ⟨m', rfl, hstep⟩
  ·obtain ⟨_, hall⟩ := hstop w id
   obtain ⟨q1, q2⟩ := hall (Vc j D) (by omega) (by simpa [pend] using hwg)
   by_cases hv : Vc j D = vs
   ·obtain ⟨g', hgo, m2, hk⟩ := q1 hv
    exact h.book0 ha hgo (tag' := .w3) (bit' := 1) (f' := m2) (by rw [hd]; exact CState.w2r hA hk) (aside_setCell w (stA Wg) _) (hwg.setSt _) (by intro e he; simp at he; rcases he with rfl | rfl; exact z2k (bk_rd Wg); exact z2k (zcK Wg)) (.reg trivial h2 (by omega)) (fun e => by cases e) (z2g (by simp only [phi]; omega))
   ·obtain ⟨g', hgo, m2, hk⟩ := q2 hv
    exact h.book0 ha hgo (tag' := .anch) (bit' := 0) (f' := m2) (by rw [hd]; exact CState.anch hA hk) (.refl Wg w) hwg (by intro e he; simp at he; subst he; exact z2k (bk_rd Wg)) (z18 (tag' := .anch) (p := 0) h2 trivial rfl (fun vs e => by cases e)) (fun e => by cases e) (z2g (by simp only [phi]; omega))
  ·obtain ⟨g', w1, es, hgo, ⟨rfl, rfl⟩, hg'⟩ := hstep w id
   exact h.idle0 ha hgo (by rw [hd]; exact CState.w2 hA hg') h.mode (fun e => by cases e) (z1D (Nat.lt_succ_self _))
 | w2r hA hG =>
  left
  rcases Goes.cases hG with hstop | ⟨m', rfl, hstep⟩
  ·obtain ⟨_, g', e, hgo, hev, m2, hk⟩ := hstop w id
   obtain ⟨b1, b2, b3⟩ := zdP hev
   exact h.book0 ha hgo (tag' := .w3) (bit' := 0) (f' := m2 + 1) (by rw [hd, Go.ConcR.deafBehind_one b2 b3]; exact CState.w3 hA hk) (.refl Wg w) h.wg (by intro x hx; simp at hx; subst hx; exact b1) h.mode (fun e => by cases e) (z2g (by omega))
  ·obtain ⟨g', w1, es, hgo, ⟨rfl, rfl⟩, hg'⟩ := hstep w id
   exact h.idle0 ha hgo (by rw [hd]; exact CState.w2r hA hg') h.mode (fun e => by cases e) (z1D (Nat.lt_succ_self _))
 | w3 hA hG =>
  left
  rcases Goes.cases hG with hstop | ⟨m', rfl, hstep⟩
  ·obtain ⟨_, _, q1, q2⟩ := hstop w id
   rcases ze6 h.mode with ⟨hs0, hm⟩ | ⟨hs0, hs1, hq⟩
   ·have hwg := h.wg
    rw [hs0] at hwg
    exact h.idle0 ha (q1 ⟨_, hwg⟩) (tag' := .blk) (bit' := 0) (f' := 0) (by rw [hd]; exact CState.blk hA hstop) hm (fun e => by cases e) (muLt.four (Nat.succ_pos _))
   ·have hwg := h.wg
    rw [hs0, hs1] at hwg
    obtain ⟨g', hgo, m2, hk⟩ := q2 hwg
    exact h.book0 ha hgo (tag' := .w4) (bit' := 0) (f' := m2) (by rw [hd, show deafBehind 1 (semEvents (smA Wg)) = 1 by simp [deafBehind, semEvents]]; exact CState.w4 hA hk) (aside_setCell w (smA Wg) _) (hwg.setSm 0) (fun e he => z2k (bk_sem Wg e he)) (.fin trivial hq) (fun e => by cases e) (z2g (by simp only [phi]; omega))
  ·obtain ⟨g', w1, es, hgo, ⟨rfl, rfl⟩, hg'⟩ := hstep w id
   exact h.idle0 ha hgo (by rw [hd]; exact CState.w3 hA hg') h.mode (fun e => by cases e) (z1D (Nat.lt_succ_self _))
 | blk hA hb => cases hrun
 | w4 hA hG =>
  left
  obtain ⟨hs0, hs1, hq⟩ := z5I h.mode trivial
  have hwg := h.wg
  rw [hs0, hs1] at hwg
  rcases Goes.cases hG with hstop | ⟨m', rfl, hstep⟩
  ·obtain ⟨_, hx⟩ := hstop w id
   obtain ⟨g', hgo, m2, hk⟩ := hx hwg
   exact h.book0 ha hgo (tag' := .ke) (bit' := 0) (f' := m2) (by rw [hd]; exact CState.ke hA hk) (.refl Wg w) hwg (by intro e he; simp at he; subst he; exact z2k (bk_rd Wg)) (.fin trivial hq) (fun e => by cases e) (z2g (by simp only [phi]; omega))
  ·obtain ⟨g', w1, es, hgo, ⟨rfl, rfl⟩, hg'⟩ := hstep w id
   exact h.idle0 ha hgo (by rw [hd]; exact CState.w4 hA hg') h.mode (fun e => by cases e) (z1D (Nat.lt_succ_self _))
 | ke hA hG =>
  left
  obtain ⟨hs0, hs1, hq⟩ := z5I h.mode trivial
  have hwg := h.wg
  rw [hs0, hs1] at hwg
  rcases Goes.cases hG with hstop | ⟨m', rfl, hstep⟩
  ·obtain ⟨_, g', hgo, m2, hk⟩ := hstop w id
   exact h.book0 ha hgo (tag' := .acq) (bit' := 0) (f' := m2) (by rw [hd]; exact CState.acq hA hk) (.refl Wg w) hwg (by intro e he; simp at he; subst he; exact z4e rfl (.inr (.inl rfl))) (.fin trivial hq) (fun e => by cases e) (z2g (by simp only [phi]; omega))
  ·obtain ⟨g', w1, es, hgo, ⟨rfl, rfl⟩, hg'⟩ := hstep w id
   exact h.idle0 ha hgo (by rw [hd]; exact CState.ke hA hg') h.mode (fun e => by cases e) (z1D (Nat.lt_succ_self _))
 | acq hA hG =>
  left
  obtain ⟨hs0, hs1, hq⟩ := z5I h.mode trivial
  have hwg := h.wg
  rw [hs0, hs1] at hwg
  rcases Goes.cases hG with hstop | ⟨m', rfl, hstep⟩
  ·obtain ⟨_, g', hgo, m2, hk⟩ := hstop w id
   refine h.book0 ha hgo (tag' := .ret) (bit' := 0) (f' := m2) (by rw [hd]; exact CState.ret hA hk (z0s (fun g w e => by rw [e]; rfl) hk)) (.refl Wg w) hwg (by intro e he; simp at he; subst he; exact z4e rfl (.inr (.inr rfl))) (.fin trivial hq) (fun _ => ?_) (z2g (by simp only [phi]; omega))
   have e1 : MemOp.ofEvents 0 a.frame.fn a.frame.place #[Go.ConcR.mk (.acquire (stA Wg))] = #[{ g := 0, fn := a.frame.fn, pos := a.frame.place, act := .mark (.acquire (stA Wg)) }] := by rw [Go.Conc.ofEvents_eq]; simp [Go.ConcR.ofEvent_mk]
   rw [e1]
   have hy : (t ++ #[({ g := 0, fn := a.frame.fn, pos := a.frame.place, act := .mark (.acquire (stA Wg)) } : MemOp)])[t.size]? = some { g := 0, fn := a.frame.fn, pos := a.frame.place, act := .mark (.acquire (stA Wg)) } := by simp
   refine ⟨t.size, by rw [act?_of hy], by simp [Trace.g?], ⟨0, by simp [Trace.g?], by rw [deaf_old (Nat.le_refl _)]; exact hd⟩, fun i hi => ?_⟩
   obtain ⟨r, hr⟩ := (h.rl i hi).1 (by rw [hq i hi]; omega)
   exact ⟨r, hr, lt_of_act? (h.tr.wkr (n0 + i) r (by omega) hr).1.act⟩
  ·obtain ⟨g', w1, es, hgo, ⟨rfl, rfl⟩, hg'⟩ := hstep w id
   exact h.idle0 ha hgo (by rw [hd]; exact CState.acq hA hg') h.mode (fun e => by cases e) (z1D (Nat.lt_succ_self _))
 | ret hA hG _ =>
  rcases Goes.cases hG with hstop | ⟨m', rfl, hstep⟩
  ·right
   have e := hstop w id
   subst e
   exact h.atEnd hd ha hA.back
  ·left
   obtain ⟨g', w1, es, hgo, ⟨rfl, rfl⟩, hg'⟩ := hstep w id
   exact h.idle0 ha hgo (by rw [hd]; exact CState.ret hA hg' (z0s (fun g w e => by rw [e]; rfl) hg')) h.mode h.acq (z1D (Nat.lt_succ_self _))
end
end Go.Eng
namespace Go.Eng
open Go Go.RowKit
open Go.Conc
open Go.ConcN (WgLive WD CTag Vc Ssum phi sumTo cnt isW3 isOpen OpenSt AllQuit pend)
open Go.ConcR (stA smA KK WgAt DC0 Bk)
open Go.Eng.Wg
section
variable [Kp : Keep]
variable {P : Program} {ty : TypeId} {Wg n0 : Nat} {Sb : Nat → Prop} {Fz : Nat → Option Obj} {Post : Sta → Prop}
 {j : Nat} {D : Nat → WD} {pl : Nat → Nat} {fam : Nat → Tre} {prs : List (Nat × Obj)} {u : Nat → World} {rel rel' : Nat → Option Nat} {tag : CTag} {bit d : Nat} {τ0 τ : Tre} {f0 : Nat} {v : World} {st sm : Int}
 {gs : Array Goroutine} {w w' : World} {t : Trace} {sl : Option (Nat × Nat)} {a : Goroutine}
theorem PI.z99 (h : PI P ty Wg n0 Sb Fz Post j D pl fam prs u rel tag bit τ0 f0 v st sm gs w t) {i : Nat} (hi : i < j) : ∃ pr g, gs[n0 + i]? = some g ∧ WState P ty Wg pr (D i).stage (D i).deaf (pl i) (fam (n0 + i)) (u i) g w := by
 have hp : prs[i]? = some (prs[i]'(by rw [h.len]; omega)) := by simp [show i < prs.length by rw [h.len]; omega]
 obtain ⟨g, h1, h2, _⟩ := h.wk i _ hp
 exact ⟨_, g, h1, h2⟩
theorem PI.someone (h : PI P ty Wg n0 Sb Fz Post j D pl fam prs u rel tag bit τ0 f0 v st sm gs w t) : ∃ (i : Nat) (g : Goroutine), gs[i]? = some g ∧ g.status = .running := by
 obtain ⟨a, ha, hc⟩ := h.c
 rcases hc.status with ⟨hs, _⟩ | ⟨_, rfl⟩
 ·exact ⟨0, a, ha, hs⟩
 ·have hm := h.mode
  have go : ∀ i, i < j → (D i).stage ≠ 1 → ∃ (i : Nat) (g : Goroutine), gs[i]? = some g ∧ g.status = .running := fun i hi hs => by
   obtain ⟨pr, g, h1, h2⟩ := h.z99 hi
   exact ⟨n0 + i, g, h1, h2.runs hs⟩
  cases hm with
  | opn h1 _ _ => exact h1.elim
  | reg _ h2 h3 =>
   apply Classical.byContradiction
   intro hn
   have : Vc j D = 0 := by
    have := Go.ConcN.sumTo_le (f := fun i => cnt (D i)) (c := 0) (j := j) fun i hi => by
     have hs : (D i).stage = 1 := by
      apply Classical.byContradiction
      intro hs
      exact hn (go i hi hs)
     simp [cnt, hs]
    simp only [Vc]; omega
   omega
  | last L _ h2 h3 _ => exact go L h2 (by omega)
  | fin h1 _ => exact h1.elim
theorem PI.awake (h : PI P ty Wg n0 Sb Fz Post j D pl fam prs u rel tag bit τ0 f0 v st sm gs w t) : ∀ g ∈ gs, Go.Conc.awake g := by
 intro g hg tm
 obtain ⟨k, hk⟩ := Array.mem_iff_getElem?.1 hg
 have ok : ∀ {x : Goroutine}, x.status = .running ∨ x.status = .finished → x.status ≠ .sleeping tm := fun hx => by rcases hx with hx | hx <;> rw [hx] <;> simp
 have hlt : k < n0 + j := by have := (Array.getElem?_eq_some_iff.1 hk).1; rw [h.size] at this; exact this
 rcases Nat.eq_zero_or_pos k with rfl | hpos
 ·obtain ⟨a, ha, hc⟩ := h.c
  rw [ha] at hk; injection hk with hk; subst hk
  rcases hc.status with ⟨hs, _⟩ | ⟨hs, _⟩ <;> rw [hs] <;> simp
 ·rcases Nat.lt_or_ge k n0 with hkn | hkn
  ·obtain ⟨m, _, hq⟩ := h.old k g hpos hkn hk
   exact ok hq.status
  ·obtain ⟨x, rfl⟩ : ∃ x, k = n0 + x := ⟨k - n0, by omega⟩
   obtain ⟨pr, g1, h1, h2⟩ := h.z99 (i := x) (by omega)
   rw [hk] at h1; injection h1 with h1; subst h1
   exact ok h2.status
theorem zbv (μ : Mu) (m : Machine) (t : Trace) (hI : PInv P ty Wg n0 Sb Fz Post μ m t) :
  (∃ m', m' = m ∨ (∃ d sl, m' = m.at d sl)) ∧ ((∃ m₁ ops μ', stepT P m = (.next m₁, ops) ∧ muLt μ' μ ∧ PInv P ty Wg n0 Sb Fz Post μ' m₁ (t ++ ops)) ∨ PEnd P Wg Sb Post m t) := by
 refine ⟨⟨m, .inl rfl⟩, ?_⟩
 obtain ⟨j, D, pl, fam, prs, u, rel, tag, bit, τ0, f0, v, st, sm, gs, w, sl, rfl, h, rfl⟩ := hI
 obtain ⟨a, ha, hc⟩ := h.c
 by_cases hend : PEnd P Wg Sb Post (crowd gs w sl) t
 ·exact .inr hend
 ·obtain ⟨i, g, d, sl', hg, hrun, hstep⟩ := crowd_pick (P := P) (w := w) (sl := sl) h.awake h.someone
  rw [hstep]
  have h' := h.at d
  rcases Nat.eq_zero_or_pos i with rfl | hpos
  ·rcases h'.starter (sl := sl') hg hrun with hs | hs
   ·exact .inl hs
   ·refine absurd ?_ hend
    obtain ⟨gs1, w1, sl1, fr, cs, v1, q, e, h1, h2, h3, h4, h5, h6, h7, h8, h9, h10, h11, h12⟩ := hs
    have e1 : gs = gs1 ∧ w.at d = w1 := by
     have := congrArg (fun m : Machine => (m.gs, m.world)) e
     simp only [crowd, Prod.mk.injEq] at this
     exact this
    obtain ⟨rfl, rfl⟩ := e1
    exact ⟨gs, w, sl, fr, cs, v1, q, rfl, h1, h2, by have := h3.at w.drawn; exact this, h4, h5, h6, h7, h8, h9, h10, h11, h12⟩
  ·rcases Nat.lt_or_ge i n0 with hin | hin
   ·exact .inl (h'.older hpos hin hg hrun)
   ·obtain ⟨x, rfl⟩ : ∃ x, i = n0 + x := ⟨i - n0, by omega⟩
    have hlt : n0 + x < n0 + j := by have := (Array.getElem?_eq_some_iff.1 hg).1; rw [h.size] at this; exact this
    exact .inl (h'.worker (by omega) hg hrun)
theorem zbw : ∀ (μ : Mu) (m : Machine) (t : Trace), PInv P ty Wg n0 Sb Fz Post μ m t → ∃ N m' t', runNT P N m t = (.next m', t') ∧ PEnd P Wg Sb Post m' t' := by
 intro μ
 induction μ using ze4.induction with
 | _ μ ih =>
  intro m t hI
  rcases (zbv μ m t hI).2 with ⟨m₁, ops, μ', h1, h2, h3⟩ | h
  ·obtain ⟨N, m', t', k1, k2⟩ := ih μ' h2 m₁ (t ++ ops) h3
   exact ⟨N + 1, m', t', by rw [runNT_succ_next h1]; exact k1, k2⟩
  ·exact ⟨0, m, t, rfl, h⟩
end
end Go.Eng
namespace Go.Eng
open Go Go.RowKit
open Go.Conc
open Go.ConcN (WgLive WD CTag Vc Ssum phi sumTo cnt isW3 isOpen OpenSt AllQuit pend)
open Go.ConcR (stA smA KK WgAt DC0 Bk)
open Go.Eng.Wg
structure OutM [Kp : Keep] (P : Program) (Sb : Nat → Prop) (fr : Frame) (cs : List Frame) (v : World) (gs : Array Goroutine) (w : World) (t : Trace) : Prop where
 a : gs[0]? = some (G fr cs)
 view : View v w
 lv : ∃ q, Leavers P t gs q
 past : Past (fun l => ∃ b, locB l = some b ∧ Sb b) w.heap.size t
 sb : ∀ b, ReadAt v b → ¬ Sb b
 sbl : ∀ b, Sb b → b < w.heap.size
 kz : ∀ b o, Kp.kz b = some o → w.heap[b]? = some o ∧ ¬ MineAt v b
 norel : ∀ op ∈ t, ∀ a, op.act ≠ .mark (.release a)
 gs : ∀ op ∈ t, op.g < gs.size
 said : ∀ op ∈ t, ∀ x, op.act.touch? = some x → x.kind = .said → op.g = 0
section
variable [Kp : Keep]
variable {P : Program} {ty : TypeId} {Wg n0 : Nat} {Sb : Nat → Prop} {Fz : Nat → Option Obj} {Post : Sta → Prop} {fr : Frame} {cs : List Frame} {v v1 w : World} {gs : Array Goroutine} {t : Trace} {sl : Option (Nat × Nat)}
theorem OutM.kn (h : OutM P Sb fr cs v gs w t) : Kn t 0 v := by
 have key : ∀ (i : Nat) (a : Touch) (b : Nat), touchAt t i = some a → locB a.loc = some b → ReadAt v b → Knows t 0 i := by
  intro i a b ha hb hr
  have hm : a.loc.isMemory = true := by
   unfold locB at hb
   split at hb
   ·rename_i e; rw [e]; rfl
   ·rename_i e; rw [e]; rfl
   ·cases hb
  rcases h.past.known i a ha hm with hk | ⟨⟨b', hb', hs⟩, _⟩
  ·exact hk
  ·rw [hb] at hb'; injection hb' with hb'; subst hb'
   exact absurd hs (h.sb b hr)
 exact ⟨fun i a b ha hb hm => key i a b ha hb hm.read, fun i a b ha hb hr _ => key i a b ha hb hr⟩
structure Begin (ty : TypeId) (Wg : Nat) (Fz : Nat → Option Obj) (v v1 : World) : Prop where
 vw : ∀ w, View v w → View v1 w
 mine : ∀ b, MineAt v1 b → MineAt v b
 read : ∀ b, ReadAt v1 b → ReadAt v b
 wg : v.heap[Wg]? = some (Go.ConcR.wgBlock ty 0 0)
 now : ¬ ReadAt v1 Wg
 fz : ∀ b o, Fz b = some o → v.heap[b]? = some o ∧ MineO o ∧ b ≠ Wg ∧ ¬ MineAt v1 b
theorem OutM.begin (h : OutM P Sb fr cs v gs w t) (hb : Begin ty Wg Fz v v1) {τ : Tre} (hp : PhT P ty Wg Fz Post τ false [] (fr, cs, v1)) :
  PInv P ty Wg gs.size Sb Fz Post (muOf gs.size 0 (fun _ => ⟨0, 0, 0⟩) (fun _ => 0) (fun k => chain ((Classical.choose h.lv) k)) (.sp 0 5) 0 τ 0) (crowd gs w sl) t := by
 have hq := Classical.choose_spec h.lv
 have hkn := h.kn
 have hwo : MineO (Go.ConcR.wgBlock ty 0 0) := by
  refine ⟨fun e => ?_, fun c t' e => ?_⟩
  ·unfold Go.ConcR.wgBlock junk at e
   injection e with e1 e2 e3
   cases e1
  ·unfold Go.ConcR.wgBlock at e
   injection e with e1 e2 e3
   subst e1
   cases e3
 have hwm : MineAt v Wg := ⟨_, hb.wg, hwo⟩
 have real : ∀ b o, v.heap[b]? = some o → MineO o → w.heap[b]? = some o := fun b o ho hm => by
  have hl : b < w.heap.size := Nat.lt_of_lt_of_le (Array.getElem?_eq_some_iff.1 ho).1 h.view.size
  have := h.view.alike b o w.heap[b] ho (by simp [hl])
  rw [← z1F this hm, Array.getElem?_eq_getElem hl]
 have hgs0 : 0 < gs.size := (Array.getElem?_eq_some_iff.1 h.a).1
 refine ⟨0, fun _ => ⟨0, 0, 0⟩, fun _ => 0, fun k => chain ((Classical.choose h.lv) k), [], fun _ => v1, fun _ => none, .sp 0 5, 0, τ, 0, v1, 0, 0, gs, w, sl, rfl, ?_, rfl⟩
 refine ⟨hgs0, by omega, rfl, rfl, ⟨_, h.a, by rw [h.past.hears]; exact .play0 hp⟩, fun i g hi _ hg => ⟨_, rfl, hq.old i g hi hg⟩, fun i pr hp => by simp at hp, fun k hk => ⟨hq.above k hk, rfl⟩, ?_, fun i hi => by omega, ⟨hb.vw w h.view, ⟨fun i a b h1 h2 h3 => hkn.mine i a b h1 h2 (hb.mine b h3), fun i a b h1 h2 h3 h4 => hkn.read i a b h1 h2 (hb.read b h3) h4⟩, fun b hr => ⟨h.sb b (hb.read b hr), fun e => hb.now (e ▸ hr)⟩⟩, fun i hi => by omega, fun i hi => by omega, fun i i' hi => by omega,
  fun b o hf => ?_, fun i pr hp => by simp at hp, real Wg _ hb.wg hwo, ?_, h.sbl, fun b o hk => ⟨(h.kz b o hk).1, fun e => (h.kz b o hk).2 (e ▸ hwm), fun hm => (h.kz b o hk).2 (hb.mine b hm), fun i hi => by omega⟩, fun e => by cases e⟩
 ·refine ⟨h.past.clean, h.past.seen, fun op hop => by have := h.gs op hop; omega, h.said, fun i x hx hbx hk => ⟨hkn.mine i x Wg hx hbx hwm, fun k h1 h2 => by omega⟩, fun i x g hx hm hg _ => ?_, fun i g hg hne _ hc => h.past.over i g hg hne hc, fun k r _ hr => (by cases hr), h.norel⟩
  ·exact (h.past.known i x hx hm).imp id fun ⟨q1, q2⟩ => ⟨.inl q1, q2⟩
 ·obtain ⟨q1, q2, q3, q4⟩ := hb.fz b o hf
  exact ⟨⟨real b o q1 q2, q3, h.sb b ⟨o, q1, q2.1⟩, h.view.views b o q1, by
   cases hk : Kp.kz b with
   | none => rfl
   | some o' => exact absurd ⟨o, q1, q2⟩ (h.kz b o' hk).2⟩, q4, fun i hi => by omega⟩
 ·have := Go.ConcN.Mode.opn (j := 0) (D := fun _ => (⟨0, 0, 0⟩ : WD)) (tag := .sp 0 5) trivial (fun i hi => by omega) (fun vs e => by cases e)
  simpa [Vc, sumTo, pend] using this
end
end Go.Eng
namespace Go.Eng
open Go Go.RowKit
open Go.Conc
open Go.ConcN (sumTo)
open Go.ConcR (stA smA KK WgAt DC0 Bk)
open Go.Eng.Wg
theorem zaO {Shun Shun' : Go.Loc → Prop} {B : Nat} {t : Trace} (h : Past Shun B t) (hi : ∀ l, Shun l → Shun' l) : Past Shun' B t :=
 ⟨h.clean, fun i a ha hm => (h.known i a ha hm).imp id fun ⟨q1, q2⟩ => ⟨hi _ q1, q2⟩, h.over, h.hears, h.seen⟩
def chanW (v : World) (c cap : Nat) (buf : Array Value) (cl : Bool) (sn rc : Nat) (tm : Bool) : World := { v with heap := v.heap.setIfInBounds c (.chan cap buf cl sn rc tm) }
def recvP (P : Program) (fr : Frame) (cs : List Frame) (v : World) (Post : Sta → Prop) : Prop :=
 ∃ c cap buf cl sn rc tm z ok, (∀ W, stepG P true (G fr cs) W = .comm (G fr cs) #[rcase c z] true (.recv ok) W #[]) ∧ v.heap[c]? = some (.chan cap buf cl sn rc tm) ∧
  ((0 < buf.size ∧ Post (fr.finish (recvd ok (buf.getD 0 undef) true), cs, chanW v c cap (buf.extract 1 buf.size) cl sn (rc + 1) tm)) ∨ (buf = #[] ∧ cl = true ∧ Post (fr.finish (recvd ok z false), cs, v)))
def leapP (ty : TypeId) (P : Program) (fr : Frame) (cs : List Frame) (v : World) (Post : Sta → Prop) : Prop :=
 (∃ Wg Fz v1 τ, Begin ty Wg Fz v v1 ∧ PhT P ty Wg Fz Post τ false [] (fr, cs, v1)) ∨ recvP P fr cs v Post
section
variable [Kp : Keep]
variable {P : Program} {ty : TypeId} {Sb : Nat → Prop} {fr : Frame} {cs : List Frame} {v w : World} {gs : Array Goroutine} {t : Trace} {sl : Option (Nat × Nat)}
theorem OutM.at (h : OutM P Sb fr cs v gs w t) (d : Nat) : OutM P Sb fr cs v gs (w.at d) t := ⟨h.a, h.view.at d, h.lv, h.past, h.sb, h.sbl, h.kz, h.norel, h.gs, h.said⟩
theorem OutM.pick : ∀ (M : Nat) {gs : Array Goroutine} {w : World} {t : Trace} {sl : Option (Nat × Nat)} {q : Nat → Nat}, sumTo gs.size q ≤ M → Leavers P t gs q → OutM P Sb fr cs v gs w t →
  ∃ (N : Nat) (gs' : Array Goroutine) (w' : World) (sl' : Option (Nat × Nat)) (t' : Trace) (d : Nat) (sl2 : Option (Nat × Nat)), runNT P N (crowd gs w sl) t = (.next (crowd gs' w' sl'), t') ∧ OutM P Sb fr cs v gs' w' t' ∧
   stepT P (crowd gs' w' sl') = runT P (crowd gs' (w'.at d) sl2) 0 := by
 intro M
 induction M with
 | zero =>
  intro gs w t sl q hM hL h
  exact pickM 0 (by omega) hL h (fun {_ _ _ _ _} hlt => by omega)
 | succ M ih =>
  intro gs w t sl q hM hL h
  exact pickM (M + 1) hM hL h (fun {gs' w' t' sl' q'} hlt hL' h' => ih (by omega) hL' h')
where
 pickM (M : Nat) {gs : Array Goroutine} {w : World} {t : Trace} {sl : Option (Nat × Nat)} {q : Nat → Nat} (hM : sumTo gs.size q ≤ M) (hL : Leavers P t gs q) (h : OutM P Sb fr cs v gs w t)
   (ih : ∀ {gs' : Array Goroutine} {w' : World} {t' : Trace} {sl' : Option (Nat × Nat)} {q' : Nat → Nat}, sumTo gs'.size q' < M → Leavers P t' gs' q' → OutM P Sb fr cs v gs' w' t' →
    ∃ (N : Nat) (gs'' : Array Goroutine) (w'' : World) (sl'' : Option (Nat × Nat)) (t'' : Trace) (d : Nat) (sl2 : Option (Nat × Nat)), runNT P N (crowd gs' w' sl') t' = (.next (crowd gs'' w'' sl''), t'') ∧ OutM P Sb fr cs v gs'' w'' t'' ∧
     stepT P (crowd gs'' w'' sl'') = runT P (crowd gs'' (w''.at d) sl2) 0) :
   ∃ (N : Nat) (gs' : Array Goroutine) (w' : World) (sl' : Option (Nat × Nat)) (t' : Trace) (d : Nat) (sl2 : Option (Nat × Nat)), runNT P N (crowd gs w sl) t = (.next (crowd gs' w' sl'), t') ∧ OutM P Sb fr cs v gs' w' t' ∧
    stepT P (crowd gs' w' sl') = runT P (crowd gs' (w'.at d) sl2) 0 := by
  have haw : ∀ g ∈ gs, awake g := by
   intro g hg
   obtain ⟨i, hi, rfl⟩ := Array.mem_iff_getElem.1 hg
   rcases Nat.eq_zero_or_pos i with rfl | hpos
   ·have : gs[0] = G fr cs := by simpa [Array.getElem?_eq_getElem hi] using h.a
    rw [this]; exact awake_of (.inl rfl)
   ·exact awake_of ((hL.old i _ hpos (Array.getElem?_eq_getElem hi)).status.elim .inl fun x => .inr (.inr x))
  obtain ⟨i, g, d, sl', hi, hg, hst⟩ := crowd_pick (P := P) (w := w) (sl := sl) haw ⟨0, _, h.a, rfl⟩
  rcases Nat.eq_zero_or_pos i with rfl | hpos
  ·exact ⟨0, gs, w, sl, t, d, sl', rfl, h, hst⟩
  ·have hq := hL.old i g hpos hi
   have hlt : i < gs.size := (Array.getElem?_eq_some_iff.1 hi).1
   cases hqi : q i with
   | zero => rw [hqi] at hq; rw [hq.1] at hg; cases hg
   | succ k =>
    rw [hqi] at hq
    rcases hq with ⟨hf, _⟩ | ⟨_, g', es, hm, hstp, hq'⟩
    ·rw [hf] at hg; cases hg
    have hrunT := runT_crowd_go (P := P) (sl := sl') (i := i) hi (by rw [show (i == 0) = false by simp; omega]; exact hstp (w.at d))
    have hsz : ((gs.map (woken P g g' (w.at d))).setIfInBounds i g').size = gs.size := by simp
    have hsum : sumTo gs.size (Go.ConcN.upd q i k) + (k + 1) = sumTo gs.size q + k := by
     have := Go.ConcN.sumTo_upd q k id hlt
     simpa [hqi] using this
    have hdo : ∀ {x}, x ≠ i → Deaf (t ++ MemOp.ofEvents i g.frame.fn g.frame.place es) x = Deaf t x := fun hx => Deaf_other t (Ne.symm hx) _ ofEvents_g
    have hL' : Leavers P (t ++ MemOp.ofEvents i g.frame.fn g.frame.place es) ((gs.map (woken P g g' (w.at d))).setIfInBounds i g') (Go.ConcN.upd q i k) := by
     refine ⟨fun j x hj hx => ?_, fun j hj => ?_⟩
     ·by_cases hji : j = i
      ·subst hji
       rw [Array.getElem?_setIfInBounds_self_of_lt (by simpa using hlt)] at hx
       injection hx with hx; subst hx
       rw [Go.ConcN.upd_same, Deaf_own]; exact hq'
      ·rw [Array.getElem?_setIfInBounds_ne (fun e => hji e.symm), Array.getElem?_map] at hx
       obtain ⟨y, hy, rfl⟩ := Option.map_eq_some_iff.1 hx
       have hqj := hL.old j y hj hy
       rw [woken_quitsD hqj, Go.ConcN.upd_ne _ _ hji, hdo hji]
       exact hqj
     ·rw [hdo (by simp at hj; omega)]
      exact hL.above j (by simpa using hj)
    have h' : OutM P Sb fr cs v ((gs.map (woken P g g' (w.at d))).setIfInBounds i g') (w.at d) (t ++ MemOp.ofEvents i g.frame.fn g.frame.place es) := by
     refine ⟨?_, h.view.at d, ⟨_, hL'⟩, h.past.mute (by omega) hm, h.sb, h.sbl, h.kz, fun op hop a => ?_, fun op hop => ?_, fun op hop x hx hk => ?_⟩
     ·rw [Array.getElem?_setIfInBounds_ne (by omega), Array.getElem?_map, h.a]
      rw [Option.map_some, zcM (.inl rfl)]
     ·rcases Array.mem_append.1 hop with hop | hop
      ·exact h.norel op hop a
      ·obtain ⟨e, he, rfl⟩ := memOps hop
       exact (z4V (Wg := 0) (hm e he)).2.2 a
     ·rw [hsz]
      rcases Array.mem_append.1 hop with hop | hop
      ·exact h.gs op hop
      ·rw [ofEvents_g op hop]; exact hlt
     ·rcases Array.mem_append.1 hop with hop | hop
      ·exact h.said op hop x hx hk
      ·obtain ⟨e, he, rfl⟩ := memOps hop
       rw [(z4V (Wg := 0) (hm e he)).2.1] at hx; cases hx
    obtain ⟨N, gs'', w'', sl'', t'', d2, sl2, k1, k2, k3⟩ := ih (sl' := sl') (by rw [hsz]; omega) hL' h'
    exact ⟨N + 1, gs'', w'', sl'', t'', d2, sl2, by rw [runNT_succ_next (hst.trans hrunT)]; exact k1, k2, k3⟩
theorem OutM.own (h : OutM P Sb fr cs v gs w t) {fr' : Frame} {cs' : List Frame} {v' w' : World} {es : Array Event} (hgo : stepG P true (G fr cs) w = .go (G fr' cs') w' es) (hv : View v' w') (k : Turn v v' w w' es) :
  ∃ gs' t', runT P (crowd gs w sl) 0 = (.next (crowd gs' w' sl), t') ∧ OutM P Sb fr' cs' v' gs' w' (t ++ t') := by
 obtain ⟨q, hL⟩ := h.lv
 have hrun := runT_crowd_go (P := P) (sl := sl) (i := 0) h.a (by simpa using hgo)
 have hgs0 : 0 < gs.size := (Array.getElem?_eq_some_iff.1 h.a).1
 have hdo : ∀ {x}, x ≠ 0 → Deaf (t ++ MemOp.ofEvents 0 (G fr cs).frame.fn (G fr cs).frame.place es) x = Deaf t x := fun hx => Deaf_other t (Ne.symm hx) _ ofEvents_g
 refine ⟨_, _, hrun, ?_, hv, ⟨q, fun j x hj hx => ?_, fun j hj => ?_⟩, (h.past.mono k.size).own fun e he => ?_, fun b hr hs => ?_, fun b hb => Nat.lt_of_lt_of_le (h.sbl b hb) k.size, fun b o hb => ⟨(k.keep b (Array.getElem?_eq_some_iff.1 (h.kz b o hb).1).1 (h.kz b o hb).2).trans (h.kz b o hb).1, fun hm => (k.mine b hm).elim (h.kz b o hb).2 fun hl => by have := (Array.getElem?_eq_some_iff.1 (h.kz b o hb).1).1; omega⟩, fun op hop a => ?_, fun op hop => ?_, fun op hop x hx hk => ?_⟩
 ·rw [Array.getElem?_setIfInBounds_self_of_lt (by simpa using hgs0)]
 ·rw [Array.getElem?_setIfInBounds_ne (by omega), Array.getElem?_map] at hx
  obtain ⟨y, hy, rfl⟩ := Option.map_eq_some_iff.1 hx
  have hqj := hL.old j y hj hy
  rw [woken_quitsD hqj, hdo (by omega)]
  exact hqj
 ·rw [hdo (by simp at hj; omega)]
  exact hL.above j (by simpa using hj)
 ·refine ⟨fun x hx hs => ?_, (z3O k e he).1, (z3O k e he).2, ?_⟩
  ·obtain ⟨b, hb, hsb⟩ := hs
   obtain ⟨_, h1, _⟩ := z2K (k.evs e he) hx hb
   rcases h1 with h1 | h1
   ·have := h.sbl b hsb; omega
   ·exact absurd hsb (h.sb b h1)
  ·have := z9T (g := 0) (fn := default) (pos := "") k h.view h.past.seen { g := 0, fn := default, pos := "", act := .ofEvent e } (Array.mem_append.2 (.inr (by rw [Go.Conc.ofEvents_eq]; exact Array.mem_map.2 ⟨e, he, rfl⟩)))
   exact this
 ·rcases k.read b hr with h1 | h1
  ·exact h.sb b h1 hs
  ·have := h.sbl b hs; omega
 ·rcases Array.mem_append.1 hop with hop | hop
  ·exact h.norel op hop a
  ·exact z4U k op hop a
 ·rw [show ((gs.map (woken P (G fr cs) (G fr' cs') w')).setIfInBounds 0 (G fr' cs')).size = gs.size by simp]
  rcases Array.mem_append.1 hop with hop | hop
  ·exact h.gs op hop
  ·rw [ofEvents_g op hop]; exact hgs0
 ·rcases Array.mem_append.1 hop with hop | hop
  ·exact h.said op hop x hx hk
  ·exact absurd hk (z98 k op hop x hx)
theorem z4W {gs : Array Goroutine} {t : Trace} {q : Nat → Nat} (hL : Leavers P t gs q) (c : Nat) (b : Bool) : partners (gs.setIfInBounds 0 ph) c b = [] := by
 refine partners_nil fun j g hj => ?_
 rcases getElem?_stand gs 0 j g hj with ⟨_, rfl⟩ | ⟨h0, hg⟩
 ·exact offersAt_ph _ _
 ·exact offersAt_of_not_blocked (by rcases (hL.old j g (by omega) hg).status with h | h <;> rw [h] <;> simp) _ _
theorem OutM.zcN (h : OutM P Sb fr cs v gs w t) {fr' : Frame} {v' w' : World} {ops : Trace} (hg : ∀ op ∈ ops, op.g = 0) (hnt : ∀ op ∈ ops, op.act.touch? = none) (hst : ∀ op ∈ ops, op.act ≠ .mark .disable ∧ op.act ≠ .mark .enable)
  (hnr : ∀ op ∈ ops, ∀ a, op.act ≠ .mark (.release a)) (hlow : ∀ op ∈ ops, op.act.low w.heap.size) (hsz : w'.heap.size = w.heap.size) (hv : View v' w') (hr : ∀ b, ReadAt v' b → ReadAt v b) (hm : ∀ b, MineAt v' b → MineAt v b)
  (hkeep : ∀ b, ¬ MineAt v b → w'.heap[b]? = w.heap[b]?) : OutM P Sb fr' cs v' (gs.setIfInBounds 0 (G fr' cs)) w' (t ++ ops) := by
 obtain ⟨q, hL⟩ := h.lv
 have hgs0 : 0 < gs.size := (Array.getElem?_eq_some_iff.1 h.a).1
 have hdo : ∀ x, Deaf (t ++ ops) x = Deaf t x := fun x => Go.ConcN.Deaf_still t x ops hst
 refine ⟨?_, hv, ⟨q, fun j x hj hx => ?_, fun j hj => ?_⟩, ?_, fun b hb => h.sb b (hr b hb), fun b hb => by rw [hsz]; exact h.sbl b hb, fun b o hk => ⟨(hkeep b (h.kz b o hk).2).trans (h.kz b o hk).1, fun hx => (h.kz b o hk).2 (hm b hx)⟩, fun op hop a => ?_, fun op hop => ?_, fun op hop x hx hk => ?_⟩
 ·rw [Array.getElem?_setIfInBounds_self_of_lt hgs0]
 ·rw [Array.getElem?_setIfInBounds_ne (by omega)] at hx
  rw [hdo]; exact hL.old j x hj hx
 ·rw [hdo]; exact hL.above j (by simpa using hj)
 ·rw [hsz]
  exact h.past.app0 hg (fun op hop b hb => by rw [hnt op hop] at hb; cases hb) (hdo 0) hlow
 ·rcases Array.mem_append.1 hop with hop | hop
  ·exact h.norel op hop a
  ·exact hnr op hop a
 ·rw [show (gs.setIfInBounds 0 (G fr' cs)).size = gs.size by simp]
  rcases Array.mem_append.1 hop with hop | hop
  ·exact h.gs op hop
  ·rw [hg op hop]; exact hgs0
 ·rcases Array.mem_append.1 hop with hop | hop
  ·exact h.said op hop x hx hk
  ·rw [hnt op hop] at hx; cases hx
theorem OutM.recv (h : OutM P Sb fr cs v gs w t) {Post : Sta → Prop} (hr : recvP P fr cs v Post) :
  ∃ fr' v' gs' w' t', runT P (crowd gs w sl) 0 = (.next (crowd gs' w' sl), t') ∧ OutM P Sb fr' cs v' gs' w' (t ++ t') ∧ Post (fr', cs, v') := by
 obtain ⟨c, cap, buf, cl, sn, rc, tm, z, ok, hgo, hc, hcase⟩ := hr
 obtain ⟨q, hL⟩ := h.lv
 have hmo : MineO (.chan cap buf cl sn rc tm) := ⟨by unfold junk; simp, by simp⟩
 have hmi : MineAt v c := ⟨_, hc, hmo⟩
 have hcl : c < w.heap.size := Nat.lt_of_lt_of_le hmi.read.lt h.view.size
 have hwc : w.heap[c]? = some (.chan cap buf cl sn rc tm) := by
  have := h.view.alike c _ w.heap[c] hc (by simp [hcl])
  rw [← z1F this hmo]; simp [hcl]
 have hp := z4W hL c true
 have small : ∀ {x y : MemAct}, (x = .recv c rc cap ∨ x = .recvDone c rc ∨ x = .recvClosed c) → x.touch? = none ∧ (x ≠ .mark .disable ∧ x ≠ .mark .enable) ∧ (∀ a, x ≠ .mark (.release a)) ∧ x.low w.heap.size := by
  intro x y hx
  rcases hx with rfl | rfl | rfl <;> exact ⟨rfl, ⟨by simp, by simp⟩, by simp, hcl⟩
 rcases hcase with ⟨hsome, hpost⟩ | ⟨rfl, rfl, hpost⟩
 ·have hrun := crowd_recv_buf (P := P) (sl := sl) h.a (by simpa using hgo w) hwc hsome hp
  rw [finishComm_recv, Go.Conc.ofEvents_eq] at hrun
  simp only [Array.map_empty, Array.empty_append] at hrun
  refine ⟨_, _, _, _, _, hrun, ?_, hpost⟩
  have hall : ∀ op ∈ (#[({ g := 0, fn := (G fr cs).frame.fn, pos := (G fr cs).frame.place, act := .recv c rc cap } : MemOp), { g := 0, fn := (G fr cs).frame.fn, pos := (G fr cs).frame.place, act := .recvDone c rc }] : Trace), op.g = 0 ∧ (op.act = .recv c rc cap ∨ op.act = .recvDone c rc ∨ op.act = .recvClosed c) := by
   intro op hop
   simp only [List.mem_toArray, List.mem_cons, List.not_mem_nil, or_false] at hop
   rcases hop with rfl | rfl
   ·exact ⟨rfl, .inl rfl⟩
   ·exact ⟨rfl, .inr (.inl rfl)⟩
  have heapw : (w.setChan c cap (buf.extract 1 buf.size) cl sn (rc + 1) tm).heap = w.heap.setIfInBounds c (.chan cap (buf.extract 1 buf.size) cl sn (rc + 1) tm) := rfl
  have heapv : (chanW v c cap (buf.extract 1 buf.size) cl sn (rc + 1) tm).heap = v.heap.setIfInBounds c (.chan cap (buf.extract 1 buf.size) cl sn (rc + 1) tm) := rfl
  have hcv : c < v.heap.size := hmi.read.lt
  have hvg : ∀ b, (chanW v c cap (buf.extract 1 buf.size) cl sn (rc + 1) tm).heap[b]? = if b = c then some (.chan cap (buf.extract 1 buf.size) cl sn (rc + 1) tm) else v.heap[b]? := fun b => by
   rw [heapv]
   split
   ·rename_i e; subst e; rw [Array.getElem?_setIfInBounds_self_of_lt hcv]
   ·rename_i e; rw [Array.getElem?_setIfInBounds_ne (fun e' => e e'.symm)]
  refine h.zcN (fun op hop => (hall op hop).1) (fun op hop => (small (y := .start) (hall op hop).2).1) (fun op hop => (small (y := .start) (hall op hop).2).2.1) (fun op hop => (small (y := .start) (hall op hop).2).2.2.1) (fun op hop => (small (y := .start) (hall op hop).2).2.2.2)
   (by rw [heapw]; simp) ?_ (fun b ⟨o, h1, h2⟩ => ?_) (fun b ⟨o, h1, h2⟩ => ?_) (fun b hb => ?_)
  ·refine ⟨by rw [heapw, heapv]; simpa using h.view.size, fun b o O ho hO => ?_, h.view.os, h.view.tape, h.view.output, fun b o ho => ?_⟩
   ·rw [hvg] at ho
    split at ho
    ·rename_i e; subst e
     injection ho with ho; subst ho
     rw [heapw, Array.getElem?_setIfInBounds_self_of_lt hcl] at hO
     injection hO with hO; subst hO
     exact .same _
    ·rename_i e
     rw [heapw, Array.getElem?_setIfInBounds_ne (fun e' => e e'.symm)] at hO
     exact h.view.alike b o O ho hO
   ·rw [hvg] at ho
    split at ho
    ·injection ho with ho; subst ho; trivial
    ·exact h.view.views b o ho
  ·rw [hvg] at h1
   split at h1
   ·rename_i e; rw [e]; exact hmi.read
   ·exact ⟨o, h1, h2⟩
  ·rw [hvg] at h1
   split at h1
   ·rename_i e; rw [e]; exact hmi
   ·exact ⟨o, h1, h2⟩
  ·rw [heapw, Array.getElem?_setIfInBounds_ne (fun e => hb (by rw [← e]; exact hmi))]
 ·have hrun := crowd_recv_closed (P := P) (sl := sl) h.a (by simpa using hgo w) hwc hp
  rw [finishComm_recv, Go.Conc.ofEvents_eq] at hrun
  simp only [Array.map_empty, Array.empty_append] at hrun
  refine ⟨_, _, _, _, _, hrun, ?_, hpost⟩
  have hall : ∀ op ∈ (#[({ g := 0, fn := (G fr cs).frame.fn, pos := (G fr cs).frame.place, act := .recvClosed c } : MemOp)] : Trace), op.g = 0 ∧ (op.act = .recv c rc cap ∨ op.act = .recvDone c rc ∨ op.act = .recvClosed c) := by
   intro op hop
   simp only [List.mem_toArray, List.mem_cons, List.not_mem_nil, or_false] at hop
   subst hop
   exact ⟨rfl, .inr (.inr rfl)⟩
  exact h.zcN (fun op hop => (hall op hop).1) (fun op hop => (small (y := .start) (hall op hop).2).1) (fun op hop => (small (y := .start) (hall op hop).2).2.1) (fun op hop => (small (y := .start) (hall op hop).2).2.2.1) (fun op hop => (small (y := .start) (hall op hop).2).2.2.2)
   rfl h.view (fun _ x => x) (fun _ x => x) (fun _ _ => rfl)
theorem runNT_then {N M : Nat} {m m1 m2 : Machine} {t t1 t2 : Trace} (h1 : runNT P N m t = (.next m1, t1)) (h2 : runNT P M m1 t1 = (.next m2, t2)) : runNT P (N + M) m t = (.next m2, t2) := by
 rw [runNT_add, h1]; exact h2
theorem zbx {Stop : Sta → Prop} : ∀ (τ : Tre) {Sb : Nat → Prop} {fr : Frame} {cs : List Frame} {v : World} {gs : Array Goroutine} {w : World} {t : Trace} {sl : Option (Nat × Nat)}, OutM P Sb fr cs v gs w t → WinT P true (leapP ty) Stop τ (fr, cs, v) →
  ∃ (N : Nat) (Sb' : Nat → Prop) (fr' : Frame) (cs' : List Frame) (v' : World) (gs' : Array Goroutine) (w' : World) (sl' : Option (Nat × Nat)) (t' : Trace), runNT P N (crowd gs w sl) t = (.next (crowd gs' w' sl'), t') ∧ OutM P Sb' fr' cs' v' gs' w' t' ∧ Stop (fr', cs', v') := by
 intro τ
 induction τ with
 | leaf => intro Sb fr cs v gs w t sl h hw; exact ⟨0, Sb, fr, cs, v, gs, w, sl, t, rfl, h, hw⟩
 | node f ih =>
  intro Sb fr cs v gs w t sl h hw
  obtain ⟨q, hL⟩ := h.lv
  rcases hw with ⟨fr', cs', hm, hk⟩ | hk
  ·obtain ⟨N, gs1, w1, sl1, t1, d, sl2, k1, k2, k3⟩ := OutM.pick _ (Nat.le_refl _) hL h (sl := sl)
   obtain ⟨gs2, t2, r1, r2⟩ := (k2.at d).own (sl := sl2) (hm (w1.at d)) (k2.view.at d) (Turn.mute _ _)
   obtain ⟨M, Sb', fr2, cs2, v2, gs3, w3, sl3, t3, e1, e2, e3⟩ := ih _ _ r2 hk (sl := sl2)
   exact ⟨N + (M + 1), Sb', fr2, cs2, v2, gs3, w3, sl3, t3, runNT_then k1 (by rw [runNT_succ_next (k3.trans r1)]; exact e1), e2, e3⟩
  ·-- what comes depends on the world as goroutine 0 is picked
   obtain ⟨N, gs1, w1, sl1, t1, d, sl2, k1, k2, k3⟩ := OutM.pick _ (Nat.le_refl _) hL h (sl := sl)
   rcases hk (fill v (w1.at d)) with ⟨fr', cs', v', hG, hk⟩ | ⟨Post, hlp, _, hk⟩
   ·obtain ⟨w', es, h1, h2, h3⟩ := z6x hG (k2.view.at d)
    obtain ⟨gs2, t2, r1, r2⟩ := (k2.at d).own (sl := sl2) h1 h2 h3
    obtain ⟨M, Sb', fr2, cs2, v2, gs3, w3, sl3, t3, e1, e2, e3⟩ := ih _ _ r2 hk (sl := sl2)
    exact ⟨N + (M + 1), Sb', fr2, cs2, v2, gs3, w3, sl3, t3, runNT_then k1 (by rw [runNT_succ_next (k3.trans r1)]; exact e1), e2, e3⟩
   ·-- a phase
    have kp : OutM P Sb fr cs (padW v (fill v (w1.at d))) gs1 (w1.at d) t1 := by
     have k2' := k2.at d
     have hrel := k2'.view.rel
     refine ⟨k2'.a, ⟨Nat.le_of_eq hrel.size.symm, hrel.alike, hrel.os, hrel.tape, hrel.output, z5i k2'.view.views _⟩, k2'.lv, k2'.past, fun b hr => k2'.sb b (z6v.1 hr), k2'.sbl, fun b o hb => ⟨(k2'.kz b o hb).1, fun hm => (k2'.kz b o hb).2 (z3B.1 hm)⟩, k2'.norel, k2'.gs, k2'.said⟩
    rcases hlp with ⟨Wg, Fz, v1, τ1, hb, hp⟩ | hrc
    rotate_left
    ·obtain ⟨fr', v', gs2, w', t2, r1, r2, hpost⟩ := kp.recv (sl := sl2) hrc
     obtain ⟨M, Sb', fr2, cs2, v2, gs3, w3, sl3, t3, e1, e2, e3⟩ := ih _ _ r2 (hk _ hpost) (sl := sl2)
     exact ⟨N + (M + 1), Sb', fr2, cs2, v2, gs3, w3, sl3, t3, runNT_then k1 (by rw [runNT_succ_next (k3.trans r1)]; exact e1), e2, e3⟩
    have k0 : OutM P Sb fr cs (padW v (fill v (w1.at d))) gs1 w1 t1 := kp.at w1.drawn
    obtain ⟨M, m2, t2, r1, r2⟩ := zbw _ _ _ (k0.begin (sl := sl1) hb hp)
    obtain ⟨gs2, w2, sl3, fr2, cs2, v2, q2, rfl, c1, c2, c3, c4, c5, c6, c7, c8, c9, c10, c11, c12⟩ := r2
    have ko : OutM P (fun b => Sb b ∨ b = Wg) fr2 cs2 v2 gs2 w2 t2 :=
     ⟨c1, c3, ⟨q2, c4⟩, zaO c5 fun l hl => hl.elim (fun ⟨b, x1, x2⟩ => ⟨b, x1, .inl x2⟩) (fun x => ⟨Wg, x, .inr rfl⟩), fun b hr hs => hs.elim (c6 b hr).1 (c6 b hr).2, fun b hs => hs.elim (c7 b) (fun e => e ▸ c8), c12, c9, c10, c11⟩
    obtain ⟨L, Sb', fr3, cs3, v3, gs3, w3, sl4, t3, e1, e2, e3⟩ := ih _ _ ko (hk _ c2) (sl := sl3)
    exact ⟨N + (M + L), Sb', fr3, cs3, v3, gs3, w3, sl4, t3, runNT_then k1 (runNT_then r1 e1), e2, e3⟩
end
end Go.Eng
namespace Go.Eng
open Go Go.RowKit
open Go.Conc
open Go.ConcN (sumTo)
noncomputable def V0 (w : World) : World :=
 open Classical in { w with heap := w.heap.map fun o => if NotView o then o else junk }
theorem V0.get (w : World) (b : Nat) : (V0 w).heap[b]? = (open Classical in w.heap[b]?.map fun o => if NotView o then o else junk) := by
 unfold V0; simp
theorem V0.view (w : World) : View (V0 w) w := by
 classical
 refine ⟨by unfold V0; simp, fun b o O ho hO => ?_, rfl, rfl, rfl, fun b o ho => ?_⟩
 ·rw [V0.get, hO] at ho
  simp only [Option.map_some, Option.some.injEq] at ho
  subst ho
  split
  ·exact .same _
  ·exact .junk _
 ·rw [V0.get] at ho
  obtain ⟨o', h1, rfl⟩ := Option.map_eq_some_iff.1 ho
  split
  ·assumption
  ·exact trivial
@[reducible] noncomputable def keep0 (w : World) : Keep :=
 open Classical in ⟨fun b => if b < w.heap.size ∧ ¬ MineAt (V0 w) b then w.heap[b]? else none⟩
def Ends (P : Program) (Q : Value → World → Prop) (s : Sta) : Prop :=
 ∃ x : Value, (∀ w, stepG P true (G s.1 s.2.1) w = .ended (.done x) w) ∧ Q x s.2.2
def Came (Q : Value → World → Prop) (W : World) (x : Value) (w' : World) : Prop :=
 ∃ v, Q x v ∧ View v w' ∧ ∀ b, b < W.heap.size → ¬ MineAt (V0 W) b → w'.heap[b]? = W.heap[b]?
variable {P : Program} {ty : TypeId}
theorem z9a {Q : Value → World → Prop} {fr : Frame} {W : World} (h : Win P true (leapP ty) (Ends P Q) (fr, [], V0 W)) :
  ∃ M last o w' t', runNT P (M + 1) (solo (G fr []) W) #[] = (.ended o w', t') ∧ runN P M (solo (G fr []) W) = .next last ∧ step P last = .ended o w' ∧ Conc.Good P (Came Q W) last o w' t' := by
 classical
 obtain ⟨τ, hτ⟩ := h
 letI : Keep := keep0 W
 have out : OutM P (fun _ => False) fr [] (V0 W) #[G fr []] W #[] := by
  refine ⟨rfl, V0.view W, ⟨_, leavers_one P _⟩, zaO (past_nil.mono (Nat.zero_le _)) (fun _ hf => hf.elim), fun b hr hs => hs, fun b hs => hs.elim, fun b o hk => ?_, by simp, by simp, by simp⟩
  have hk' : (if b < W.heap.size ∧ ¬ MineAt (V0 W) b then W.heap[b]? else none) = some o := hk
  split at hk'
  ·rename_i hc; exact ⟨hk', hc.2⟩
  ·cases hk'
 obtain ⟨N, Sb', fr', cs', v', gs', w', sl', t', r1, r2, x, he, hq⟩ := zbx τ out hτ (sl := none)
 obtain ⟨q, hL⟩ := r2.lv
 have hcame : ∀ w₁, AtRel w' w₁ → Came Q W x w₁ := by
  rintro w₁ ⟨d, rfl⟩
  refine ⟨v', hq, r2.view.at d, fun b hb hn => ?_⟩
  ·have hs : W.heap[b]? = some W.heap[b] := by simp [hb]
   have : (keep0 W).kz b = some W.heap[b] := by
    show (if b < W.heap.size ∧ ¬ MineAt (V0 W) b then W.heap[b]? else none) = _
    rw [if_pos ⟨hb, hn⟩, hs]
   rw [hs]; exact (r2.kz b _ this).1
 have hG : Goes P true AtRel (fun _ _ es => ∀ e ∈ es, EvL (fun l => ∃ b, locB l = some b ∧ Sb' b) w'.heap.size e) (AtEnd P (fun l => ∃ b, locB l = some b ∧ Sb' b) w'.heap.size (Came Q W)) 0 (G fr' cs') w' := by
  intro w₁ hw
  exact ⟨rfl, x, #[], he w₁, by simp, hcame w₁ hw⟩
 obtain ⟨M, last, o, w2, t2, e1, e2, e3, e4⟩ := beside_ends (sl := sl') (fun _ _ _ h => h) r2.a hL r2.past hG
 refine ⟨N + M, last, o, w2, t2, ?_, ?_, e3, e4⟩
 ·rw [solo_eq_crowd, Nat.add_assoc, runNT_add, r1]; exact e1
 ·have := runNT_fst P N (crowd #[G fr []] W none) #[]
  rw [r1] at this
  rw [solo_eq_crowd, runN_add, ← this]; exact e2
theorem Came.below {Q : Value → World → Prop} {W : World} {x : Value} {w' : World} (h : Came Q W x w') (hb : ∀ x v, Q x v → Below W.heap.size (V0 W) v) : Below W.heap.size W w' := by
 obtain ⟨v, hq, hv, hk⟩ := h
 have b := hb x v hq
 have hs0 : (V0 W).heap.size = W.heap.size := by unfold V0; simp
 refine ⟨hv.os.trans b.os, hv.tape.trans b.tape, hv.output.trans b.output, ?_, fun k hkl => ?_⟩
 ·have h1 := b.size
  have h2 := hv.size
  omega
 ·by_cases hr : MineAt (V0 W) k
  ·obtain ⟨o, ho, hro⟩ := hr
   have hl : k < w'.heap.size := by
    have h1 := b.size
    have h2 := hv.size
    omega
   have e1 := b.block k hkl
   rw [ho] at e1
   have e2 := z1F (hv.alike k o w'.heap[k] e1 (by simp [hl])) hro
   have e3 := z1F ((V0.view W).alike k o W.heap[k] ho (by simp [hkl])) hro
   rw [Array.getElem?_eq_getElem hl, Array.getElem?_eq_getElem hkl, e2, e3]
  ·exact hk k hkl hr
end Go.Eng
