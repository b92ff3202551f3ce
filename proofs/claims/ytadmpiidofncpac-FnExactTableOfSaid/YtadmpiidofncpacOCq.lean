/- Part of the evaluator, in company. -/
import Derived.Test.YtadmpiidofncpacOCj
import Derived.Test.YtadmpiidofncpacOCo
import Derived.Test.YtadmpiidofncpacOCl
set_option linter.unusedSectionVars false
set_option linter.unusedSimpArgs false
set_option linter.unusedVariables false
namespace Go.Eng
open Go Go.RowKit
open Go.Conc (G)
noncomputable section
structure DS where
 k : List Item
 T : Nat
 H : Trie
 n : Nat
inductive DR1 where
 | run (s : DS)
 | stop (s : DS)
 | bad (q : Nat)
def setO (nt T : Nat) (dst : Option Tmp) (v : Nat) (g : Nat → DR1) : DR1 :=
 match dst with
 | none => g T
 | some d => sel (ltb d nt) (sel (ltb v 340282366920938463463374607431768211456) (g (setW T d v)) (.bad 203)) (.bad 203)
def dstep (P : Program) (call : Nat → List Nat → Trie → Nat → OR) (sp : Op → Bool) (nt : Nat) (s : DS) : DR1 :=
 match s.k with
 | [] => .stop s
 | .code c :: k => (match c with
  | .skip => .run ⟨k, s.T, s.H, s.n⟩
  | .seq a b => .run ⟨.code a :: .code b :: k, s.T, s.H, s.n⟩
  | .cond q a b => sel (Nat.beq (ev s.T q) 18) (.run ⟨.code a :: k, s.T, s.H, s.n⟩) (sel (Nat.beq (ev s.T q) 2) (.run ⟨.code b :: k, s.T, s.H, s.n⟩) (.bad 200))
  | .block id b => .run ⟨.code b :: .inBlock id :: k, s.T, s.H, s.n⟩
  | .loop b => .run ⟨.code b :: .inLoop b :: k, s.T, s.H, s.n⟩
  | .exit id => (match exitTo id k with | some k' => .run ⟨k', s.T, s.H, s.n⟩ | none => .bad 201)
  | .region _ ops false => .run ⟨.inRegion ops (List.range ops.size) :: k, s.T, s.H, s.n⟩
  | .ret => .stop s
  | _ => .bad 202)
 | .inBlock _ :: k => .run ⟨k, s.T, s.H, s.n⟩
 | .inLoop b :: k => .run ⟨.code b :: .inLoop b :: k, s.T, s.H, s.n⟩
 | .inRegion ops [] :: k => .run ⟨k, s.T, s.H, s.n⟩
 | .inRegion ops (i :: rest) :: k => (match ops[i]? with
  | some o => sel (wantedE ops s.T o)
    (sel (sp o.op) (.stop s) (match opE P call s.T s.H s.n o.op with | .ok v H' n' => setO nt s.T o.dst v fun T' => .run ⟨.inRegion ops rest :: k, T', H', n'⟩ | .bad q => .bad q))
    (setO nt s.T o.dst 0 fun T' => .run ⟨.inRegion ops rest :: k, T', s.H, s.n⟩)
  | none => .bad 204)
 | _ => .bad 205
def drive (P : Program) (call : Nat → List Nat → Trie → Nat → OR) (sp : Op → Bool) (nt fuel : Nat) : DS → DR1 :=
 Nat.rec (motive := fun _ => DS → DR1) (fun _ => .bad 206) (fun _ ih s => match dstep P call sp nt s with | .run s' => ih s' | .stop _ => .stop s | .bad q => .bad q) fuel
end
variable [E : Env] [Pd : Pad]
section
variable {base nt : Nat} {P : Program} {call : Nat → List Nat → Trie → Nat → OR} {sp : Op → Bool}
structure Went (P : Program) (base nt n : Nat) (ρ : Rho) (L : Look) (w : World) (M : Sta) (f : FFix) (ds : List Deferred) (cs : List Frame) (s : DS) : Prop where
 ex : ∃ ρ' L' w' tmps', Ctx base s.H s.n ρ' L' w' ∧ TR ρ' L' nt s.T tmps' ∧ Ext ρ L ρ' L' ∧ Below base w w' ∧ Loc s.H n ρ L ρ' L' ∧ n ≤ s.n ∧ Steps P M (lone (mkF f tmps' ds s.k) cs w')
theorem z7u {T v : Nat} {ρ : Rho} {L : Look} {tmps : Array Value} {dst : Option Tmp} {g : Nat → DR1} {r : DR1} {x : Value} (ht : TR ρ L nt T tmps) (hx : VR ρ L v x) (h : setO nt T dst v g = r) (hr : ∀ q, r ≠ .bad q) :
  ∃ T', g T' = r ∧ TR ρ L nt T' (putT tmps dst x) := by
 unfold setO at h
 cases dst with
 | none => exact ⟨T, h, ht⟩
 | some d =>
  simp only at h
  rw [zJ] at h
  split at h
  ·rename_i hd
   rw [zJ] at h
   split at h
   ·rename_i hv
    exact ⟨_, h, ht.set hd hv hx⟩
   ·exact absurd h.symm (hr _)
  ·exact absurd h.symm (hr _)
theorem z9W (hcall : CallB P call) (f : FFix) (ds : List Deferred) (cs : List Frame) {s s' : DS} {tmps : Array Value} {ρ : Rho} {L : Look} {w : World} (h : dstep P call sp nt s = .run s') (c : Ctx base s.H s.n ρ L w) (ht : TR ρ L nt s.T tmps) :
  Went P base nt s.n ρ L w (lone (mkF f tmps ds s.k) cs w) f ds cs s' := by
 obtain ⟨k, T, H, n⟩ := s
 have mute : ∀ {k' : List Item}, DR1.run ⟨k', T, H, n⟩ = .run s' → Steps P (lone (mkF f tmps ds k) cs w) (lone (mkF f tmps ds k') cs w) → Went P base nt n ρ L w (lone (mkF f tmps ds k) cs w) f ds cs s' := by
  intro k' e hst
  injection e with e
  subst e
  exact ⟨ρ, L, w, tmps, c, ht, .refl _ _, Below.refl _ _, .refl _ _ _ _, Nat.le_refl _, hst⟩
 unfold dstep at h
 simp only at h
 split at h
 ·cases h
 ·split at h
  ·exact mute h zcq
  ·exact mute h zcr
  ·rename_i q a b
   rw [z8, z8] at h
   split at h
   ·rename_i hq
    have hv := zC ht q (by rw [hq]; decide)
    rw [hq] at hv
    exact mute h (z81 hv.z3F)
   ·split at h
    ·rename_i hq
     have hv := zC ht q (by rw [hq]; decide)
     rw [hq] at hv
     exact mute h (z81 hv.z2O)
    ·cases h
  ·exact mute h z5D
  ·exact mute h zcs
  ·split at h
   ·rename_i he
    exact mute h (zct he)
   ·cases h
  ·exact mute h z8Q
  ·cases h
  ·cases h
 ·exact mute h z7l
 ·exact mute h z8P
 ·exact mute h z3z
 ·rename_i ops i rest k1
  split at h
  ·rename_i o ho
   rw [z0q ht o] at h
   cases hw : Region.wanted o (yielded ops tmps) with
   | true =>
    rw [hw, z0b, zf] at h
    split at h
    ·cases h
    ·split at h
     ·rename_i v H1 n1 hop
      obtain ⟨ρ1, L1, w1, x, c1, e1, b1, l1, hn1, hv, hdo⟩ := z6f (cfr := mkF f tmps ds (.inRegion ops (i :: rest) :: k1)) (ccs := cs) (c.padded _ _) ht hcall.s hop
      obtain ⟨T1, h1, ht1⟩ := z7u (ht.mono e1) hv h (by simp)
      injection h1 with h1
      subst h1
      exact ⟨ρ1, L1, w1, _, c1, ht1, e1, (z0l c _ _).trans b1, l1.any, hn1, z8R ho hw (z1H (o := o) hop) (z5B (c.padded _ _) ht hcall.t hop) hdo⟩
     ·cases h
   | false =>
    rw [hw, z0f] at h
    obtain ⟨T1, h1, ht1⟩ := z7u (x := Go.undef) ht .undef h (by simp)
    injection h1 with h1
    subst h1
    exact ⟨ρ, L, w, _, c, ht1, .refl _ _, Below.refl _ _, .refl _ _ _ _, Nat.le_refl _, z6j ho hw⟩
  ·cases h
 ·cases h
theorem Went.trans {n : Nat} {ρ : Rho} {L : Look} {w : World} {M : Sta} {f : FFix} {ds : List Deferred} {cs : List Frame} {s s' : DS} (h : Went P base nt n ρ L w M f ds cs s)
  (k : ∀ ρ' L' w' tmps', Ctx base s.H s.n ρ' L' w' → TR ρ' L' nt s.T tmps' → Went P base nt s.n ρ' L' w' (lone (mkF f tmps' ds s.k) cs w') f ds cs s') : Went P base nt n ρ L w M f ds cs s' := by
 obtain ⟨ρ1, L1, w1, t1, c1, ht1, e1, b1, l1, n1, h1⟩ := h.ex
 obtain ⟨ρ2, L2, w2, t2, c2, ht2, e2, b2, l2, n2, h2⟩ := (k ρ1 L1 w1 t1 c1 ht1).ex
 exact ⟨ρ2, L2, w2, t2, c2, ht2, e1.trans e2, b1.trans b2, (l1.trans n1 l2).any, Nat.le_trans n1 n2, h1.trans h2⟩
theorem z1X (hcall : CallB P call) (f : FFix) (ds : List Deferred) (cs : List Frame) : ∀ (fuel : Nat) {s s' : DS} {tmps : Array Value} {ρ : Rho} {L : Look} {w : World}, drive P call sp nt fuel s = .stop s' → Ctx base s.H s.n ρ L w → TR ρ L nt s.T tmps →
  Went P base nt s.n ρ L w (lone (mkF f tmps ds s.k) cs w) f ds cs s'
 | 0, s, s', tmps, ρ, L, w, h, c, ht => by cases h
 | fuel + 1, s, s', tmps, ρ, L, w, h, c, ht => by
  have e : drive P call sp nt (fuel + 1) s = (match dstep P call sp nt s with | .run s' => drive P call sp nt fuel s' | .stop _ => .stop s | .bad q => .bad q) := rfl
  rw [e] at h
  split at h
  ·rename_i s1 h1
   exact (z9W hcall f ds cs h1 c ht).trans fun ρ' L' w' tmps' c' ht' => z1X hcall f ds cs fuel h c' ht'
  ·rename_i s1 h1
   injection h with h
   subst h
   exact ⟨ρ, L, w, tmps, c, ht, .refl _ _, Below.refl _ _, .refl _ _ _ _, Nat.le_refl _, Steps.refl _ _⟩
  ·cases h
end
end Go.Eng
namespace Go.Eng
open Go Go.RowKit
open Go.Conc
open Go.ConcN (WgLive)
open Go.Eng.Wg
def noLeap : Program → Frame → List Frame → World → (Sta → Prop) → Prop := fun _ _ _ _ _ => False
section
variable {P : Program} {ty : TypeId} {Wg : Nat} {Fz : Nat → Option Obj} {Post : Sta → Prop} {pend : Bool} {prs : List (Nat × Obj)} {pr : Nat × Obj}
open Classical in
theorem PhT.zcO : ∀ (τ : Tre) (s : Sta), WinT P true noLeap (fun s => ∃ τ, PhT P ty Wg Fz Post τ pend prs s) τ s → ∃ τ, PhT P ty Wg Fz Post τ pend prs s := by
 intro τ
 induction τ with
 | leaf => intro s h; exact h
 | node f ih =>
  intro s h
  rcases h with ⟨fr', cs', hm, hw⟩ | h
  ·obtain ⟨τ', h'⟩ := ih _ _ _ hw
   exact ⟨.node fun _ _ => τ', .inl ⟨fr', cs', hm, h'⟩⟩
  ·refine ⟨.node fun _ s' => if h : ∃ τ, PhT P ty Wg Fz Post τ pend prs s' then Classical.choose h else .leaf, .inr (.inl fun p => ?_)⟩
   rcases h p with ⟨fr', cs', w', hg, hw⟩ | ⟨_, hl, _⟩
   ·have hex := ih _ _ _ hw
    refine ⟨fr', cs', w', hg, ?_⟩
    simp only [dif_pos hex]
    exact Classical.choose_spec hex
   ·exact hl.elim
theorem PhT.of_steps {s : Sta} (h : ∀ Pd : Pad, Pd.main = true → Pd.leap = noLeap → ∃ s', (∃ τ, PhT P ty Wg Fz Post τ pend prs s') ∧ @Steps Pd P s s') : ∃ τ, PhT P ty Wg Fz Post τ pend prs s := by
 obtain ⟨τ, hτ⟩ := z4d (main := true) (leap := noLeap) (Stop := fun s => ∃ τ, PhT P ty Wg Fz Post τ pend prs s) h
 exact PhT.zcO τ s hτ
open Classical in
theorem WkT.zcO : ∀ (τ : Tre) (s : Sta), WinT P false noLeap (fun s => ∃ τ, WkT P ty Wg pr τ s) τ s → ∃ τ, WkT P ty Wg pr τ s := by
 intro τ
 induction τ with
 | leaf => intro s h; exact h
 | node f ih =>
  intro s h
  rcases h with ⟨fr', cs', hm, hw⟩ | h
  ·obtain ⟨τ', h'⟩ := ih _ _ _ hw
   exact ⟨.node fun _ _ => τ', .inl ⟨fr', cs', hm, h'⟩⟩
  ·refine ⟨.node fun _ s' => if h : ∃ τ, WkT P ty Wg pr τ s' then Classical.choose h else .leaf, .inr (.inl fun p => ?_)⟩
   rcases h p with ⟨fr', cs', w', hg, hw⟩ | ⟨_, hl, _⟩
   ·have hex := ih _ _ _ hw
    refine ⟨fr', cs', w', hg, ?_⟩
    simp only [dif_pos hex]
    exact Classical.choose_spec hex
   ·exact hl.elim
theorem WkT.of_steps {s : Sta} (h : ∀ Pd : Pad, Pd.main = false → Pd.leap = noLeap → ∃ s', (∃ τ, WkT P ty Wg pr τ s') ∧ @Steps Pd P s s') : ∃ τ, WkT P ty Wg pr τ s := by
 obtain ⟨τ, hτ⟩ := z4d (main := false) (leap := noLeap) (Stop := fun s => ∃ τ, WkT P ty Wg pr τ s) h
 exact WkT.zcO τ s hτ
theorem WkT.mute {fr fr' : Frame} {cs cs' : List Frame} {w : World} (h : ∀ W, stepG P false (G fr cs) W = .go (G fr' cs') W) (hw : ∃ τ, WkT P ty Wg pr τ (fr', cs', w)) : ∃ τ, WkT P ty Wg pr τ (fr, cs, w) := by
 obtain ⟨τ, hτ⟩ := hw
 exact ⟨.node fun _ _ => τ, .inl ⟨fr', cs', h, hτ⟩⟩
theorem WkT.send {fr : Frame} {cs : List Frame} {w : World} {c cap : Nat} {buf : Array Value} {sn rc : Nat} {tm : Bool} {x z : Value} (h : ∀ W, stepG P false (G fr cs) W = .comm (G fr cs) #[scase c x z] true .send W #[])
  (hc : w.heap[c]? = some (.chan cap buf false sn rc tm)) (hb : buf.size < cap) (hw : ∃ τ, WkT P ty Wg pr τ (fr.finish undef, cs, sent w c cap sn rc buf tm x)) : ∃ τ, WkT P ty Wg pr τ (fr, cs, w) := by
 obtain ⟨τ, hτ⟩ := hw
 exact ⟨.node fun _ _ => τ, .inr (.inr ⟨c, cap, buf, sn, rc, tm, x, z, h, hc, hb, hτ⟩)⟩
end
end Go.Eng
namespace Go.Eng
open Go Go.RowKit
open Go.Conc
open Go.ConcN (WgLive)
open Go.Eng.Wg
section
variable {P : Program} {f : FFix} {tmps : Array Value} {ds : List Deferred} {k : List Item} {cs : List Frame} {ops : Array Oper} {o : Oper} {i : Nat} {rest : List Nat} {main : Bool}
theorem zep (f : FFix) (tmps : Array Value) (ds : List Deferred) (todo : List Item) : (mkF f tmps ds todo).eval = evT tmps := by
 funext x; cases x <;> rfl
theorem z3C (ho : ops[i]? = some o) (hw : Region.wanted o (yielded ops tmps) = true) (hro : f.ro = none) (W : World) :
  stepG P main (G (mkF f tmps ds (.inRegion ops (i :: rest) :: k)) cs) W = stepG.apply P true (mkF f tmps ds (.inRegion ops (i :: rest) :: k)) cs none (execOp (evT tmps) o) W := by
 have he := zep f tmps ds (.inRegion ops (i :: rest) :: k)
 simp only [mkF] at he
 simp [stepG, stepG.exec, stepG.oper, Frame.oper?, mkF, G, ho, hw, hro] at he ⊢; rw [he]
theorem zcP (ho : ops[i]? = some o) (hw : Region.wanted o (yielded ops tmps) = true) (hro : f.ro = none) (hk : f.kind ≠ .early) {d : Deferred} (he : execOp (evT tmps) o = pure (.defer d)) (W : World) :
  stepG P main (G (mkF f tmps ds (.inRegion ops (i :: rest) :: k)) cs) W = .go (G (mkF f (putT tmps o.dst Go.undef) (d :: ds) (.inRegion ops rest :: k)) cs) W := by
 have hk' : (f.kind == CallKind.early) = false := by simpa using hk
 rw [z3C ho hw hro, he]
 have e1 : (pure (Next.defer d) : Sem Next).runT P W #[] = (.ok (.defer d) W, #[]) := rfl
 unfold stepG.apply
 simp only [e1]
 simp [mkF, hk', G, GStep.after, seen_none, Frame.finish, ho, putT]
 cases o.dst <;> rfl
theorem z9X (ho : ops[i]? = some o) (hw : Region.wanted o (yielded ops tmps) = true) (hro : f.ro = none) (hk : f.kind ≠ .early) {c : Nat} {x z : Value} (he : execOp (evT tmps) o = pure (.comm #[scase c x z] true .send)) (W : World) :
  stepG P main (G (mkF f tmps ds (.inRegion ops (i :: rest) :: k)) cs) W = .comm (G (mkF f tmps ds (.inRegion ops (i :: rest) :: k)) cs) #[scase c x z] true .send W #[] := by
 have hk' : (f.kind == CallKind.early) = false := by simpa using hk
 rw [z3C ho hw hro, he]
 have e1 : (pure (Next.comm #[scase c x z] true .send) : Sem Next).runT P W #[] = (.ok (.comm #[scase c x z] true .send) W, #[]) := rfl
 unfold stepG.apply
 simp only [e1]
 simp [mkF, hk', G, GStep.after, seen_none]
end
def closeD (ats : Array TypeId) (t : TypeId) (cons : Array Bool) (c : Nat) : Deferred := { target := .builtin .close ats t cons, args := #[.chan (some c)] }
section
variable {P : Program} {f : FFix} {tmps : Array Value} {ds : List Deferred} {k : List Item} {cs : List Frame} {w : World}
theorem z5j (ats : Array TypeId) (t : TypeId) (cons : Array Bool) (c : Nat) : invoke (closeD ats t cons c).target (closeD ats t cons c).args = (do pure (.value (← Builtin.close_ ats t #[.chan (some c)])) : Sem Next) := rfl
theorem z9b {ats : Array TypeId} {t : TypeId} {cons : Array Bool} {c cap sn rc : Nat} {buf : Array Value} {tm : Bool} {wp : World} (h : wp.heap[c]? = some (.chan cap buf false sn rc tm)) :
  (invoke (closeD ats t cons c).target (closeD ats t cons c).args).run P wp = .ok (.value (.tuple #[])) { wp with heap := wp.heap.setIfInBounds c (.chan cap buf true sn rc tm) } := by
 rw [z5j, Sem.run_bind, run_close_open ats t h]
 rfl
theorem zby {ats : Array TypeId} {t : TypeId} {cons : Array Bool} {c cap sn rc : Nat} {buf : Array Value} {tm : Bool} {wp : World} (h : wp.heap[c]? = some (.chan cap buf false sn rc tm)) :
  Fine P (invoke (closeD ats t cons c).target (closeD ats t cons c).args) wp := by
 have key : Plain P (invoke (closeD ats t cons c).target (closeD ats t cons c).args) := by
  rw [z5j, close_some]
  refine Plain.bind ?_ fun _ => zb _
  refine Plain.bind (zu _) fun o => ?_
  split
  ·split
   ·refine Plain.bind (ze _) fun _ => ?_
    exact Plain.bind (zt _ _ trivial) fun _ => zb _
   ·exact Plain.bind (zt _ _ trivial) fun _ => zb _
  ·exact zk _
 exact key _ _ _ (z9b h)
theorem zdx [Pd : Pad] {ats : Array TypeId} {t : TypeId} {cons : Array Bool} {c cap sn rc : Nat} {buf : Array Value} {tm : Bool} {wp : World} (hwp : wp = padded (mkR f tmps (closeD ats t cons c :: ds) k) cs w) (h : wp.heap[c]? = some (.chan cap buf false sn rc tm)) :
  Steps P (lone (mkR f tmps (closeD ats t cons c :: ds) k) cs w) (lone (mkR f tmps ds k) cs { wp with heap := wp.heap.setIfInBounds c (.chan cap buf true sn rc tm) }) := by
 refine .one (.op _ _ _ _ _ _ ?_)
 subst hwp
 refine z2D (zby (ats := ats) (t := t) (cons := cons) h) (z9b (ats := ats) (t := t) (cons := cons) h) fun W W' es he => ⟨seen P f.fn es, z2c _ _ _, ?_⟩
 simp only [stepG, unwind, mkR, G]
 show callDeferred _ _ _ _ (closeD ats t cons c) W = _
 unfold callDeferred
 rw [he]
 simp [closeD, GStep.after]
end
end Go.Eng
namespace Go.Eng
open Go Go.RowKit
open Go.Conc
open Go.ConcN (WgLive)
open Go.Eng.Wg
variable [E : Env] [Pd : Pad]
section
variable {P : Program} {base n : Nat} {H : Trie} {ρ : Rho} {L : Look} {w : World}
theorem Ext.swapH {b cap cl cap' cl' : Nat} {es es' : List Nat} (hL : L b = some (.chn cap es cl)) : Ext ρ L ρ (upd L b (.chn cap' es' cl')) := by
 have ne : ∀ j (k : Blk), L j = some k → (∀ a b c, k ≠ .chn a b c) → j ≠ b := fun j k hj hk hjb => by
  subst hjb; rw [hL] at hj; injection hj with hj; exact hk _ _ _ hj.symm
 refine ⟨⟨fun _ _ h => h, fun j kd q c hj => ?_, fun j p q s d lo hi hj => ?_, fun j hj => ?_⟩, fun j hj => ?_⟩
 ·rw [upd_ne _ _ (ne j _ hj (by intros; simp))]; exact hj
 ·rw [upd_ne _ _ (ne j _ hj (by intros; simp))]; exact hj
 ·rcases hj with hj | hj
  ·left; rw [upd_ne _ _ (ne j _ hj (by intros; simp))]; exact hj
  ·right; rw [upd_ne _ _ (ne j _ hj (by intros; simp))]; exact hj
 ·rw [upd_ne _ _ (ne j _ hj (by intros; simp))]; exact hj
theorem z3D (c : Ctx base H n ρ L w) {b cap cl : Nat} {es : List Nat} {rb d sz : Nat} (hb : ρ b = some (rb, d, sz)) (hget : tget H b = some (.chn cap es cl)) :
  L b = some (.chn cap es cl) ∧ base ≤ rb ∧ ∃ vs sn rc tm, w.heap[rb]? = some (.chan cap vs (Nat.beq (Nat.mod cl 2) 1) sn rc tm) ∧ vs.size = es.length ∧ (cl < 2 → sn = es.length ∧ rc = 0 ∧ tm = false) ∧ ∀ i (h : i < vs.size), VR ρ L (es.getD i 0) vs[i] := by
 have hL := c.agree.2 _ _ hget
 obtain ⟨k, hk, hbr⟩ := c.sim.blk _ _ hb
 rw [hL] at hk; injection hk with hk; subst hk
 have hlive : live L b := NoRow.live (k := .chn cap es cl) trivial hL
 obtain ⟨vs, sn, rc, tm, h1, h2, h4, h3⟩ := hbr hlive
 exact ⟨hL, c.sim.rw b _ hb (by rw [NoRow.grp (k := .chn cap es cl) trivial hL]; omega), vs, sn, rc, tm, h1, h2, h4, h3⟩
theorem z8e (c : Ctx base H n ρ L w) {b cap cap' cl cl' : Nat} {es es' : List Nat} {rb d sz : Nat} (hb : ρ b = some (rb, d, sz)) (hget : tget H b = some (.chn cap es cl)) {vs' : Array Value} {sn' rc' : Nat} {tm' : Bool}
  (hsz : vs'.size = es'.length) (hcnt : cl' < 2 → sn' = es'.length ∧ rc' = 0 ∧ tm' = false) (hv : ∀ i (h : i < vs'.size), VR ρ L (es'.getD i 0) vs'[i]) :
  ∃ L', Ctx base (hset H b (.chn cap' es' cl')) n ρ L' { w with heap := w.heap.setIfInBounds rb (.chan cap' vs' (Nat.beq (Nat.mod cl' 2) 1) sn' rc' tm') } ∧ Ext ρ L ρ L' ∧
   Below base w { w with heap := w.heap.setIfInBounds rb (.chan cap' vs' (Nat.beq (Nat.mod cl' 2) 1) sn' rc' tm') } ∧ Loc H n ρ L ρ L' := by
 have hL := c.agree.2 _ _ hget
 have hlt : b < 16384 := c.agree.lt hget
 have e : Ext ρ L ρ (upd L b (.chn cap' es' cl')) := Ext.swapH hL
 have hbase : base ≤ rb := c.sim.rw b _ hb (by rw [NoRow.grp (k := .chn cap es cl) trivial hL]; omega)
 have hrb : rb < w.heap.size := c.sim.bnd b _ hb
 have s1 := c.sim.swap (w' := { w with heap := w.heap.setIfInBounds rb (.chan cap' vs' (Nat.beq (Nat.mod cl' 2) 1) sn' rc' tm') }) hb hL (k' := .chn cap' es' cl') trivial trivial e.toExt0
  (fun x hx => by simp only; rw [Array.getElem?_setIfInBounds, if_neg (by simp only at hx; omega)]) (by simp)
  ⟨vs', sn', rc', tm', by simp [hrb], hsz, hcnt, fun i h => (hv i h).mono e⟩
 refine ⟨_, ⟨s1, c.agree.hset hlt _, fun j hj => ⟨by rw [upd_ne _ _ (by have := c.fresh.lt hb; omega)]; exact (c.fresh j hj).1, (c.fresh j hj).2⟩⟩, e,
  ⟨rfl, rfl, rfl, by simp, fun j hj => by simp only; rw [Array.getElem?_setIfInBounds, if_neg (by omega)]⟩, ⟨fun j hj hjn => ⟨upd_ne _ _ (fun h => by subst h; rw [hb] at hjn; cases hjn), hjn⟩⟩⟩
theorem VR.z8f {w : Nat} {v : Value} (h : VR ρ L w v) (ht : tagOf w = 10) {b : Nat} (hk : L (payOf w) = some (.box 4 b 0)) : ∃ rb d sz, v = .chan (some rb) ∧ ρ b = some (rb, d, sz) := by
 cases h with
 | int p hp => rw [z1i] at ht; cases ht
 | bool b => rw [z15] at ht; cases ht
 | ptr => rw [z0P] at ht; cases ht
 | slice => rw [z1e] at ht; cases ht
 | agg => rw [z0h] at ht; cases ht
 | tup => rw [z0h] at ht; cases ht
 | clo id m c f vs h1 h2 h3 h4 =>
  rw [z05 10 id (by omega), h1] at hk
  injection hk with hk
  injection hk with hk
  omega
 | iface id t c u h1 h2 h3 =>
  rw [z05 10 id (by omega), h1] at hk
  injection hk with hk
  injection hk with hk
  omega
 | chan id b rb d sz h1 h2 =>
  rw [z05 10 id (by omega), h1] at hk
  injection hk with hk
  injection hk with _ e1 _
  subst e1
  exact ⟨rb, d, sz, rfl, h2⟩
 | fn f => rw [z0U] at ht; cases ht
 | yld => rw [z0D] at ht; cases ht
 | var => rw [z1t] at ht; cases ht
 | opq => rw [z1u] at ht; cases ht
 | btw => rw [z1v] at ht; cases ht
 | u64 => rw [z0V] at ht; cases ht
 | map => unfold mapW at ht; rw [zW] at ht; cases ht
 | str => unfold strW at ht; rw [zW] at ht; cases ht
 | ostr => unfold ostrW at ht; rw [zW] at ht; cases ht
 | poly => unfold polyW at ht; rw [zW] at ht; cases ht
 | _ => cases ht
end
end Go.Eng
namespace Go.Eng
open Go Go.RowKit
open Go.Conc
open Go.ConcN (WgLive)
open Go.Eng.Wg
section
variable [E : Env] {P : Program} {ty : TypeId} {Wg : Nat} {pr : Nat × Obj} {base n nt : Nat} {H : Trie} {ρ : Rho} {L : Look} {w : World} {f : FFix} {tmps : Array Value} {ds : List Deferred} {k : List Item} {cs : List Frame}
 {ops : Array Oper} {o : Oper} {i : Nat} {rest : List Nat}
open Classical in
@[instance_reducible] noncomputable def pad0 : Pad := { pad := fun _ _ _ => (0, 0), main := false, leap := noLeap, pick := fun fr cs w Post => if h : ∃ s, Post s then Classical.choose h else (fr, cs, w), pick_ok := fun fr cs w Post h => by rw [dif_pos h]; exact Classical.choose_spec h }
abbrev WkE (P : Program) (ty : TypeId) (Wg : Nat) (pr : Nat × Obj) (s : Sta) : Prop := ∃ τ, WkT P ty Wg pr τ s
theorem z9c {call : Nat → List Nat → Trie → Nat → OR} {sp : Op → Bool} {fuel T : Nat} {s' : DS} (hcall : ∀ Pd : Pad, Pd.main = false → Pd.leap = noLeap → CallB P call) (h : drive P call sp nt fuel ⟨k, T, H, n⟩ = .stop s')
  (c : Ctx base H n ρ L w) (ht : TR ρ L nt T tmps)
  (hk : ∀ ρ' L' w' tmps', Ctx base s'.H s'.n ρ' L' w' → TR ρ' L' nt s'.T tmps' → Ext ρ L ρ' L' → Loc s'.H n ρ L ρ' L' → n ≤ s'.n → Below base w w' → WkE P ty Wg pr (mkF f tmps' ds s'.k, cs, w')) : WkE P ty Wg pr (mkF f tmps ds k, cs, w) := by
 refine WkT.of_steps fun Pd hm hl => ?_
 obtain ⟨ρ', L', w', tmps', c', ht', e, b, l, hn, hst⟩ := (z1X (sp := sp) (hcall Pd hm hl) f ds cs fuel h c ht).ex
 exact ⟨_, hk ρ' L' w' tmps' c' ht' e l hn b, hst⟩
theorem zdQ (ho : ops[i]? = some o) (hw : Region.wanted o (yielded ops tmps) = true) (hro : f.ro = none) (hk : f.kind ≠ .early) {d : Deferred} (he : execOp (evT tmps) o = pure (.defer d))
  (h : WkE P ty Wg pr (mkF f (putT tmps o.dst Go.undef) (d :: ds) (.inRegion ops rest :: k), cs, w)) : WkE P ty Wg pr (mkF f tmps ds (.inRegion ops (i :: rest) :: k), cs, w) :=
 WkT.mute (zcP ho hw hro hk he) h
theorem ze7 (ho : ops[i]? = some o) (hw : Region.wanted o (yielded ops tmps) = true) (hro : f.ro = none) (hkd : f.kind ≠ .early) {rb d sz b cap T : Nat} {es : List Nat} {x z : Value} {v : Nat}
  (he : execOp (evT tmps) o = pure (.comm #[scase rb x z] true .send)) (c : Ctx base H n ρ L w) (hb : ρ b = some (rb, d, sz)) (hget : tget H b = some (.chn cap es 0)) (hroom : es.length < cap) (hv : VR ρ L v x) (ht : TR ρ L nt T tmps)
  (hd : o.dst = none) (hk : ∀ L' w', Ctx base (hset H b (.chn cap (es ++ [v]) 0)) n ρ L' w' → Ext ρ L ρ L' → Loc H n ρ L ρ L' → Below base w w' → TR ρ L' nt T tmps → WkE P ty Wg pr (mkF f tmps ds (.inRegion ops rest :: k), cs, w')) :
  WkE P ty Wg pr (mkF f tmps ds (.inRegion ops (i :: rest) :: k), cs, w) := by
 letI := pad0
 obtain ⟨hL, _, vs, sn, rc, tm, h1, h2, h4, h3⟩ := z3D c hb hget
 obtain ⟨h5, h6, h7⟩ := h4 (by omega)
 subst h5; subst h6; subst h7
 obtain ⟨L', c', e', b', l'⟩ := z8e (cap' := cap) (cl' := 0) (es' := es ++ [v]) (vs' := vs.push x) (sn' := es.length + 1) (rc' := 0) (tm' := false) c hb hget (by simp [h2]) (fun _ => ⟨by simp, rfl, rfl⟩) (fun i hi => by
  have hi' : i < vs.size + 1 := by simpa using hi
  rw [Array.getElem_push]
  split
  ·rename_i hlt
   have : (es ++ [v]).getD i 0 = es.getD i 0 := by simp [List.getD_eq_getElem?_getD, List.getElem?_append_left (show i < es.length by omega)]
   rw [this]; exact h3 i hlt
  ·rename_i hge
   have hi2 : i = es.length := by omega
   have : (es ++ [v]).getD i 0 = v := by rw [hi2]; simp [List.getD_eq_getElem?_getD]
   rw [this]; exact hv)
 refine WkT.send (c := rb) (cap := cap) (buf := vs) (sn := es.length) (rc := 0) (tm := false) (x := x) (z := z) (z9X ho hw hro hkd he) h1 (by omega) ?_
 rw [z2n i rest undef ho]
 rw [hd]; exact hk L' _ c' e' l' b' (ht.mono e')
theorem z9Y {fid : Nat} {fn : Func} (hfn : P.funcs[fid]? = some fn) (hres : fn.results = #[]) {ats : Array TypeId} {t : TypeId} {cons : Array Bool} {rb d sz b cap : Nat} {es : List Nat} (c : Ctx base H n ρ L w) (hb : ρ b = some (rb, d, sz)) (hget : tget H b = some (.chn cap es 0))
  {c0 : Frame} (hk : ∀ L' w', Ctx base (hset H b (.chn cap es 1)) n ρ L' w' → Ext ρ L ρ L' → Loc H n ρ L ρ L' → Below base w w' → WkE P ty Wg pr (c0.finish (.tuple #[]), cs, w')) :
  WkE P ty Wg pr (mkF ⟨fid, .normal, none⟩ tmps [closeD ats t cons rb] [], c0 :: cs, w) := by
 refine WkT.of_steps fun Pd hm hl => ?_
 obtain ⟨wp, hwp⟩ : ∃ wp, wp = padded (mkR ⟨fid, .normal, none⟩ tmps [closeD ats t cons rb] []) (c0 :: cs) w := ⟨_, rfl⟩
 have cp : Ctx base H n ρ L wp := hwp ▸ c.padded _ _
 obtain ⟨hL, _, vs, sn, rc, tm, h1, h2, h4, h3⟩ := z3D cp hb hget
 obtain ⟨h5, h6, h7⟩ := h4 (by omega)
 obtain ⟨L', c', e', b', l'⟩ := z8e (cap' := cap) (cl' := 1) (es' := es) (vs' := vs) (sn' := sn) (rc' := rc) (tm' := tm) cp hb hget h2 (fun _ => ⟨h5, h6, h7⟩) h3
 obtain ⟨w2, hw2⟩ : ∃ w2 : World, w2 = { wp with heap := wp.heap.setIfInBounds rb (.chan cap vs true sn rc tm) } := ⟨_, rfl⟩
 have c2 : Ctx base (hset H b (.chn cap es 1)) n ρ L' w2 := by rw [hw2]; exact c'
 have b2 : Below base wp w2 := by rw [hw2]; exact b'
 obtain ⟨w3, hw3⟩ : ∃ w3, w3 = padded (mkR ⟨fid, .normal, none⟩ tmps [] []) (c0 :: cs) w2 := ⟨_, rfl⟩
 have c3 : Ctx base (hset H b (.chn cap es 1)) n ρ L' w3 := hw3 ▸ c2.padded _ _
 have b3 : Below base w w3 := ((hwp ▸ z0l c _ _ : Below base w wp).trans b2).trans (hw3 ▸ z0l c2 _ _)
 refine ⟨_, hk L' w3 c3 e' l' b3, ?_⟩
 have s1 : Steps P (lone (mkF ⟨fid, .normal, none⟩ tmps [closeD ats t cons rb] []) (c0 :: cs) w) (lone (mkR ⟨fid, .normal, none⟩ tmps [closeD ats t cons rb] []) (c0 :: cs) w) := z95 rfl
 have s2 := zdx (P := P) (ats := ats) (t := t) (cons := cons) hwp h1
 rw [← hw2] at s2
 refine (s1.trans s2).trans (.one ?_)
 have hrun : (results fn tmps).run P w3 = .ok (.tuple #[]) w3 := by simp [results, hres]
 rw [hw3] at hrun ⊢
 refine .op _ _ _ _ _ _ (z2D (z4E (P := P) fn tmps _ _ _ hrun) hrun fun W W' es h => ⟨seen P fid es, z2c _ _ _, ?_⟩)
 simp only [stepG, unwind, mkR, G, hfn, h]
 simp [doReturn, GStep.after]
end
section
open Go.Conc.Lib Go.ConcR.Gen Go.ConcN.Gen
open Go.ConcR (stA smA KK WgAt DC0 Payload)
variable [Payload] {L : WgLink} {P : Program} {Wg : Nat} {pr : Nat × Obj}
theorem zeq (H : WgLib P L) {f : FFix} (hro : f.ro = none) {tmps : Array Value} {cs : List Frame} {mT : Nat} (hT : QuitsD P mT 0 (G (mkR f tmps [] []) cs)) {w : World} (hp : w.heap[pr.1]? = some pr.2) (hm : MineO pr.2) :
  WkE P L.tWg Wg pr (mkF f tmps [dcall L.done #[.pointer (some ⟨Wg, 0, none⟩)]] [], cs, w) := by
 refine WkT.mute (fr' := mkR f tmps [dcall L.done #[.pointer (some ⟨Wg, 0, none⟩)]] []) (cs' := cs) (fun W => by simp [stepG, stepG.exec, mkF, mkR, G, hro]) ?_
 refine WkT.mute (fr' := (baseD L.done).at ⟨#[.pointer (some ⟨Wg, 0, none⟩), undef, undef, undef], []⟩ [.code (body_done L)]) (cs' := mkR f tmps [] [] :: cs) (fun W => ?_) ⟨.leaf, ?_⟩
 ·have h := stepG_unwind_enter (P := P) (main := false) (w := W) (cs := cs) (b := { fn := f.fn, tmps := #[], todo := [], defers := [], mode := .returning, kind := f.kind, roundOf := f.ro }) (a := ⟨tmps, [dcall L.done #[.pointer (some ⟨Wg, 0, none⟩)]]⟩) (todo := []) (ds := []) (f := L.done) rfl H.f_done (nm_done L) rfl
  have e : #[Value.pointer (some { block := Wg, off := 0 })] ++ Array.replicate ((doneFn L).ntmps - 1) undef = #[Value.pointer (some { block := Wg, off := 0 }), undef, undef, undef] := by
   apply Array.ext'
   simp [doneFn, List.replicate]
  rw [show (#[Value.pointer (some { block := Wg, off := 0 })] : Array Value).size = 1 from rfl, e] at h
  simp only [Frame.at] at h
  simp only [body_done, doneFn, Option.getD_some, mkR, Frame.at, hro] at h ⊢
  exact h
 ·exact ⟨fun w hw => zcF (K := WgLive L.tWg Wg) H (fun hk hr => hr hk) id (fun hk hx => ⟨_, _, hx.setSt _⟩) rfl hT w hw, hp, hm⟩
end
end Go.Eng
namespace Go.Eng
open Go Go.RowKit
open Go.Conc
open Go.ConcN (WgLive)
open Go.Eng.Wg
theorem selA {a b : Bool} (h : sel a b false = true) : a = true ∧ b = true := by
 cases a with
 | true => exact ⟨rfl, h⟩
 | false => cases h
noncomputable section
def sendSp : Op → Bool
 | .send .. => true
 | .defer _ => true
 | _ => false
inductive SL where
 | fin (s : DS)
 | no (q : Nat)
def sendAt (b : Nat) (s : DS) (k : DS → SL) : SL :=
 match s.k with
 | [] => .fin s
 | .inRegion ops (i :: rest) :: k' => (match ops[i]? with
  | some o => (match o.op, o.dst with
   | .send ch x, none => sel (sel (wantedE ops s.T o) (sel (Nat.beq (tagOf (ev s.T ch)) 10) (Nat.beq (tagOf (ev s.T x)) 1) false) false)
     (match tget s.H (payOf (ev s.T ch)), tget s.H b with
      | some (.box 4 b' 0), some (.chn cap es 0) => sel (sel (Nat.beq b' b) (ltb es.length cap) false) (k ⟨.inRegion ops rest :: k', s.T, hset s.H b (.chn cap (es ++ [ev s.T x]) 0), s.n⟩) (.no 301)
      | _, _ => .no 302) (.no 303)
   | _, _ => .no 304)
  | none => .no 305)
 | _ => .no 306
def sendLoop (P : Program) (call : Nat → List Nat → Trie → Nat → OR) (nt fuel b m : Nat) : DS → SL :=
 Nat.rec (motive := fun _ => DS → SL) (fun _ => .no 300) (fun _ ih s => match drive P call sendSp nt fuel s with | .stop s' => sendAt b s' ih | .run _ => .no 307 | .bad q => .no q) m
end
section
variable [E : Env] {P : Program} {ty : TypeId} {Wg : Nat} {pr : Nat × Obj} {base nt fuel b : Nat} {f : FFix} {ds : List Deferred} {cs : List Frame} {call : Nat → List Nat → Trie → Nat → OR}
theorem z9d (hro : f.ro = none) (hkd : f.kind ≠ .early) {kk : DS → SL} {s s' : DS} (h : sendAt b s kk = .fin s') {ρ : Rho} {L : Look} {w : World} {tmps : Array Value} {rb d sz : Nat} (c : Ctx base s.H s.n ρ L w) (ht : TR ρ L nt s.T tmps)
  (hb : ρ b = some (rb, d, sz))
  (hfin : ∀ ρ' L' w' tmps', Ctx base s'.H s'.n ρ' L' w' → TR ρ' L' nt s'.T tmps' → Ext ρ L ρ' L' → Below base w w' → WkE P ty Wg pr (mkF f tmps' ds [], cs, w'))
  (ih : ∀ (s1 : DS) (ρ1 : Rho) (L1 : Look) (w1 : World), kk s1 = .fin s' → Ctx base s1.H s1.n ρ1 L1 w1 → TR ρ1 L1 nt s1.T tmps → Ext ρ L ρ1 L1 → Below base w w1 → WkE P ty Wg pr (mkF f tmps ds s1.k, cs, w1)) :
  WkE P ty Wg pr (mkF f tmps ds s.k, cs, w) := by
 obtain ⟨k, T, H, n⟩ := s
 letI := pad0
 unfold sendAt at h
 simp only at h c ht
 split at h
 ·injection h with h
  subst h
  exact hfin ρ L w tmps c ht (.refl _ _) (Below.refl _ _)
 ·rename_i ops i rest k'
  split at h
  ·rename_i o ho
   split at h
   ·rename_i ch x hop hdst
    rw [zf] at h
    split at h
    ·rename_i hw
     obtain ⟨hw1, hw2⟩ := selA hw
     obtain ⟨hw3, hw4⟩ := selA hw2
     split at h
     ·rename_i b' cap es hbox hchn
      rw [zf] at h
      split at h
      ·rename_i hr
       obtain ⟨hr1, hr2⟩ := selA hr
       have hbb : b' = b := by simpa using hr1
       subst hbb
       have hroom : es.length < cap := (z08 _ _).1 hr2
       have h10 : tagOf (ev T ch) = 10 := by simpa using hw3
       have h1 : tagOf (ev T x) = 1 := by simpa using hw4
       have vch := zC ht ch (by rw [h10]; decide)
       have vx := zC ht x (by rw [h1]; decide)
       obtain ⟨rb', d', sz', hch, hb'⟩ := vch.z8f h10 (c.agree.2 _ _ hbox)
       rw [hb] at hb'
       injection hb' with hb'; injection hb' with e1 e2; subst e1
       rw [z0q ht o] at hw1
       refine ze7 (T := T) ho hw1 hro hkd (x := evT tmps x) (z := .tuple #[]) ?_ c hb hchn hroom vx ht hdst fun L' w' c' e' l' b' ht' => ih _ ρ L' w' h c' ht' e' b'
       unfold execOp
       simp [hop, scase, hch]
      ·cases h
     ·cases h
    ·cases h
   ·cases h
  ·cases h
 ·cases h
theorem z3T (hcall : ∀ Pd : Pad, Pd.main = false → Pd.leap = noLeap → CallB P call) (hro : f.ro = none) (hkd : f.kind ≠ .early) {s' : DS} : ∀ (m : Nat) {s : DS} {ρ : Rho} {L : Look} {w : World} {tmps : Array Value} {rb d sz : Nat}, sendLoop P call nt fuel b m s = .fin s' →
  Ctx base s.H s.n ρ L w → TR ρ L nt s.T tmps → ρ b = some (rb, d, sz) →
  (∀ ρ' L' w' tmps', Ctx base s'.H s'.n ρ' L' w' → TR ρ' L' nt s'.T tmps' → Ext ρ L ρ' L' → Below base w w' → WkE P ty Wg pr (mkF f tmps' ds [], cs, w')) → WkE P ty Wg pr (mkF f tmps ds s.k, cs, w)
 | 0, s, ρ, L, w, tmps, rb, d, sz, h, _, _, _, _ => by cases h
 | m + 1, s, ρ, L, w, tmps, rb, d, sz, h, c, ht, hb, hfin => by
  have e : sendLoop P call nt fuel b (m + 1) s = (match drive P call sendSp nt fuel s with | .stop s' => sendAt b s' (sendLoop P call nt fuel b m) | .run _ => .no 307 | .bad q => .no q) := rfl
  rw [e] at h
  split at h
  ·rename_i s1 hd
   refine z9c hcall hd c ht fun ρ1 L1 w1 t1 c1 ht1 e1 l1 n1 b1 => ?_
   refine z9d hro hkd h c1 ht1 (e1.place _ _ hb) (fun ρ' L' w' tmps' c' ht' e' b' => hfin ρ' L' w' tmps' c' ht' (e1.trans e') (b1.trans b')) fun s2 ρ2 L2 w2 h2 c2 ht2 e2 b2 => ?_
   exact z3T hcall hro hkd m h2 c2 ht2 (e2.place _ _ (e1.place _ _ hb)) fun ρ' L' w' tmps' c' ht' e' b' => hfin ρ' L' w' tmps' c' ht' ((e1.trans e2).trans e') ((b1.trans b2).trans b')
  ·cases h
  ·cases h
end
end Go.Eng
namespace Go.Eng
open Go Go.RowKit
open Go.Conc
open Go.ConcN (WgLive)
open Go.Eng.Wg
open Go.Conc.Lib
section
variable {P : Program} {f : FFix} {tmps : Array Value} {ds : List Deferred} {k : List Item} {cs : List Frame} {ops : Array Oper} {o : Oper} {i : Nat} {rest : List Nat} {main : Bool}
theorem z3E (ho : ops[i]? = some o) (hw : Region.wanted o (yielded ops tmps) = true) (hro : f.ro = none) {g : Nat} {fn : Func} {body : Code} {vs : Array Value} (hfn : P.funcs[g]? = some fn) (hb : fn.body = some body) (hn : fn.name ≠ "runtime.NumGoroutine")
  (he : execOp (evT tmps) o = callFunc g vs) (W : World) :
  stepG P main (G (mkF f tmps ds (.inRegion ops (i :: rest) :: k)) cs) W =
   .go (G (mkF ⟨g, .normal, none⟩ (vs ++ Array.replicate (fn.ntmps - vs.size) Go.undef) [] [.code body]) (mkF f tmps ds (.inRegion ops (i :: rest) :: k) :: cs)) W := by
 have henter : Frame.enter P g vs .normal = mkF ⟨g, .normal, none⟩ (vs ++ Array.replicate (fn.ntmps - vs.size) Go.undef) [] [.code body] := by simp [Frame.enter, hfn, hb, mkF]
 rw [z3C ho hw hro, he, ← henter]
 have e1 : (callFunc g vs).runT P W #[] = (.ok (.enter g vs) W, #[]) := by simp [callFunc, hfn, hb, hn]
 unfold stepG.apply
 simp only [e1]
 simp [mkF, G, GStep.after, seen_none]
end
section
variable [E : Env] {P : Program} {ty : TypeId} {Wg : Nat} {pr : Nat × Obj} {base n nt T : Nat} {H : Trie} {ρ : Rho} {L : Look} {w : World} {f : FFix} {tmps : Array Value} {ds : List Deferred} {k : List Item} {cs : List Frame}
 {ops : Array Oper} {o : Oper} {i : Nat} {rest : List Nat}
theorem z8g {args : List Nat} {vs : Array Value} {fn : Func} (ha : AR ρ L args vs.toList) (hsl : allSlot args = true) (hle : args.length ≤ fn.ntmps) :
  TR ρ L fn.ntmps (listW args) (vs ++ Array.replicate (fn.ntmps - vs.size) Go.undef) := by
 letI := pad0
 have hlen : vs.size = args.length := by have := ha.length; simpa using this
 refine ⟨by simp; omega, fun t => ?_⟩
 rw [z0X _ hsl]
 by_cases htl : t < vs.size
 ·have h1 := ha.get t (by simpa using htl)
  have e : (vs ++ Array.replicate (fn.ntmps - vs.size) Go.undef).getD t Go.undef = vs.toList[t]'(by simpa using htl) := by
   simp [Array.getD_eq_getD_getElem?, Array.getElem?_append, htl]
  rw [e]; exact h1
 ·have e1 : args.getD t 0 = 0 := by simp [List.getD_eq_getElem?_getD, List.getElem?_eq_none (show args.length ≤ t by omega)]
  have e2 : (vs ++ Array.replicate (fn.ntmps - vs.size) Go.undef).getD t Go.undef = Go.undef := by
   simp only [Array.getD_eq_getD_getElem?, Array.getElem?_append, if_neg htl, Array.getElem?_replicate]
   split <;> rfl
  rw [e1, e2]; exact .undef
def litI (v : Nat) : Value := .int .i64 (sInt (payOf v))
theorem zdy : ∀ {es : List Nat} {vs : Array Value}, (∀ v ∈ es, tagOf v = 1) → vs.size = es.length → (∀ i (h : i < vs.size), VR ρ L (es.getD i 0) vs[i]) → vs = (es.map litI).toArray := by
 intro es vs ht hs hv
 apply Array.ext
 ·simpa using hs
 ·intro i h1 h2
  have hi : i < es.length := by omega
  have h := hv i h1
  have e : es.getD i 0 = es[i] := by simp [List.getD_eq_getElem?_getD, hi]
  rw [e] at h
  obtain ⟨p, _, e1, e2, e3⟩ := h.z0i (ht _ (List.getElem_mem hi))
  rw [e3]
  simp [litI, e2]
theorem zbz (ho : ops[i]? = some o) (hw : wantedE ops T o = true) (hd : o.dst = none) (hro : f.ro = none) (hkd : f.kind ≠ .early) {dn : Nat} {as : Array Operand} {ats : Array TypeId} (hop : o.op = .defer { callee := .value (.func dn), args := as, argTypes := ats })
  {bw sz : Nat} (ht : TR ρ L nt T tmps) (hws : evs T as.toList = [wP bw 0]) (hb : ρ bw = some (Wg, 0, sz)) (hbw : bw < 16384)
  (h : WkE P ty Wg pr (mkF f tmps (dcall dn #[.pointer (some ⟨Wg, 0, none⟩)] :: ds) (.inRegion ops rest :: k), cs, w)) : WkE P ty Wg pr (mkF f tmps ds (.inRegion ops (i :: rest) :: k), cs, w) := by
 letI := pad0
 have ha := z1N ht as.toList (by
  rw [hws]
  have e : noBad [wP bw 0] = sel (Nat.beq (tagOf (wP bw 0)) 15) false true := rfl
  rw [e, z0P]; rfl)
 rw [hws] at ha
 have hargs : as.map (evT tmps) = #[.pointer (some ⟨Wg, 0, none⟩)] := by
  apply Array.ext'
  rw [Array.toList_map]
  generalize hg : as.toList.map (evT tmps) = vs at ha
  cases ha with
  | cons _ v _ vs' hx hnil =>
   cases hnil
   rcases hx.z1j (z0P bw 0) with ⟨e1, _⟩ | ⟨b, oo, rb, d, sz', hρ, hoo, e1, e2⟩
   ·have e3 := congrArg payOf e1
    rw [show wP bw 0 = mk 3 (1048576 * (bw + 1) + 0) from rfl, z05 3 _ (by omega), show payOf 3 = 0 from rfl] at e3
    omega
   ·have e3 := congrArg payOf e1
    rw [show wP bw 0 = mk 3 (1048576 * (bw + 1) + 0) from rfl, show wP b oo = mk 3 (1048576 * (b + 1) + oo) from rfl, z05 3 _ (by omega), z05 3 _ (by omega)] at e3
    have eb : b = bw := by omega
    have eo : oo = 0 := by omega
    subst eb; subst eo
    rw [hb] at hρ
    injection hρ with hρ
    injection hρ with h1 h2
    injection h2 with h2 h3
    subst h1; subst h2
    rw [e2]
 refine zdQ (d := dcall dn #[.pointer (some ⟨Wg, 0, none⟩)]) ho (by rw [← z0q ht o]; exact hw) hro hkd ?_ (by rw [hd]; exact h)
 unfold execOp
 have ef : evT tmps (.func dn) = .func (.func dn) #[] #[] := rfl
 simp [hop, resolve, Deferred.ofValue, ef, dcall, hargs]
theorem z9Z (ho : ops[i]? = some o) (hw : wantedE ops T o = true) (hd : o.dst = none) (hro : f.ro = none) (hkd : f.kind ≠ .early) {y : Operand} {ats : Array TypeId} (hop : o.op = .defer { callee := .builtin .close, args := #[y], argTypes := ats })
  {b : Nat} (c : Ctx base H n ρ L w) (ht : TR ρ L nt T tmps) (hy : tagOf (ev T y) = 10) (hbox : tget H (payOf (ev T y)) = some (.box 4 b 0))
  (h : ∀ (rb d sz : Nat) (cons : Array Bool), ρ b = some (rb, d, sz) → WkE P ty Wg pr (mkF f tmps (closeD ats o.type cons rb :: ds) (.inRegion ops rest :: k), cs, w)) : WkE P ty Wg pr (mkF f tmps ds (.inRegion ops (i :: rest) :: k), cs, w) := by
 letI := pad0
 obtain ⟨rb, d, sz, hv, hρ⟩ := (zC ht y (by rw [hy]; decide)).z8f hy (c.agree.2 _ _ hbox)
 refine zdQ (d := closeD ats o.type (#[y].map fun | .const _ => true | _ => false) rb) ho (by rw [← z0q ht o]; exact hw) hro hkd ?_ (by rw [hd]; exact h rb d sz _ hρ)
 unfold execOp
 simp [hop, resolve, closeD, hv]
 first | rfl | (cases y <;> rfl)
theorem ze8 (ho : ops[i]? = some o) (hw : wantedE ops T o = true) (hro : f.ro = none) {g : Nat} {fn : Func} {body : Code} (hfn : P.funcs[g]? = some fn) (hb : fn.body = some body) (hn : fn.name ≠ "runtime.NumGoroutine") {as : Array Operand} {ats : Array TypeId}
  (hop : o.op = .call { callee := .value (.func g), args := as, argTypes := ats }) (ht : TR ρ L nt T tmps) (hnb : noBad (evs T as.toList) = true) (hsl : allSlot (evs T as.toList) = true) (hle : (evs T as.toList).length ≤ fn.ntmps)
  (h : ∀ vs' : Array Value, TR ρ L fn.ntmps (listW (evs T as.toList)) vs' → WkE P ty Wg pr (mkF ⟨g, .normal, none⟩ vs' [] [.code body], mkF f tmps ds (.inRegion ops (i :: rest) :: k) :: cs, w)) : WkE P ty Wg pr (mkF f tmps ds (.inRegion ops (i :: rest) :: k), cs, w) := by
 letI := pad0
 have ha := z1N ht as.toList hnb
 have ha' : AR ρ L (evs T as.toList) (as.map (evT tmps)).toList := by rw [Array.toList_map]; exact ha
 refine WkT.mute (fun W => z3E ho (by rw [← z0q ht o]; exact hw) hro (vs := as.map (evT tmps)) hfn hb hn ?_ W) (h _ (z8g ha' hsl hle))
 unfold execOp
 have ef : evT tmps (.func g) = .func (.func g) #[] #[] := rfl
 simp [hop, resolve, Deferred.ofValue, ef, invoke]
end
end Go.Eng
namespace Go.Eng
open Go Go.RowKit
open Go.Conc
open Go.ConcN (WgLive)
open Go.Eng.Wg
open Go.Conc.Lib
noncomputable section
def wkSp (sf : Nat) : Op → Bool
 | .defer _ => true
 | .call c => (match c.callee with | .value (.func g) => Nat.beq g sf | _ => false)
 | _ => false
def isL1 (l : List Nat) (a : Nat) : Bool := match l with | [x] => Nat.beq x a | _ => false
def putDone (bw dn : Nat) (s : DS) (k : DS → SL) : SL :=
 match s.k with
 | .inRegion ops (i :: rest) :: k' => (match ops[i]? with
  | some o => (match o.op, o.dst with
   | .defer c, none => (match c.callee with
    | .value (.func g) => sel (sel (wantedE ops s.T o) (sel (Nat.beq g dn) (isL1 (evs s.T c.args.toList) (wP bw 0)) false) false) (k ⟨.inRegion ops rest :: k', s.T, s.H, s.n⟩) (.no 310)
    | _ => .no 311)
   | _, _ => .no 312)
  | none => .no 313)
 | _ => .no 314
def putClose (b : Nat) (s : DS) (k : DS → SL) : SL :=
 match s.k with
 | .inRegion ops (i :: rest) :: k' => (match ops[i]? with
  | some o => (match o.op, o.dst with
   | .defer c, none => (match c.callee, c.args.toList with
    | .builtin .close, [y] => sel (sel (wantedE ops s.T o) (Nat.beq (tagOf (ev s.T y)) 10) false)
      (match tget s.H (payOf (ev s.T y)) with | some (.box 4 b' 0) => sel (Nat.beq b' b) (k ⟨.inRegion ops rest :: k', s.T, s.H, s.n⟩) (.no 320) | _ => .no 321) (.no 322)
    | _, _ => .no 323)
   | _, _ => .no 324)
  | none => .no 325)
 | _ => .no 326
def callAt (sf nts nt : Nat) (s : DS) (k : List Nat → DS → SL) : SL :=
 match s.k with
 | .inRegion ops (i :: rest) :: k' => (match ops[i]? with
  | some o => (match o.op, o.dst with
   | .call c, some d => (match c.callee with
    | .value (.func g) => sel (sel (wantedE ops s.T o) (sel (Nat.beq g sf) (sel (noBad (evs s.T c.args.toList)) (sel (allSlot (evs s.T c.args.toList)) (sel (Nat.ble (evs s.T c.args.toList).length nts) (ltb d nt) false) false) false) false) false)
      (k (evs s.T c.args.toList) ⟨.inRegion ops rest :: k', setW s.T d 0, s.H, s.n⟩) (.no 330)
    | _ => .no 331)
   | _, _ => .no 332)
  | none => .no 333)
 | _ => .no 334
end
section
variable [E : Env] {P : Program} {ty : TypeId} {Wg : Nat} {pr : Nat × Obj} {base nt : Nat} {ρ : Rho} {L : Look} {w : World} {f : FFix} {tmps : Array Value} {ds : List Deferred} {cs : List Frame} {s s' : DS}
theorem zcQ {l : List Nat} {a : Nat} (h : isL1 l a = true) : l = [a] := by
 unfold isL1 at h
 split at h
 ·rename_i x
  have : x = a := by simpa using h
  rw [this]
 ·cases h
theorem z8h (hro : f.ro = none) (hkd : f.kind ≠ .early) {bw dn sz : Nat} {k : DS → SL} (h : putDone bw dn s k = .fin s') (ht : TR ρ L nt s.T tmps) (hb : ρ bw = some (Wg, 0, sz)) (hbw : bw < 16384)
  (hk : ∀ k', k ⟨k', s.T, s.H, s.n⟩ = .fin s' → WkE P ty Wg pr (mkF f tmps (dcall dn #[.pointer (some ⟨Wg, 0, none⟩)] :: ds) k', cs, w)) : WkE P ty Wg pr (mkF f tmps ds s.k, cs, w) := by
 obtain ⟨k0, T, H, n⟩ := s
 unfold putDone at h
 simp only at h ht hk
 split at h
 ·rename_i ops i rest k'
  split at h
  ·rename_i o ho
   split at h
   ·rename_i c hop hd
    split at h
    ·rename_i g hc
     rw [zf] at h
     split at h
     ·rename_i hw
      obtain ⟨h1, h2⟩ := selA hw
      obtain ⟨h3, h4⟩ := selA h2
      have hg : g = dn := by simpa using h3
      subst hg
      refine zbz (as := c.args) (ats := c.argTypes) (dn := g) ho h1 hd hro hkd ?_ ht (zcQ h4) hb hbw (hk _ h)
      rw [hop, ← hc]
     ·cases h
    ·cases h
   ·cases h
  ·cases h
 ·cases h
theorem z6Q (hro : f.ro = none) (hkd : f.kind ≠ .early) {b : Nat} {k : DS → SL} (h : putClose b s k = .fin s') (c : Ctx base s.H s.n ρ L w) (ht : TR ρ L nt s.T tmps)
  (hk : ∀ k' (rb d sz : Nat) (ats : Array TypeId) (t : TypeId) (cons : Array Bool), ρ b = some (rb, d, sz) → k ⟨k', s.T, s.H, s.n⟩ = .fin s' → WkE P ty Wg pr (mkF f tmps (closeD ats t cons rb :: ds) k', cs, w)) : WkE P ty Wg pr (mkF f tmps ds s.k, cs, w) := by
 obtain ⟨k0, T, H, n⟩ := s
 unfold putClose at h
 simp only at h ht hk c
 split at h
 ·rename_i ops i rest k'
  split at h
  ·rename_i o ho
   split at h
   ·rename_i cl hop hd
    split at h
    ·rename_i y hc hy
     rw [zf] at h
     split at h
     ·rename_i hw
      obtain ⟨h1, h2⟩ := selA hw
      split at h
      ·rename_i b' hbox
       rw [zf] at h
       split at h
       ·rename_i hbb
        have hbb' : b' = b := by simpa using hbb
        subst hbb'
        refine z9Z (y := y) (ats := cl.argTypes) ho h1 hd hro hkd ?_ c ht (by simpa using h2) hbox fun rb d sz cons hρ => hk _ rb d sz _ _ _ hρ h
        have ha : cl.args = #[y] := Array.ext' hy
        rw [hop, ← hc, ← ha]
       ·cases h
      ·cases h
     ·cases h
    ·cases h
   ·cases h
  ·cases h
 ·cases h
theorem z9e (hro : f.ro = none) {sf nts : Nat} {fn : Func} {body : Code} (hfn : P.funcs[sf]? = some fn) (hb : fn.body = some body) (hn : fn.name ≠ "runtime.NumGoroutine") (hnt : fn.ntmps = nts) {k : List Nat → DS → SL} (h : callAt sf nts nt s k = .fin s') (ht : TR ρ L nt s.T tmps)
  (hk : ∀ (as : List Nat) (vs' : Array Value) (k1 : List Item) (T1 : Nat) (c0 : Frame) (tmps1 : Array Value), k as ⟨k1, T1, s.H, s.n⟩ = .fin s' → TR ρ L nts (listW as) vs' → c0.finish (.tuple #[]) = mkF f tmps1 ds k1 →
   (∀ ρ' L', Ext ρ L ρ' L' → TR ρ' L' nt T1 tmps1) → WkE P ty Wg pr (mkF ⟨sf, .normal, none⟩ vs' [] [.code body], c0 :: cs, w)) : WkE P ty Wg pr (mkF f tmps ds s.k, cs, w) := by
 obtain ⟨k0, T, H, n⟩ := s
 unfold callAt at h
 simp only at h ht hk
 split at h
 ·rename_i ops i rest k'
  split at h
  ·rename_i o ho
   split at h
   ·rename_i c d hop hd
    split at h
    ·rename_i g hc
     rw [zf] at h
     split at h
     ·rename_i hw
      obtain ⟨h1, h2⟩ := selA hw
      obtain ⟨h3, h4⟩ := selA h2
      obtain ⟨h5, h6⟩ := selA h4
      obtain ⟨h7, h8⟩ := selA h6
      obtain ⟨h9, h10⟩ := selA h8
      have hg : g = sf := by simpa using h3
      subst hg
      letI := pad0
      refine ze8 (as := c.args) (ats := c.argTypes) (g := g) ho h1 hro hfn hb hn ?_ ht h5 h7 (by rw [hnt]; exact Nat.le_of_ble_eq_true h9) fun vs' hv => ?_
      ·rw [hop, ← hc]
      ·rw [hnt] at hv
       refine hk _ vs' _ _ _ _ h hv (z2n i rest (.tuple #[]) ho) fun ρ' L' e => ?_
       rw [hd]
       exact (ht.mono e).set ((z08 _ _).1 h10) (by decide) .undef
     ·cases h
    ·cases h
   ·cases h
  ·cases h
 ·cases h
end
end Go.Eng
namespace Go.Eng
open Go Go.RowKit
open Go.Conc
open Go.ConcN (WgLive)
open Go.Eng.Wg
open Go.Conc.Lib
noncomputable section
def closeAt (b : Nat) (s : DS) (k : Trie → SL) : SL := match tget s.H b with | some (.chn cap es 0) => k (hset s.H b (.chn cap es 1)) | _ => .no 340
def atEnd : DR1 → SL
 | .stop s => (match s.k with | [] => .fin s | _ => .no 341)
 | .run _ => .no 342
 | .bad q => .no q
def onStop (r : DR1) (k : DS → SL) : SL := match r with | .stop s => k s | .run _ => .no 343 | .bad q => .no q
def onFin (r : SL) (k : DS → SL) : SL := match r with | .fin s => k s | .no q => .no q
def workE (P : Program) (call : Nat → List Nat → Trie → Nat → OR) (nw ns : Nat) (bodyw bodys : Code) (sf dn fuel m bw b : Nat) (args : List Nat) (H : Trie) (n : Nat) : SL :=
 onStop (drive P call (wkSp sf) nw fuel ⟨[.code bodyw], listW args, H, n⟩) fun s1 => putDone bw dn s1 fun s1' =>
 onStop (drive P call (wkSp sf) nw fuel s1') fun s2 => callAt sf ns nw s2 fun as s2' =>
 onStop (drive P call sendSp ns fuel ⟨[.code bodys], listW as, s2'.H, s2'.n⟩) fun s3 => putClose b s3 fun s3' =>
 onFin (sendLoop P call ns fuel b m s3') fun s4 => closeAt b s4 fun H5 => atEnd (drive P call (wkSp sf) nw fuel ⟨s2'.k, s2'.T, H5, s4.n⟩)
end
theorem z1Y {r : DR1} {k : DS → SL} {s' : DS} (h : onStop r k = .fin s') : ∃ s, r = .stop s ∧ k s = .fin s' := by
 unfold onStop at h
 split at h
 ·exact ⟨_, rfl, h⟩
 ·cases h
 ·cases h
theorem z9f {r : SL} {k : DS → SL} {s' : DS} (h : onFin r k = .fin s') : ∃ s, r = .fin s ∧ k s = .fin s' := by
 unfold onFin at h
 split at h
 ·exact ⟨_, rfl, h⟩
 ·cases h
theorem za0 {b : Nat} {s s' : DS} {k : Trie → SL} (h : closeAt b s k = .fin s') : ∃ cap es, tget s.H b = some (.chn cap es 0) ∧ k (hset s.H b (.chn cap es 1)) = .fin s' := by
 unfold closeAt at h
 split at h
 ·rename_i cap es ht
  exact ⟨cap, es, ht, h⟩
 ·cases h
theorem zcR {r : DR1} {s' : DS} (h : atEnd r = .fin s') : ∃ T H n, r = .stop ⟨[], T, H, n⟩ ∧ s' = ⟨[], T, H, n⟩ := by
 unfold atEnd at h
 split at h
 ·rename_i s
  obtain ⟨k, T, H, n⟩ := s
  split at h
  ·rename_i hk
   simp only at hk
   subst hk
   injection h with h
   exact ⟨T, H, n, rfl, h.symm⟩
  ·cases h
 ·cases h
 ·cases h
section
open Go.ConcR.Gen Go.ConcN.Gen
open Go.ConcR (stA smA KK WgAt DC0 Payload)
variable [E : Env] [Payload] {Lk : WgLink} {P : Program} {Wg : Nat} {base : Nat} {call : Nat → List Nat → Trie → Nat → OR}
theorem zbA (hlib : WgLib P Lk) (hcall : ∀ Pd : Pad, Pd.main = false → Pd.leap = noLeap → CallB P call) {sf nw ns : Nat} {fs : Func} {bodyw bodys : Code} {f0 : FFix} {cs0 : List Frame} {mT : Nat} (hro0 : f0.ro = none) (hkd0 : f0.kind ≠ .early) (hT : ∀ tmps, QuitsD P mT 0 (G (mkR f0 tmps [] []) cs0))
  (hfs : P.funcs[sf]? = some fs) (hbs : fs.body = some bodys) (hns : fs.name ≠ "runtime.NumGoroutine") (hrs : fs.results = #[]) (hnt : fs.ntmps = ns) {fuel m bw b : Nat} {args : List Nat} {H : Trie} {n : Nat} {s' : DS}
  (h : workE P call nw ns bodyw bodys sf Lk.done fuel m bw b args H n = .fin s') {ρ : Rho} {L : Look} {w : World} {tmps : Array Value} (c : Ctx base H n ρ L w) (ht : TR ρ L nw (listW args) tmps) {sz rb d sz' : Nat}
  (hbw : ρ bw = some (Wg, 0, sz)) (hbw16 : bw < 16384) (hb : ρ b = some (rb, d, sz')) {cap : Nat} {es : List Nat} (hend : tget s'.H b = some (.chn cap es 1)) (hlit : ∀ v ∈ es, tagOf v = 1) :
  WkE P Lk.tWg Wg (rb, .chan cap (es.map litI).toArray true es.length 0 false) (mkF f0 tmps [] [.code bodyw], cs0, w) := by
 unfold workE at h
 obtain ⟨s1, hd1, h⟩ := z1Y h
 refine z9c hcall hd1 c ht fun ρ1 L1 w1 t1 c1 ht1 e1 _ _ _ => ?_
 refine z8h hro0 hkd0 h ht1 (e1.place _ _ hbw) hbw16 fun k1 h => ?_
 obtain ⟨s2, hd2, h⟩ := z1Y h
 refine z9c hcall hd2 c1 ht1 fun ρ2 L2 w2 t2 c2 ht2 e2 _ _ _ => ?_
 refine z9e hro0 hfs hbs hns hnt h ht2 fun as vs' kb Tb c0 tb h hvs hc0 htb => ?_
 obtain ⟨s3, hd3, h⟩ := z1Y h
 refine z9c hcall hd3 c2 hvs fun ρ3 L3 w3 t3 c3 ht3 e3 _ _ _ => ?_
 refine z6Q rfl (by simp) h c3 ht3 fun k3 rb' d' sz2 ats t cons hb' h => ?_
 have hb3 : ρ3 b = some (rb, d, sz') := e3.place _ _ (e2.place _ _ (e1.place _ _ hb))
 rw [hb3] at hb'
 injection hb' with hb'; injection hb' with hb1 hb2; subst hb1
 obtain ⟨s4, hd4, h⟩ := z9f h
 obtain ⟨cap4, es4, hg4, h⟩ := za0 h
 refine z3T hcall rfl (by simp) m hd4 c3 ht3 hb3 fun ρ4 L4 w4 t4 c4 ht4 e4 _ => ?_
 refine z9Y hfs hrs c4 (e4.place _ _ hb3) hg4 fun L5 w5 c5 e5 _ _ => ?_
 rw [hc0]
 obtain ⟨T6, H6, n6, hd6, hs'⟩ := zcR h
 subst hs'
 refine z9c hcall hd6 c5 (htb _ _ (((e3.trans e4).trans e5))) fun ρ6 L6 w6 t6 c6 ht6 e6 _ _ _ => ?_
 letI := pad0
 obtain ⟨_, _, vs, sn, rc, tm, g1, g2, g3, g4⟩ := z3D c6 (e6.place _ _ (e4.place _ _ hb3)) hend
 obtain ⟨g5, g6, g7⟩ := g3 (by omega)
 subst g5; subst g6; subst g7
 rw [zdy hlit g2 g4] at g1
 exact zeq hlib hro0 (hT _) g1 ⟨by unfold junk; simp, by simp⟩
end
end Go.Eng
