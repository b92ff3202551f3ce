/- Part of the evaluator, in company. -/
import Derived.Test.YtadmpiidofncpacOCh
import Derived.Orders
set_option linter.unusedSectionVars false
set_option linter.unusedSimpArgs false
set_option linter.unusedVariables false
namespace Go.Eng
open Go Go.RowKit
open Go.Conc (G)
variable [E : Env] [Pd : Pad]
structure FFix where
 fn : FuncId
 kind : CallKind
 ro : Option Nat
def mkF (f : FFix) (tmps : Array Value) (ds : List Deferred) (todo : List Item) : Frame :=
 { fn := f.fn, tmps := tmps, todo := todo, defers := ds, mode := .run, kind := f.kind, roundOf := f.ro }
theorem z5C (f : FFix) (tmps : Array Value) (ds : List Deferred) (todo : List Item) : (mkF f tmps ds todo).eval = evT tmps := by
 funext x; cases x <;> rfl
def putT (tmps : Array Value) (dst : Option Tmp) (x : Value) : Array Value := match dst with | some d => tmps.setIfInBounds d x | none => tmps
section
variable {P : Program} {f : FFix} {tmps : Array Value} {ds : List Deferred} {k : List Item} {cs : List Frame} {w w' : World} {ops : Array Oper} {o : Oper} {fr0 : Frame}
theorem z2n (i : Nat) (rest : List Nat) (x : Value) (ho : ops[i]? = some o) :
  (mkF f tmps ds (.inRegion ops (i :: rest) :: k)).finish x = mkF f (putT tmps o.dst x) ds (.inRegion ops rest :: k) := by
 unfold mkF Frame.finish putT
 simp only [ho, Option.bind_some]
 cases o.dst <;> rfl
theorem zcq : Steps P (lone (mkF f tmps ds (.code .skip :: k)) cs w) (lone (mkF f tmps ds k) cs w) := .one (.mute _ _ _ _ _ fun W => by simp [stepG, stepG.exec, mkF, G])
theorem zdj {l : Nat} : Steps P (lone (mkF f tmps ds (.code (.label l) :: k)) cs w) (lone (mkF f tmps ds k) cs w) := .one (.mute _ _ _ _ _ fun W => by simp [stepG, stepG.exec, mkF, G])
theorem z7l {id : Nat} : Steps P (lone (mkF f tmps ds (.inBlock id :: k)) cs w) (lone (mkF f tmps ds k) cs w) := .one (.mute _ _ _ _ _ fun W => by simp [stepG, stepG.exec, mkF, G])
theorem zbg {b : Code} : Steps P (lone (mkF f tmps ds (.inScope b :: k)) cs w) (lone (mkF f tmps ds k) cs w) := .one (.mute _ _ _ _ _ fun W => by simp [stepG, stepG.exec, mkF, G])
theorem zcr {a b : Code} : Steps P (lone (mkF f tmps ds (.code (.seq a b) :: k)) cs w) (lone (mkF f tmps ds (.code a :: .code b :: k)) cs w) := .one (.mute _ _ _ _ _ fun W => by simp [stepG, stepG.exec, mkF, G])
theorem z81 {c : Operand} {a b : Code} {t : Bool} (h : evT tmps c = .bool t) : Steps P (lone (mkF f tmps ds (.code (.cond c a b) :: k)) cs w) (lone (mkF f tmps ds (.code (if t then a else b) :: k)) cs w) :=
 .one (.mute _ _ _ _ _ fun W => by
  have he := z5C f tmps ds (.code (.cond c a b) :: k)
  simp only [mkF] at he
  simp [stepG, stepG.exec, mkF, G, he, h])
theorem z5D {id : Nat} {b : Code} : Steps P (lone (mkF f tmps ds (.code (.block id b) :: k)) cs w) (lone (mkF f tmps ds (.code b :: .inBlock id :: k)) cs w) := .one (.mute _ _ _ _ _ fun W => by simp [stepG, stepG.exec, mkF, G])
theorem zaI {b : Code} : Steps P (lone (mkF f tmps ds (.code (.scope b) :: k)) cs w) (lone (mkF f tmps ds (.code b :: .inScope b :: k)) cs w) := .one (.mute _ _ _ _ _ fun W => by simp [stepG, stepG.exec, mkF, G])
theorem zcs {b : Code} : Steps P (lone (mkF f tmps ds (.code (.loop b) :: k)) cs w) (lone (mkF f tmps ds (.code b :: .inLoop b :: k)) cs w) := .one (.mute _ _ _ _ _ fun W => by simp [stepG, stepG.exec, mkF, G])
theorem z8P {b : Code} : Steps P (lone (mkF f tmps ds (.inLoop b :: k)) cs w) (lone (mkF f tmps ds (.code b :: .inLoop b :: k)) cs w) := .one (.mute _ _ _ _ _ fun W => by simp [stepG, stepG.exec, mkF, G])
theorem zct {id : Nat} {k' : List Item} (h : exitTo id k = some k') : Steps P (lone (mkF f tmps ds (.code (.exit id) :: k)) cs w) (lone (mkF f tmps ds k') cs w) :=
 .one (.mute _ _ _ _ _ fun W => by simp [stepG, stepG.exec, mkF, G, h])
theorem z8Q {id : Nat} : Steps P (lone (mkF f tmps ds (.code (.region id ops false) :: k)) cs w) (lone (mkF f tmps ds (.inRegion ops (List.range ops.size) :: k)) cs w) :=
 .one (.mute _ _ _ _ _ fun W => by simp [stepG, stepG.exec, mkF, G])
theorem z3z : Steps P (lone (mkF f tmps ds (.inRegion ops [] :: k)) cs w) (lone (mkF f tmps ds k) cs w) := .one (.mute _ _ _ _ _ fun W => by simp [stepG, stepG.exec, mkF, G])
theorem z6j {i : Nat} {rest : List Nat} (ho : ops[i]? = some o) (hw : Region.wanted o (yielded ops tmps) = false) :
  Steps P (lone (mkF f tmps ds (.inRegion ops (i :: rest) :: k)) cs w) (lone (mkF f (putT tmps o.dst Go.undef) ds (.inRegion ops rest :: k)) cs w) := by
 rw [← z2n i rest Go.undef ho]
 exact .one (.mute _ _ _ _ _ fun W => by simp [stepG, stepG.exec, mkF, G, ho, hw])
def notDefer (op : Op) : Bool := match op with | .defer _ => false | _ => true
theorem zcu {i : Nat} {rest : List Nat} (ho : ops[i]? = some o) (hw : Region.wanted o (yielded ops tmps) = true) (hd : notDefer o.op = true) (W : World) :
  stepG P Pd.main (G (mkF f tmps ds (.inRegion ops (i :: rest) :: k)) cs) W =
   stepG.apply P true (mkF f tmps ds (.inRegion ops (i :: rest) :: k)) cs none (execOp (evT tmps) o) W := by
 have he := z5C f tmps ds (.inRegion ops (i :: rest) :: k)
 simp only [mkF] at he
 have : ∀ l c, ¬ (f.ro = some l ∧ o.op = .defer c) := fun l c ⟨_, h2⟩ => by rw [h2] at hd; cases hd
 cases hr : f.ro with
 | none => simp [stepG, stepG.exec, stepG.oper, Frame.oper?, mkF, G, ho, hw, hr] at he ⊢; rw [he]
 | some l =>
  cases hop : o.op with
  | defer c => rw [hop] at hd; cases hd
  | _ => simp [stepG, stepG.exec, stepG.oper, Frame.oper?, mkF, G, ho, hw, hr, hop] at he ⊢; rw [he]
theorem zdk {it : Item} {s : Sem Next} {x : Value} (hit : ∀ a b c d, it ≠ .call a b c d) (hT : Tame P s (padded fr0 cs w)) (hd : Does P s (padded fr0 cs w) x w' (mkF f tmps ds (it :: k)) cs)
  (hg : ∀ W, stepG P Pd.main (G fr0 cs) W = stepG.apply P true (mkF f tmps ds (it :: k)) cs none s W) :
  Steps P (lone fr0 cs w) (lone ((mkF f tmps ds (it :: k)).finish x) cs w') := by
 cases hd with
 | value h => exact .one (.op _ _ _ _ _ _ (z2P hg (hT _ _ h) h rfl))
 | skip h hx => subst hx; exact .one (.op _ _ _ _ _ _ (z2P hg (hT _ _ h) h rfl))
 | enter f args w1 h hr =>
  refine .trans (.one (.op _ _ _ _ _ _ (z2P hg (hT _ _ h) h ?_))) hr
  cases it with
  | call a b c d => exact absurd rfl (hit _ _ _ _)
  | _ => rfl
 | round l f tmps assign body w1 h hr => exact .trans (.one (.op _ _ _ _ _ _ (z2P hg (hT _ _ h) h rfl))) hr
theorem z8R {i : Nat} {rest : List Nat} {x : Value} (ho : ops[i]? = some o) (hw : Region.wanted o (yielded ops tmps) = true) (hd : notDefer o.op = true)
  (hT : Tame P (execOp (evT tmps) o) (padded (mkF f tmps ds (.inRegion ops (i :: rest) :: k)) cs w))
  (h : Does P (execOp (evT tmps) o) (padded (mkF f tmps ds (.inRegion ops (i :: rest) :: k)) cs w) x w' (mkF f tmps ds (.inRegion ops (i :: rest) :: k)) cs) :
  Steps P (lone (mkF f tmps ds (.inRegion ops (i :: rest) :: k)) cs w) (lone (mkF f (putT tmps o.dst x) ds (.inRegion ops rest :: k)) cs w') := by
 rw [← z2n i rest x ho]
 exact zdk (by intros; simp) hT h (zcu ho hw hd)
end
section
variable {base : Nat} {H H' : Trie} {n n' nt T T' v : Nat} {ρ : Rho} {L : Look} {w : World} {P : Program} {tmps : Array Value} {ops : Array Oper} {call : Nat → List Nat → Trie → Nat → OR}
theorem z1H {o : Oper} {op : Op} (h : opE P call T H n op = .ok v H' n') : notDefer op = true := by
 cases op <;> first | rfl | cases h
theorem VR.zcv {w : Nat} {b : Bool} (h : VR ρ L w (.bool b)) : w = wB b := by cases h; rfl
theorem zem (a b : Bool) : wB a = wB b ↔ a = b := by cases a <;> cases b <;> decide
theorem z0q (ht : TR ρ L nt T tmps) (o : Oper) : wantedE ops T o = Region.wanted o (yielded ops tmps) := by
 unfold wantedE Region.wanted
 cases hg : o.guard with
 | none => rfl
 | some jw =>
  obtain ⟨j, want⟩ := jw
  simp only
  unfold yielded
  cases hd : (ops[j]?).bind (·.dst) with
  | none => simp
  | some d =>
   simp only [Option.bind_some]
   rw [nbeq]
   have hv := ht.2 d
   by_cases hds : d < tmps.size
   ·have e : tmps.getD d Go.undef = tmps[d] := by simp [Array.getD, hds]
    rw [e] at hv
    have e2 : tmps[d]? = some tmps[d] := by simp [hds]
    rw [e2]
    cases hx : tmps[d] with
    | bool b =>
     rw [hx] at hv
     have hw : getW T d = wB b := hv.zcv
     rw [hw]
     simp only
     rw [show (some b == some want) = (b == want) from by cases b <;> cases want <;> rfl]
     by_cases hbw : b = want
     ·simp [hbw]
     ·have : ¬ wB b = wB want := fun h => hbw ((zem _ _).1 h)
      simp [hbw, this]
    | _ =>
     rw [hx] at hv
     have hne : ¬ getW T d = wB want := by
      intro h
      obtain ⟨b', _, h4⟩ := hv.z1J (by rw [h]; exact z15 _)
      cases h4
     simp [hne]
   ·have e : tmps.getD d Go.undef = Go.undef := by simp [Array.getD, hds]
    rw [e] at hv
    have e2 : tmps[d]? = none := Array.getElem?_eq_none (Nat.le_of_not_lt hds)
    rw [e2]
    have hne : ¬ getW T d = wB want := by
     intro h
     obtain ⟨b', _, h4⟩ := hv.z1J (by rw [h]; exact z15 _)
     cases h4
    simp [hne]
theorem z7m {dst : Option Tmp} {k : Nat → RR} {r : RR} {x : Value} (ht : TR ρ L nt T tmps) (hx : VR ρ L v x) (h : setD nt T dst v k = r) (hr : ∀ q, r ≠ .bad q) : ∃ T', k T' = r ∧ TR ρ L nt T' (putT tmps dst x) := by
 unfold setD at h
 cases dst with
 | none => exact ⟨T, h, ht⟩
 | some d =>
  simp only at h
  rw [zJ] at h
  split at h
  ·rename_i hd
   rw [zJ] at h
   split at h
   ·rename_i hv
    exact ⟨_, h, ht.set hd hv hx⟩
   ·exact absurd h.symm (hr _)
  ·exact absurd h.symm (hr _)
theorem z4S (hcall : CallB P call) (f : FFix) (ds : List Deferred) (k : List Item) (cs : List Frame) : ∀ (l : List Oper) (i T : Nat) (H : Trie) (n : Nat) (tmps : Array Value) (ρ : Rho) (L : Look) (w : World), (∀ j, l[j]? = ops[i + j]?) →
  regE P call nt ops l T H n = .ok T' H' n' → Ctx base H n ρ L w → TR ρ L nt T tmps →
  ∃ ρ' L' w' tmps', Ctx base H' n' ρ' L' w' ∧ TR ρ' L' nt T' tmps' ∧ Ext ρ L ρ' L' ∧ Below base w w' ∧ Loc H n ρ L ρ' L' ∧ n ≤ n' ∧
   Steps P (lone (mkF f tmps ds (.inRegion ops (List.range' i l.length) :: k)) cs w) (lone (mkF f tmps' ds (.inRegion ops [] :: k)) cs w')
 | [], i, T, H, n, tmps, ρ, L, w, hl, h, c, ht => by
  have e : regE P call nt ops [] T H n = .ok T H n := rfl
  rw [e] at h; injection h with h1 h2 h3
  subst h1; subst h2; subst h3
  exact ⟨ρ, L, w, tmps, c, ht, .refl _ _, Below.refl _ _, .refl _ _ _ _, Nat.le_refl _, Steps.refl _ _⟩
 | o :: l, i, T, H, n, tmps, ρ, L, w, hl, h, c, ht => by
  have e : regE P call nt ops (o :: l) T H n = sel (wantedE ops T o)
   (match opE P call T H n o.op with | .ok v H' n' => setD nt T o.dst v fun T' => regE P call nt ops l T' H' n' | .bad q => .bad q)
   (setD nt T o.dst 0 fun T' => regE P call nt ops l T' H n) := rfl
  rw [e, z0q ht o] at h
  have ho : ops[i]? = some o := by have := hl 0; simpa using this.symm
  have hl' : ∀ j, l[j]? = ops[i + 1 + j]? := fun j => by have := hl (j + 1); simpa [Nat.add_assoc, Nat.add_comm 1 j] using this
  have hrange : List.range' i (o :: l).length = i :: List.range' (i + 1) l.length := by simp [List.range'_succ]
  cases hw : Region.wanted o (yielded ops tmps) with
  | true =>
   rw [hw, z0b] at h
   split at h
   ·rename_i v H1 n1 hop
    obtain ⟨ρ1, L1, w1, x, c1, e1, b1, l1, hn1, hv, hdo⟩ := z6f (cfr := mkF f tmps ds (.inRegion ops (i :: List.range' (i + 1) l.length) :: k)) (ccs := cs) (c.padded _ _) ht hcall.s hop
    obtain ⟨T1, h1, ht1⟩ := z7m (ht.mono e1) hv h (by simp)
    obtain ⟨ρ2, L2, w2, tmps2, c2, ht2, e2, b2, l2, hn2, hst⟩ := z4S hcall f ds k cs l (i + 1) T1 H1 n1 _ ρ1 L1 w1 hl' h1 c1 ht1
    refine ⟨ρ2, L2, w2, tmps2, c2, ht2, e1.trans e2, ((z0l c _ _).trans b1).trans b2, l1.trans hn1 l2, Nat.le_trans hn1 hn2, ?_⟩
    rw [hrange]
    exact (z8R ho hw (z1H (o := o) hop) (z5B (c.padded _ _) ht hcall.t hop) hdo).trans hst
   ·cases h
  | false =>
   rw [hw, z0f] at h
   obtain ⟨T1, h1, ht1⟩ := z7m (x := Go.undef) ht .undef h (by simp)
   obtain ⟨ρ2, L2, w2, tmps2, c2, ht2, e2, b2, l2, hn2, hst⟩ := z4S hcall f ds k cs l (i + 1) T1 H n _ ρ L w hl' h1 c ht1
   refine ⟨ρ2, L2, w2, tmps2, c2, ht2, e2, b2, l2, hn2, ?_⟩
   rw [hrange]
   exact (z6j ho hw).trans hst
end
end Go.Eng
namespace Go.Eng
open Go Go.RowKit
variable [E : Env] [Pd : Pad]
theorem z8S (e : Edge) : bindsE e = Region.binds .any e := by
 unfold bindsE Region.binds
 cases e.ground <;> rfl
theorem zaJ (m i : Nat) : bitE m i = m.testBit i := by
 unfold bitE
 rw [nbeq, Nat.testBit_eq_decide_div_mod_eq]
 congr 2
 show (m >>> i) % 2 = _
 rw [Nat.shiftRight_eq_div_pow]
theorem z1Q {α : Type} (p : α → Bool) : ∀ l : List α, allE p l = true ↔ ∀ x ∈ l, p x = true
 | [] => by simp [allE]
 | x :: l => by
  have e : allE p (x :: l) = sel (p x) (allE p l) false := rfl
  rw [e, zf]
  have := z1Q p l
  by_cases h : p x = true <;> simp [h, this]
theorem z0C (p : Num → Bool) : ∀ (l : List Num) (x : Num), x ∈ filt p l ↔ x ∈ l ∧ p x = true
 | [], x => by simp [filt]
 | y :: l, x => by
  have e : filt p (y :: l) = sel (p y) (y :: filt p l) (filt p l) := rfl
  rw [e, zf]
  have := z0C p l x
  by_cases h : p y = true
  ·simp only [h, if_true, List.mem_cons, this]
   constructor
   ·rintro (rfl | h1); exact ⟨.inl rfl, h⟩; exact ⟨.inr h1.1, h1.2⟩
   ·rintro ⟨rfl | h1, h2⟩; exact .inl rfl; exact .inr ⟨h1, h2⟩
  ·rw [if_neg h, this]
   constructor
   ·rintro ⟨h1, h2⟩; exact ⟨List.mem_cons_of_mem _ h1, h2⟩
   ·rintro ⟨h1, h2⟩
    rcases List.mem_cons.1 h1 with rfl | h1
    ·exact absurd h2 h
    ·exact ⟨h1, h2⟩
theorem z6k : ∀ (l r : List Num) (x : Num), x ∈ app l r ↔ x ∈ l ∨ x ∈ r
 | [], r, x => by simp [app]
 | y :: l, r, x => by
  have e : app (y :: l) r = y :: app l r := rfl
  rw [e, List.mem_cons, List.mem_cons, z6k l r x, or_assoc]
theorem z5E : ∀ (l : List Oper) (k : Nat) (x : Num), x ∈ idxE l k ↔ ∃ j, l[j]? = some x.2 ∧ x.1 = k + j
 | [], k, x => by simp [idxE]
 | o :: l, k, x => by
  have e : idxE (o :: l) k = (k, o) :: idxE l (k + 1) := rfl
  rw [e, List.mem_cons, z5E l (k + 1) x]
  constructor
  ·rintro (rfl | ⟨j, h1, h2⟩)
   ·exact ⟨0, rfl, rfl⟩
   ·exact ⟨j + 1, by simpa using h1, by omega⟩
  ·rintro ⟨j, h1, h2⟩
   cases j with
   | zero =>
    left
    obtain ⟨a, b⟩ := x
    simp at h1 h2
    rw [h2, h1]
   | succ j => exact .inr ⟨j, by simpa using h1, by omega⟩
theorem z7n : ∀ (l : List Operand) (t : Nat), .tmp t ∈ l → t ∈ tmpsOf l
 | [], _, h => by cases h
 | x :: l, t, h => by
  have ih := z7n l t
  rcases List.mem_cons.1 h with rfl | h
  ·show t ∈ t :: tmpsOf l; exact List.mem_cons_self
  ·have := ih h
   cases x with
   | tmp u => exact List.mem_cons_of_mem _ this
   | const v => exact this
   | func f => exact this
   | global g => exact this
def dn (ls : Array Bool) (i : Nat) : Bool := ls.getD i false
structure Closed (ops : Array Oper) (ls : Array Bool) : Prop where
 size : ls.size = ops.size
 clo : ∀ i o, ops[i]? = some o → dn ls i = true → ∀ e ∈ o.after, bindsE e = true → dn ls e.on = true
def MaskOk (ops : Array Oper) (M : Nat) : Prop := ∀ ls, Closed ops ls → ∀ i o, ops[i]? = some o → (∀ e ∈ o.after, bindsE e = true → dn ls e.on = true) → ∀ j, bitE (getW M i) j = true → dn ls j = true
theorem z8T (M : Nat) : ∀ (l : List Edge) (j : Nat), (predM M l).testBit j = true → ∃ e ∈ l, bindsE e = true ∧ (j = e.on ∨ (getW M e.on).testBit j = true)
 | [], j, h => by simp [predM] at h
 | e :: l, j, h => by
  have eq : predM M (e :: l) = sel (bindsE e) (predM M l ||| ((1 <<< e.on) ||| getW M e.on)) (predM M l) := rfl
  rw [eq, zf] at h
  have ih := z8T M l j
  by_cases hb : bindsE e = true
  ·rw [if_pos hb, Nat.testBit_or, Nat.testBit_or, Bool.or_eq_true, Bool.or_eq_true] at h
   rcases h with h | h | h
   ·obtain ⟨e', h1, h2⟩ := ih h; exact ⟨e', List.mem_cons_of_mem _ h1, h2⟩
   ·refine ⟨e, List.mem_cons_self, hb, .inl ?_⟩
    rw [Nat.testBit_shiftLeft] at h
    simp at h
    obtain ⟨h1, h2⟩ := h
    cases hk : j - e.on with
    | zero => omega
    | succ k => rw [hk, Nat.testBit_succ] at h2; simp at h2
   ·exact ⟨e, List.mem_cons_self, hb, .inr h⟩
  ·rw [if_neg hb] at h
   obtain ⟨e', h1, h2⟩ := ih h; exact ⟨e', List.mem_cons_of_mem _ h1, h2⟩
theorem z8U {ops : Array Oper} {ls : Array Bool} (hc : Closed ops ls) : ∀ (l : List Oper) (k M : Nat), (∀ j, l[j]? = ops[k + j]?) →
  (∀ i o, ops[i]? = some o → i < k → (∀ e ∈ o.after, bindsE e = true → dn ls e.on = true) → ∀ j, (getW M i).testBit j = true → dn ls j = true) →
  (∀ i, k ≤ i → getW M i = 0) →
  ∀ i o, ops[i]? = some o → (∀ e ∈ o.after, bindsE e = true → dn ls e.on = true) → ∀ j, (getW (masksE l k M) i).testBit j = true → dn ls j = true
 | [], k, M, hl, h1, h2 => by
  intro i o ho hp j hj
  have e : masksE [] k M = M := rfl
  rw [e] at hj
  by_cases hi : i < k
  ·exact h1 i o ho hi hp j hj
  ·rw [h2 i (by omega)] at hj; simp at hj
 | o :: l, k, M, hl, h1, h2 => by
  have e : masksE (o :: l) k M = masksE l (k + 1) (setW M k ((predM M o.after.toList) % 2 ^ 128)) := rfl
  rw [e]
  have hk : ops[k]? = some o := by have := hl 0; simpa using this.symm
  have hlt : (predM M o.after.toList) % 2 ^ 128 < 2 ^ 128 := Nat.mod_lt _ (Nat.pow_pos (by omega))
  refine z8U hc l (k + 1) _ (fun j => by have := hl (j + 1); simpa [Nat.add_assoc, Nat.add_comm 1 j] using this) ?_ ?_
  ·intro i oi hoi hi hp j hj
   by_cases hik : i = k
   ·subst hik
    rw [hk] at hoi; injection hoi with hoi; subst hoi
    rw [z10 _ _ _ hlt, Nat.testBit_mod_two_pow] at hj
    simp only [Bool.and_eq_true] at hj
    obtain ⟨e', he, hb, h⟩ := z8T M _ j hj.2
    have he' : e' ∈ o.after := by simpa using he
    have hd := hp e' he' hb
    rcases h with rfl | h
    ·exact hd
    ·by_cases hlt' : e'.on < i
     ·have hs : e'.on < ops.size := Nat.lt_trans hlt' (Array.getElem?_eq_some_iff.1 hk).1
      have ho2 : ops[e'.on]? = some ops[e'.on] := by simp [hs]
      exact h1 e'.on _ ho2 hlt' (fun e2 h3 h4 => hc.clo _ _ ho2 hd e2 h3 h4) j h
     ·rw [h2 e'.on (by omega)] at h; simp at h
   ·rw [z19 _ _ _ _ hlt hik] at hj
    exact h1 i oi hoi (by omega) hp j hj
  ·intro i hi
   rw [z19 _ _ _ _ hlt (by omega)]
   exact h2 i (by omega)
theorem maskOk (ops : Array Oper) : MaskOk ops (masksE ops.toList 0 0) := by
 intro ls hc i o ho hp j hj
 rw [zaJ] at hj
 exact z8U hc ops.toList 0 0 (by simp) (fun i o _ h => absurd h (by omega)) (fun i _ => z8i i) i o ho hp j hj
theorem z3A : ∀ (l : List Num) (W : Nat), (∀ d j, (getW W d).testBit j = true → True) → (∀ x ∈ l, x.1 < 128) → ∀ d j,
  ((getW W d).testBit j = true ∨ ∃ x ∈ l, x.2.dst = some d ∧ x.1 = j) → (getW (writersE l W) d).testBit j = true
 | [], W, _, _, d, j, h => by
  have e : writersE [] W = W := rfl
  rw [e]
  rcases h with h | ⟨x, hx, _⟩
  ·exact h
  ·cases hx
 | x :: l, W, hW, hl, d, j, h => by
  have e : writersE (x :: l) W = writersE l (match x.2.dst with | some d => setW W d (getW W d ||| (1 <<< x.1)) | none => W) := rfl
  rw [e]
  refine z3A l _ (fun _ _ _ => trivial) (fun y hy => hl y (List.mem_cons_of_mem _ hy)) d j ?_
  have hx := hl x List.mem_cons_self
  cases hd : x.2.dst with
  | none =>
   simp only
   rcases h with h | ⟨y, hy, h1, h2⟩
   ·exact .inl h
   ·rcases List.mem_cons.1 hy with rfl | hy
    ·rw [hd] at h1; cases h1
    ·exact .inr ⟨y, hy, h1, h2⟩
  | some d' =>
   simp only
   have hv : getW W d' ||| (1 <<< x.1) < 2 ^ 128 := by
    refine Nat.or_lt_two_pow (z7B _ _) ?_
    rw [Nat.one_shiftLeft]; exact Nat.pow_lt_pow_right (by omega) hx
   by_cases hdd : d = d'
   ·subst hdd
    rw [z10 _ _ _ hv, Nat.testBit_or, Bool.or_eq_true]
    rcases h with h | ⟨y, hy, h1, h2⟩
    ·exact .inl (.inl h)
    ·rcases List.mem_cons.1 hy with rfl | hy
     ·left; right; rw [h2, Nat.testBit_shiftLeft]; simp
     ·exact .inr ⟨y, hy, h1, h2⟩
   ·rw [z19 _ _ _ _ hv hdd]
    rcases h with h | ⟨y, hy, h1, h2⟩
    ·exact .inl h
    ·rcases List.mem_cons.1 hy with rfl | hy
     ·rw [hd] at h1; injection h1 with h1; exact absurd h1.symm hdd
     ·exact .inr ⟨y, hy, h1, h2⟩
structure Stat (ops : Array Oper) (M R : Nat) : Prop where
 edge : ∀ i o, ops[i]? = some o → ∀ e ∈ o.after, bindsE e = true → e.on < i
 sole : ∀ (i : Nat) (o : Oper), ops[i]? = some o → allocOp o.op = true → ∃ d, o.dst = some d ∧ ∀ (j : Nat) (o' : Oper), ops[j]? = some o' → o'.dst = some d → j = i
 reads : ∀ i o d j o', ops[i]? = some o → (d ∈ tmpsOf o.op.operands.toList ∨ d ∈ guardT ops o) → ops[j]? = some o' → softX R (j, o') = true → o'.dst = some d → bitE (getW M i) j = true
theorem zdZ {ops : Array Oper} {M R : Nat} (h : statE ops M (writersE (idxE ops.toList 0) 0) (writersE (filt (softX R) (idxE ops.toList 0)) 0) R (idxE ops.toList 0) = true) :
  Stat ops M R ∧ chainE M (filt (effX R) (idxE ops.toList 0)) 0 = true := by
 unfold statE at h
 cases hs0 : allE (soleE (writersE (idxE ops.toList 0) 0)) (idxE ops.toList 0) with
 | false => rw [hs0] at h; cases h
 | true =>
 rw [hs0, z0b] at h
 rw [z1Q] at hs0
 rw [zf] at h
 split at h
 ·rename_i h1
  rw [z1Q] at h1
  have key : ∀ i o, ops[i]? = some o → ((i, o) : Num) ∈ idxE ops.toList 0 := fun i o ho => (z5E _ _ _).2 ⟨i, by simpa using ho, by simp⟩
  have yek : ∀ x : Num, x ∈ idxE ops.toList 0 → ops[x.1]? = some x.2 := fun x hx => by
   obtain ⟨k, hk, hk2⟩ := (z5E _ _ _).1 hx
   rw [hk2]; simpa using hk
  have h2 : ∀ i o, ops[i]? = some o → i < 128 ∧ (∀ e ∈ o.after, bindsE e = true → e.on < i) ∧
    (∀ d, (d ∈ tmpsOf o.op.operands.toList ∨ d ∈ guardT ops o) → getW (writersE (filt (softX R) (idxE ops.toList 0)) 0) d ||| getW M i = getW M i) := by
   intro i o ho
   have h3 := h1 _ (key i o ho)
   simp only [zJ] at h3
   split at h3
   ·rename_i hi
    rw [zf] at h3
    split at h3
    ·rename_i he
     rw [zf] at h3
     split at h3
     ·rename_i hr
      rw [z1Q] at he hr h3
      refine ⟨hi, fun e hme hb => ?_, fun d hd => ?_⟩
      ·have := he e (by simpa using hme)
       rw [hb, z0b, z08] at this
       exact this
      ·rcases hd with hd | hd
       ·exact Nat.eq_of_beq_eq_true (hr d hd)
       ·exact Nat.eq_of_beq_eq_true (h3 d hd)
     ·cases h3
    ·cases h3
   ·cases h3
  refine ⟨⟨fun i o ho => (h2 i o ho).2.1, fun i o ho ha => ?_, fun i o d j o' ho hd hj hsoft hdst => ?_⟩, h⟩
  ·have h3 := hs0 _ (key i o ho)
   unfold soleE at h3
   simp only at h3
   rw [ha, z0b] at h3
   cases hd : o.dst with
   | none => rw [hd] at h3; cases h3
   | some d =>
    rw [hd] at h3
    have h3 := Nat.eq_of_beq_eq_true h3
    refine ⟨d, rfl, fun j o' hj hdj => ?_⟩
    have h4 : (getW (writersE (idxE ops.toList 0) 0) d).testBit j = true :=
     z3A _ 0 (fun _ _ _ => trivial) (fun x hx => (h2 _ _ (yek x hx)).1) d j (.inr ⟨(j, o'), key j o' hj, hdj, rfl⟩)
    rw [h3] at h4
    have e : Nat.shiftLeft 1 i = 1 <<< i := rfl
    rw [e, Nat.one_shiftLeft, Nat.testBit_two_pow] at h4
    have h4 := of_decide_eq_true h4
    exact h4.symm
  have h3 := (h2 i o ho).2.2 d hd
  have h4 : (getW (writersE (filt (softX R) (idxE ops.toList 0)) 0) d).testBit j = true :=
   z3A _ 0 (fun _ _ _ => trivial) (fun x hx => (h2 _ _ (yek x ((z0C _ _ _).1 hx).1)).1) d j (.inr ⟨(j, o'), (z0C _ _ _).2 ⟨key j o' hj, hsoft⟩, hdst, rfl⟩)
  rw [zaJ, ← h3, Nat.testBit_or, h4, Bool.true_or]
 ·cases h
end Go.Eng
namespace Go.Eng
open Go Go.RowKit
variable [E : Env] [Pd : Pad]
section
variable {base : Nat} {H H' : Trie} {n n' nt T T' v : Nat} {ρ : Rho} {L : Look} {w : World} {P : Program} {tmps : Array Value} {ops : Array Oper} {call : Nat → List Nat → Trie → Nat → OR}
theorem z6l : ∀ (l : List Operand), (∀ x ∈ l, ev T x = ev T' x) → evs T l = evs T' l
 | [], _ => rfl
 | x :: l, h => by
  have e : ∀ T, evs T (x :: l) = ev T x :: evs T l := fun _ => rfl
  rw [e, e, h x List.mem_cons_self, z6l l fun y hy => h y (List.mem_cons_of_mem _ hy)]
theorem z6m (len : Nat) : ∀ (ps : List (Nat × Operand)) (c : Nat), (∀ x ∈ ps.map (·.2), ev T x = ev T' x) → fillE T len ps c = fillE T' len ps c
 | [], _, _ => rfl
 | p :: l, c, h => by
  have e : ∀ T c, fillE T len (p :: l) c = sel (ltb p.1 len) (sel (storable (ev T p.2)) (fillE T len l (setW c p.1 (ev T p.2))) .none) .none := fun _ _ => rfl
  rw [e, e, h p.2 (by simp), z6m len l _ fun y hy => h y (by simp at hy ⊢; exact .inr hy)]
theorem z3M {x : Option Operand} {d : Nat} {k : Nat → OR} (h : ∀ y, x = some y → ev T y = ev T' y) : optI x T d k = optI x T' d k := by
 cases x with
 | none => rfl
 | some y => show isI (ev T y) k = isI (ev T' y) k; rw [h y rfl]
theorem z6n {fs : Array Field} {tot : Nat} : ∀ (ps : List (Nat × Operand)) (c : Nat), (∀ x ∈ ps.map (·.2), ev T x = ev T' x) → fillS P H T fs tot ps c = fillS P H T' fs tot ps c
 | [], _, _ => rfl
 | p :: l, c, h => by
  have e : ∀ T c, fillS P H T fs tot (p :: l) c = match fs[p.1]? with
   | some f => (match cellsN H (ev T p.2) (tsz P f.type) with
    | .some d => sel (Nat.ble (Nat.add f.offset (tsz P f.type)) tot) (fillS P H T fs tot l (splice c f.offset (tsz P f.type) tot d)) .none
    | .none => .none)
   | none => .none := fun _ _ => rfl
  rw [e, e, h p.2 (by simp)]
  cases fs[p.1]? with
  | none => rfl
  | some f =>
   simp only
   cases cellsN H (ev T' p.2) (tsz P f.type) with
   | none => rfl
   | some d => simp only; rw [z6n l _ fun y hy => h y (by simp at hy ⊢; exact .inr hy)]
theorem z4b {sz tot : Nat} : ∀ (ps : List (Nat × Operand)) (c : Nat), (∀ x ∈ ps.map (·.2), ev T x = ev T' x) → fillR H T sz tot ps c = fillR H T' sz tot ps c
 | [], _, _ => rfl
 | p :: l, c, h => by
  have e : ∀ T c, fillR H T sz tot (p :: l) c = match cellsN H (ev T p.2) sz with
   | .some d => sel (Nat.ble (Nat.add (Nat.mul p.1 sz) sz) tot) (fillR H T sz tot l (splice c (Nat.mul p.1 sz) sz tot d)) .none
   | .none => .none := fun _ _ => rfl
  rw [e, e, h p.2 (by simp)]
  cases cellsN H (ev T' p.2) sz with
  | none => rfl
  | some d => simp only; rw [z4b l _ fun y hy => h y (by simp at hy ⊢; exact .inr hy)]
theorem z8V {op : Op} (h : ∀ x ∈ op.operands, ev T x = ev T' x) : opE P call T H n op = opE P call T' H n op := by
 cases op with
 | move x => simp only [z01, opX, h x (by simp [Op.operands])]
 | assign x => simp only [z01, opX, h x (by simp [Op.operands])]
 | pick c a b => simp only [z01, opX, h c (by simp [Op.operands]), h a (by simp [Op.operands]), h b (by simp [Op.operands])]
 | alloc t => rfl
 | box t x => simp only [z01, opX, h x (by simp [Op.operands])]
 | buildSlice t len ps =>
  simp only [z01, opX]
  have e : fillE T len ps.toList = fillE T' len ps.toList := funext fun c => z6m len ps.toList c fun x hx => h x (by simpa [Op.operands] using hx)
  have e2 : ∀ sz tot, fillR H T sz tot ps.toList = fillR H T' sz tot ps.toList := fun sz tot => funext fun c => z4b ps.toList c fun x hx => h x (by simpa [Op.operands] using hx)
  rw [e]
  simp only [buildSliceA, e2]
 | build t ps =>
  simp only [z01, opX, buildA]
  have e1 : ∀ fs tot, fillS P H T fs tot ps.toList = fillS P H T' fs tot ps.toList := fun fs tot => funext fun c => z6n ps.toList c fun x hx => h x (by simpa [Op.operands] using hx)
  have e2 : ∀ sz tot, fillR H T sz tot ps.toList = fillR H T' sz tot ps.toList := fun sz tot => funext fun c => z4b ps.toList c fun x hx => h x (by simpa [Op.operands] using hx)
  simp only [e1, e2]
 | field t x i => simp only [z01, opX, h x (by simp [Op.operands])]
 | fieldAddr t x i => simp only [z01, opX, h x (by simp [Op.operands])]
 | index t x i => simp only [z01, opX, h x (by simp [Op.operands]), h i (by simp [Op.operands])]
 | lookup t x i ok => simp only [z01, opX, h x (by simp [Op.operands]), h i (by simp [Op.operands])]
 | mapUpdate t x i y => simp only [z01, opX, h x (by simp [Op.operands]), h i (by simp [Op.operands]), h y (by simp [Op.operands])]
 | makeMap t r =>
  simp only [z01, opX]
  exact z3M fun y hy => h y (by simp [Op.operands, hy])
 | load t a => simp only [z01, opX, h a (by simp [Op.operands])]
 | store t a x => simp only [z01, opX, h a (by simp [Op.operands]), h x (by simp [Op.operands])]
 | binOp o t x y yt => simp only [z01, opX, h x (by simp [Op.operands]), h y (by simp [Op.operands])]
 | unOp o t x => simp only [z01, opX, h x (by simp [Op.operands])]
 | makeFunc t first cap =>
  cases t with
  | func f =>
   have e := z6l (T := T) (T' := T') cap.toList fun x hx => h x (by simp [Op.operands]; right; simpa using hx)
   simp only [z01, opX]
   rw [e]
  | _ => rfl
 | makeSlice t l c => simp only [z01, opX, h l (by simp [Op.operands]), h c (by simp [Op.operands])]
 | slice t x lo hi mx =>
  simp only [z01, opX, h x (by simp [Op.operands]), sliceE, sliceY, sliceZ, sliceArr]
  simp only [z3M (x := lo) (T := T) (T' := T') fun y hy => h y (by simp [Op.operands, hy]),
   z3M (x := hi) (T := T) (T' := T') fun y hy => h y (by simp [Op.operands, hy]),
   z3M (x := mx) (T := T) (T' := T') fun y hy => h y (by simp [Op.operands, hy])]
 | indexAddr t x i => simp only [z01, opX, h x (by simp [Op.operands]), h i (by simp [Op.operands])]
 | nilCheck x => simp only [z01, opX, h x (by simp [Op.operands])]
 | extract x i => simp only [z01, opX, h x (by simp [Op.operands])]
 | makeInterface t x => simp only [z01, opX, h x (by simp [Op.operands])]
 | convert s t x => simp only [z01, opX, h x (by simp [Op.operands])]
 | call c =>
  simp only [z01, opX, callE]
  rw [z6l c.args.toList fun x hx => h x (by simp [Op.operands, Call.operands]; right; simpa using hx)]
  cases hc : c.callee with
  | value f => simp only; rw [h f (by simp [Op.operands, Call.operands, hc])]
  | builtin b => rfl
  | invoke r m => simp only; rw [h r (by simp [Op.operands, Call.operands, hc])]
 | _ => rfl
theorem z7o {l : List Operand} (h : ∀ d ∈ tmpsOf l, getW T d = getW T' d) : ∀ x ∈ l, ev T x = ev T' x := by
 intro x hx
 cases x with
 | tmp t => exact h t (z7n l t hx)
 | const v => rfl
 | func f => rfl
 | global g => rfl
theorem z09 {b : Bool} {r : OR} {q : Nat} (h : sel b r (.bad q) = .ok v H' n') : r = .ok v H' n' := by
 cases b with
 | true => exact h
 | false => cases h
theorem z3f {b : Bool} {r : OR} {q : Nat} (h : sel b (.bad q) r = .ok v H' n') : r = .ok v H' n' := by
 cases b with
 | false => exact h
 | true => cases h
theorem z2N (h : OR.ok (v) H n = .ok T H' n') : H' = H ∧ n' = n := by injection h with a b c; exact ⟨b.symm, c.symm⟩
theorem zdl {x : Nat} (h : okv x H n = .ok v H' n') : H' = H ∧ n' = n := let ⟨_, _, a, b⟩ := z0N h; ⟨a, b⟩
def QB (H : Trie) (n : Nat) (H' : Trie) (n' : Nat) : Prop := (H' = H ∧ n' = n) ∨ ∃ k, IsBox k ∧ H' = hset H n k ∧ n' = n + 1 ∧ n < 16384
theorem z2w {kd len c x : Nat} (h : newBox H n kd len c x = .ok v H' n') : QB H n H' n' := by
 obtain ⟨h1, _, h2, h3⟩ := z2R h
 exact .inr ⟨.box kd len c, trivial, h2, h3, h1⟩
theorem zcw {op : BinOp} {x y : Nat} (h : polyBin op x y H n = .ok v H' n') : QB H n H' n' := by
 rcases z8z h with h | ⟨p, q, s, d, lo, hi, h1, h2, h3, h4⟩
 ·exact .inl h
 ·exact .inr ⟨.poly p q s d lo hi, h4, h1, h2, h3⟩
theorem z2I {x : Nat} (h : okv x H n = .ok v H' n') : QB H n H' n' := .inl (zdl h)
theorem zcx {t : TypeId} {m c off : Nat} (h : partE P t m c off H n = .ok v H' n') : QB H n H' n' := by
 unfold partE at h
 rw [zf] at h
 split at h
 ·exact z2I (z09 h)
 ·exact z2w (z09 (z09 h))
theorem zaK {x d : Nat} (h : ptrAt x d H n = .ok v H' n') : QB H n H' n' := by
 unfold ptrAt at h
 exact .inl (z2N (z09 (z3f (z09 h))))
theorem z3g {x : Option Operand} {d : Nat} {k : Nat → OR} (h : optI x T d k = .ok v H' n') (hk : ∀ m, k m = .ok v H' n' → QB H n H' n') : QB H n H' n' := by
 cases x with
 | none => exact hk d h
 | some y =>
  have h' : isI (ev T y) k = .ok v H' n' := h
  unfold isI at h'
  rw [zf] at h'
  split at h'
  ·exact hk _ h'
  ·cases h'
theorem z8W {op : Op} (hq : quietOp op = true) (h : opE P call T H n op = .ok v H' n') : QB H n H' n' := by
 cases op with
 | move x => exact z2I h
 | convert s t x =>
  simp only [z01, opX] at h
  rw [zf] at h
  split at h
  ·exact .inl (z2N (z09 (z09 h)))
  ·have h := z09 (z09 h)
   rw [zf] at h
   split at h
   ·exact .inl (z2N h)
   ·exact .inl (z2N (z09 h))
 | nilCheck a =>
  simp only [z01, opX] at h
  exact z2I (z3f (z09 h))
 | pick c a b =>
  simp only [z01, opX] at h
  rw [zf] at h
  split at h
  ·exact z2I h
  ·exact z2I (z09 h)
 | load t a =>
  simp only [z01, opX] at h
  rw [zf] at h
  split at h
  ·exact z2I (z3f (z09 h))
  ·unfold loadA at h
   obtain ⟨_, _, h⟩ := z2S (z3f (z09 (z09 h)))
   exact z2w h
 | binOp o t x y yt =>
  simp only [z01, opX] at h
  rw [zf] at h
  split at h
  ·exact z2I h
  rw [zf] at h
  split at h
  ·exact .inl (zde h)
  ·rw [zf] at h
   split at h
   ·exact z2I h
   ·rw [zf] at h
    split at h
    ·exact zcw h
    ·rw [zf] at h
     split at h
     ·exact z2I h
     ·exact z2I h
 | unOp o t x =>
  simp only [z01, opX] at h
  rw [zf] at h
  split at h
  ·unfold negP at h
   split at h
   ·exact zcw h
   ·cases h
  ·exact z2I h
 | slice t x lo hi mx =>
  simp only [z01, opX] at h
  rw [zf] at h
  split at h
  ·unfold sliceArr at h
   split at h
   ·have h := z3f (z09 (z09 h))
    split at h
    ·exact z3g (z09 h) fun m h => z3g h fun m2 h => z3g h fun m3 h => .inl (z2N (z09 h))
    ·cases h
   ·cases h
  ·simp only [sliceE] at h
   rw [zf] at h
   split at h
   ·simp only [sliceZ] at h
    obtain ⟨e, _, _, h2⟩ := z0M (z09 h) rfl (by simp)
    exact z3g h2 fun m h3 => z3g h3 fun m2 h4 => z3g h4 fun m3 h5 => .inl (z2N (z09 (z09 (z09 h5))))
   simp only [sliceY] at h
   have h1 := z09 h
   obtain ⟨e, _, _, h2⟩ := z0M h1 rfl (by simp)
   refine z3g h2 fun m h3 => z3g h3 fun m2 h4 => z3g h4 fun m3 h5 => .inl ?_
   have h6 := z09 (z09 (z09 h5))
   rw [zf] at h6
   split at h6
   ·exact z2N h6
   ·exact z2N (z09 h6)
 | indexAddr t x i =>
  simp only [z01, opX] at h
  rw [zf] at h
  split at h
  ·obtain ⟨e, _, _, h2⟩ := z0M h rfl (by simp)
   unfold isI at h2
   exact .inl (z2N (z09 (z3f (z09 (z09 h2)))))
  ·unfold indexAddrA at h
   split at h
   ·exact zaK (z09 (z09 (z09 h)))
   ·cases h
 | extract x i =>
  simp only [z01, opX] at h
  have h1 := z09 h
  split at h1
  ·exact z2I (z09 h1)
  ·cases h1
 | build t ps =>
  simp only [z01, opX, buildA] at h
  obtain ⟨i, z, c, _, _, h, _⟩ := z2m h (by simp)
  split at h
  ·obtain ⟨_, _, h⟩ := z2S (z09 h)
   exact z2w h
  ·obtain ⟨_, _, h⟩ := z2S (z09 h)
   exact z2w h
  ·cases h
 | field t x i =>
  simp only [z01, opX, fieldA] at h
  have h := z09 h
  split at h
  ·split at h
   ·split at h
    ·exact zcx h
    ·cases h
   ·cases h
  ·cases h
 | index t x i =>
  simp only [z01, opX, indexA] at h
  have h := z09 h
  split at h
  ·split at h
   ·exact zcx (z09 (z09 (z09 h)))
   ·cases h
  ·cases h
 | fieldAddr t x i =>
  simp only [z01, opX, fieldAddrA] at h
  split at h
  ·split at h
   ·exact zaK (z3f (z09 h))
   ·cases h
  ·cases h
 | lookup t x i ok =>
  simp only [z01, opX, lookupE] at h
  obtain ⟨kt, et, h⟩ := z6b h
  have fin : ∀ {q : Nat} {b : Bool}, lookFin q b ok H n = .ok v H' n' → QB H n H' n' := fun h => by
   unfold lookFin at h
   cases ok with
   | true => exact z2w h
   | false => exact z2I h
  have zero : lookZero P et ok H n = .ok v H' n' → QB H n H' n' := fun h => by
   unfold lookZero at h
   exact fin (z09 h)
  unfold keyE at h
  have h := z09 h
  split at h
  ·have h := z09 (z09 h)
   dsimp only at h
   rw [zf] at h
   split at h
   ·exact zero h
   ·have h := z09 h
    split at h
    ·have h := z09 h
     split at h
     ·exact fin h
     ·exact zero h
    ·cases h
  ·cases h
 | makeInterface t x =>
  simp only [z01, opX, mkIface] at h
  exact z2w (z09 (z3f (z09 h)))
 | makeFunc fn first cap =>
  cases fn with
  | func f =>
   simp only [z01, opX] at h
   have h := z09 h
   rw [zf] at h
   split at h
   ·exact .inl (z2N h)
   ·exact z2w (z09 (z09 h))
  | _ => cases h
 | call c =>
  simp only [z01, opX, callE] at h
  have h1 := z09 h
  cases hc : c.callee with
  | value f => simp [quietOp, hc] at hq
  | invoke r m => simp [quietOp, hc] at hq
  | builtin b =>
   rw [hc] at h1
   simp only at h1
   cases b <;> simp [quietOp, hc] at hq
   all_goals (unfold builtinE at h1; split at h1 <;> first | exact z2I h1 | cases h1 | simp_all)
 | _ => cases hq
theorem zcy {o : Oper} {cfr : Frame} {ccs : List Frame} (c : Ctx base H n ρ L w) (ht : TR ρ L nt T tmps) {q : Call} (ho : o.op = .call q) (hq : quietOp o.op = true) (h : opE P call T H n o.op = .ok v H' n') :
  CalmD ρ L H n w v H' n' (OpDone P tmps o w cfr ccs) := by
 rw [ho] at h hq
 simp only [z01, opX, callE] at h
 rw [zf] at h
 split at h
 ·rename_i hnb
  have ha := z1N ht q.args.toList hnb
  have hargs : (q.args.map (evT tmps)) = (q.args.toList.map (evT tmps)).toArray := by apply Array.ext'; simp
  have ets : q.argTypes.toList.toArray = q.argTypes := by simp
  have done : ∀ (b : Builtin) (x : Value), q.callee = .builtin b → (builtin b q.argTypes o.type (q.args.map fun | .const _ => true | _ => false) (q.args.toList.map (evT tmps)).toArray).run P w = .ok (.value x) w → OpDone P tmps o w cfr ccs x w := by
   intro b x hcal hx
   refine .value ?_
   rw [← hargs] at hx
   simp only [execOp, ho, resolve, hcal, invoke]
   exact hx
  cases hcal : q.callee with
  | value f => simp [quietOp, hcal] at hq
  | invoke r m => simp [quietOp, hcal] at hq
  | builtin b =>
   rw [hcal] at h
   simp only at h
   generalize hvs : q.args.toList.map (evT tmps) = vs at *
   generalize hws : evs T q.args.toList = args at *
   unfold builtinE at h
   split at h
   ·rename_i x
    obtain ⟨h1, rfl, rfl, rfl⟩ := z0N h
    cases ha with
    | cons _ vx _ _ hx ha' =>
     cases ha'
     obtain ⟨r, hr1, hr2⟩ := z7i (w := w) (ty := o.type) hx h1
     rw [ets] at hr2
     exact .pure c hr1 (done _ _ hcal (by simp [builtin, hr2]))
   ·rename_i x
    obtain ⟨h1, rfl, rfl, rfl⟩ := z0N h
    cases ha with
    | cons _ vx _ _ hx ha' =>
     cases ha'
     obtain ⟨r, hr1, hr2⟩ := z7j (w := w) (ty := o.type) hx h1
     rw [ets] at hr2
     exact .pure c hr1 (done _ _ hcal (by simp [builtin, hr2]))
   ·simp [quietOp, hcal] at hq
   ·obtain ⟨h1, rfl, rfl, rfl⟩ := z0N h
    obtain ⟨a, b, z, rfl, hz, e, _⟩ := z3L (P := P) (w := w) (.inl rfl) ha h1
    refine .pure c hz (done _ _ hcal ?_)
    rw [e rfl]
    by_cases hlt : b < a <;> simp [builtin, Builtin.min_, Builtin.min2, hlt]
   ·obtain ⟨h1, rfl, rfl, rfl⟩ := z0N h
    obtain ⟨a, b, z, rfl, hz, _, e⟩ := z3L (P := P) (w := w) (.inr rfl) ha h1
    refine .pure c hz (done _ _ hcal ?_)
    rw [e rfl]
    by_cases hlt : a < b <;> simp [builtin, Builtin.max_, Builtin.max2, hlt]
   ·simp [quietOp, hcal] at hq
   ·simp [quietOp, hcal] at hq
   ·cases h
 ·cases h
theorem zbh {o : Oper} {cfr : Frame} {ccs : List Frame} (c : Ctx base H n ρ L w) (ht : TR ρ L nt T tmps) (hq : quietOp o.op = true) (h : opE P call T H n o.op = .ok v H' n') :
  CalmD ρ L H n w v H' n' (OpDone P tmps o w cfr ccs) := by
 cases hop : o.op with
 | move x => rw [hop] at h; exact z9E c ht (.inl hop) h
 | nilCheck x => exact zdM c ht hop h
 | pick q a b => exact zci c ht hop h
 | load t a => exact zcj c ht hop h
 | binOp op t x y yt => exact zdL c ht hop h
 | unOp op t x => exact zej c ht hop h
 | makeInterface t x => exact z3l c ht hop h
 | makeFunc fn first cap =>
  cases fn with
  | func f => exact z6c c ht hop h
  | _ => rw [hop] at h; cases h
 | slice t x lo hi mx => exact zaG c ht hop h
 | indexAddr t x i => exact z5e c ht hop h
 | extract x i => exact z7e c ht hop h
 | call q => exact zcy c ht hop hq h
 | convert s t x => exact z7f c ht hop h
 | build t ps => exact zaC c ht hop h
 | field t x i => exact zaD c ht hop h
 | index t x i => exact zaE c ht hop h
 | fieldAddr t x i => exact z5d c ht hop h
 | lookup t x i ok => exact z8E c ht hop h
 | _ => rw [hop] at hq; cases hq
end
end Go.Eng
namespace Go.Eng
open Go Go.RowKit
variable [E : Env] [Pd : Pad]
section
variable {base : Nat} {H H' H1 : Trie} {n n' n1 nt T T' Tt v M : Nat} {ρ : Rho} {L : Look} {w : World} {P : Program} {tmps : Array Value} {ops : Array Oper} {call : Nat → List Nat → Trie → Nat → OR}
theorem zaL {dst : Option Tmp} {k : Nat → RR} {r : RR} (h : setD nt T dst v k = r) (hr : ∀ q, r ≠ .bad q) :
  ∃ T1, k T1 = r ∧ (∀ t, dst ≠ some t → getW T1 t = getW T t) ∧ (∀ d, dst = some d → getW T1 d = v ∧ d < nt ∧ v < 2 ^ 128) := by
 unfold setD at h
 cases dst with
 | none => exact ⟨T, h, fun _ _ => rfl, fun d hd => by cases hd⟩
 | some d =>
  simp only at h
  rw [zJ] at h
  split at h
  ·rename_i hd
   rw [zJ] at h
   split at h
   ·rename_i hv
    refine ⟨_, h, fun t ht => ?_, fun d' hd' => ?_⟩
    ·exact z19 _ _ _ _ hv fun e => ht (by rw [e])
    ·injection hd' with hd'; subst hd'; exact ⟨z10 _ _ _ hv, hd, hv⟩
   ·exact absurd h.symm (hr _)
  ·exact absurd h.symm (hr _)
theorem z5g {t : TypeId} (h : allocA P t H n = .ok v H' n') : ∃ len ch, H' = hset H n (.cells len ch (n + 1) n n len) ∧ n' = n + 1 ∧ n < 16384 ∧ v = wP n 0 := by
 unfold allocA at h
 obtain ⟨i, z, c, _, _, h, _⟩ := z2m h (by simp)
 obtain ⟨hn, hk⟩ := z0H h (by simp)
 injection hk with h1 h2 h3
 exact ⟨_, _, h2.symm, h3.symm, hn, h1.symm⟩
theorem z7p {x : Nat} (h : boxA x H n = .ok v H' n') : ∃ len ch, H' = hset H n (.cells len ch (n + 1) n n len) ∧ n' = n + 1 ∧ n < 16384 ∧ v = wP n 0 := by
 unfold boxA at h
 have h := z09 h
 split at h
 ·obtain ⟨hn, hk⟩ := z0H h (by simp)
  injection hk with h1 h2 h3
  exact ⟨_, _, h2.symm, h3.symm, hn, h1.symm⟩
 ·cases h
theorem z2V {e : TypeId} {len : Nat} {ps : Array (Nat × Operand)} (h : buildSliceA P T e len ps H n = .ok v H' n') : ∃ len' ch, H' = hset H n (.cells len' ch (n + 1) n n len') ∧ n' = n + 1 ∧ n < 16384 ∧ v = wS n (tsz P e) 0 len (Nat.succ len) := by
 unfold buildSliceA at h
 obtain ⟨i, z, c, _, _, h, _⟩ := z2m (z09 (z3f (z09 h))) (by simp)
 split at h
 ·obtain ⟨hn, hk⟩ := z0H h (by simp)
  injection hk with h1 h2 h3
  exact ⟨_, _, h2.symm, h3.symm, hn, h1.symm⟩
 ·cases h
theorem z6o {op : Op} (ha : allocOp op = true) (h : opE P call T H n op = .ok v H' n') : ∃ len ch, H' = hset H n (.cells len ch (n + 1) n n len) ∧ n' = n + 1 ∧ n < 16384 := by
 cases op with
 | alloc t =>
  simp only [z01, opX] at h
  rw [zf] at h
  split at h
  ·have h := z09 h
   obtain ⟨hn, hk⟩ := z0H h (by simp)
   injection hk with h1 h2 h3
   exact ⟨_, _, h2.symm, h3.symm, hn⟩
  ·obtain ⟨len, ch, h1, h2, h3, _⟩ := z5g h
   exact ⟨len, ch, h1, h2, h3⟩
 | box t x =>
  simp only [z01, opX] at h
  rw [zf] at h
  split at h
  ·obtain ⟨hn, hk⟩ := z0H h (by simp)
   injection hk with h1 h2 h3
   exact ⟨_, _, h2.symm, h3.symm, hn⟩
  ·obtain ⟨len, ch, h1, h2, h3, _⟩ := z7p h
   exact ⟨len, ch, h1, h2, h3⟩
 | buildSlice t len ps =>
  simp only [z01, opX] at h
  obtain ⟨e, hu, _, h⟩ := z0M h rfl (by simp)
  rw [zf] at h
  split at h
  ·have h := z09 (z09 h)
   split at h
   ·obtain ⟨hn, hk⟩ := z0H h (by simp)
    injection hk with h1 h2 h3
    exact ⟨_, _, h2.symm, h3.symm, hn⟩
   ·cases h
  ·obtain ⟨len, ch, h1, h2, h3, _⟩ := z2V h
   exact ⟨len, ch, h1, h2, h3⟩
 | makeSlice t l c =>
  simp only [z01, opX] at h
  obtain ⟨e, hu, _, h⟩ := z0M h rfl (by simp)
  have h := z09 (z09 h)
  obtain ⟨_, h⟩ := z2M h (by simp)
  obtain ⟨_, h⟩ := z2M h (by simp)
  have h := z09 (z09 (z09 h))
  obtain ⟨hn, hk⟩ := z0H h (by simp)
  injection hk with h1 h2 h3
  exact ⟨_, _, h2.symm, h3.symm, hn⟩
 | _ => cases ha
def Ahead (H : Trie) (n : Nat) (H1 : Trie) (n1 : Nat) : Prop :=
 n ≤ n1 ∧ ∀ (base : Nat) (ρ : Rho) (L : Look) (w : World), Ctx base H n ρ L w → ∃ L1, Ctx base H1 n1 ρ L1 w ∧ Ext ρ L ρ L1 ∧ ∀ b, b < n → L1 b = L b
theorem Ahead.refl (H : Trie) (n : Nat) : Ahead H n H n := ⟨Nat.le_refl _, fun _ ρ L _ c => ⟨L, c, .refl _ _, fun _ _ => rfl⟩⟩
theorem Ahead.trans {H2 : Trie} {n2 : Nat} (h : Ahead H n H1 n1) (k : Ahead H1 n1 H2 n2) : Ahead H n H2 n2 := by
 refine ⟨Nat.le_trans h.1 k.1, fun base ρ L w c => ?_⟩
 obtain ⟨L1, c1, e1, f1⟩ := h.2 base ρ L w c
 obtain ⟨L2, c2, e2, f2⟩ := k.2 base ρ L1 w c1
 exact ⟨L2, c2, e1.trans e2, fun b hb => (f2 b (Nat.lt_of_lt_of_le hb h.1)).trans (f1 b hb)⟩
def Soft (op : Op) : Prop := quietOp op = true ∨ allocOp op = true
theorem zdm {op : Op} (hs : Soft op) (h : opE P call T H n op = .ok v H' n') : Ahead H n H' n' := by
 rcases hs with hq | ha
 ·rcases z8W hq h with ⟨rfl, rfl⟩ | ⟨k, hk, rfl, rfl, hn⟩
  ·exact .refl _ _
  ·exact ⟨Nat.le_succ _, fun base ρ L w c => ⟨_, ⟨c.sim.boxB c.fresh hk, c.agree.hset hn _, c.fresh.updL _⟩, .freshL c.fresh _, fun b hb => upd_ne _ _ (by omega)⟩⟩
 ·obtain ⟨len, ch, rfl, rfl, hn⟩ := z6o ha h
  exact ⟨Nat.le_succ _, fun base ρ L w c => ⟨_, c.bare hn len ch, .freshL c.fresh _, fun b hb => upd_ne _ _ (by omega)⟩⟩
theorem z88 {k : Nat → Trie → Nat → RR} {r : RR} (hr : ∀ q, r ≠ .bad q) : ∀ (l : List Num) (T : Nat) (H : Trie) (n : Nat), (∀ x ∈ l, Soft x.2.op) → segE P call nt ops l T H n k = r →
  ∃ T1 H1 n1, k T1 H1 n1 = r ∧ (∀ t, (∀ x ∈ l, x.2.dst ≠ some t) → getW T1 t = getW T t) ∧ Ahead H n H1 n1
 | [], T, H, n, _, h => ⟨T, H, n, h, fun _ _ => rfl, .refl _ _⟩
 | x :: l, T, H, n, hs, h => by
  have e : segE P call nt ops (x :: l) T H n k = sel (wantedE ops T x.2)
   (match opE P call T H n x.2.op with | .ok v H' n' => setD nt T x.2.dst v fun T' => segE P call nt ops l T' H' n' k | .bad q => .bad q)
   (setD nt T x.2.dst 0 fun T' => segE P call nt ops l T' H n k) := rfl
  rw [e, zf] at h
  have fin : ∀ {v : Nat} {H2 : Trie} {n2 : Nat}, Ahead H n H2 n2 → (setD nt T x.2.dst v fun T' => segE P call nt ops l T' H2 n2 k) = r →
    ∃ T1 H1 n1, k T1 H1 n1 = r ∧ (∀ t, (∀ y ∈ x :: l, y.2.dst ≠ some t) → getW T1 t = getW T t) ∧ Ahead H n H1 n1 := by
   intro v H2 n2 ha h
   obtain ⟨T1, h1, h2, _⟩ := zaL h hr
   obtain ⟨T2, H3, n3, h4, h5, h6⟩ := z88 hr l T1 H2 n2 (fun y hy => hs y (List.mem_cons_of_mem _ hy)) h1
   exact ⟨T2, H3, n3, h4, fun t ht => (h5 t fun y hy => ht y (List.mem_cons_of_mem _ hy)).trans (h2 t (ht x List.mem_cons_self)), ha.trans h6⟩
  split at h
  ·split at h
   ·rename_i v H2 n2 hop
    exact fin (zdm (hs x List.mem_cons_self) hop) h
   ·exact absurd h.symm (hr _)
  ·exact fin (.refl _ _) h
noncomputable def cont (P : Program) (call : Nat → List Nat → Trie → Nat → OR) (nt : Nat) (ops : Array Oper) (M : Nat) (es xs recs : List Num) (T : Nat) (H : Trie) (n : Nat) : RR :=
 match es with
 | [] => .ok T H n
 | e :: es' => sel (wantedE ops T e.2)
   (match opE P call T H n e.2.op with | .ok v H' n' => setD nt T e.2.dst v fun T2 => drawE P call nt ops M es' xs (filt (fun x => sel (bitE (getW M e.1) x.1) false true) recs) T2 H' n' | .bad q => .bad q)
   (setD nt T e.2.dst 0 fun T2 => drawE P call nt ops M es' xs (filt (fun x => sel (bitE (getW M e.1) x.1) false true) recs) T2 H n)
structure Phase (P : Program) (call : Nat → List Nat → Trie → Nat → OR) (nt : Nat) (ops : Array Oper) (n0 : Nat) (news recs : List Num) (T : Nat) (H : Trie) (n : Nat) : Prop where
 chk : chkE P call nt ops T H n recs = true
 news : ∀ x ∈ news, allocOp x.2.op = true → wantedE ops T x.2 = true → n0 ≤ idE T x
 dist : ∀ x ∈ recs, ∀ y ∈ recs, allocOp x.2.op = true → wantedE ops T x.2 = true → allocOp y.2.op = true → wantedE ops T y.2 = true → idE T x = idE T y → x.1 = y.1
theorem zaM {n0 : Nat} {news recs : List Num} (h : phaseE P call nt ops n0 news recs T H n = true) : Phase P call nt ops n0 news recs T H n := by
 unfold phaseE at h
 cases h1 : chkE P call nt ops T H n recs with
 | false => rw [h1] at h; cases h
 | true =>
  rw [h1, z0b] at h
  cases h2 : allE (fun x : Num => Nat.ble n0 (idE T x)) (rowsE ops T news) with
  | false => rw [h2] at h; cases h
  | true =>
   rw [h2, z0b] at h
   rw [z1Q] at h2
   have mem : ∀ (l : List Num) (x : Num), x ∈ l → allocOp x.2.op = true → wantedE ops T x.2 = true → x ∈ rowsE ops T l := fun l x hx ha hw => (z0C _ _ _).2 ⟨hx, by rw [ha, z0b]; exact hw⟩
   refine ⟨h1, fun x hx ha hw => Nat.le_of_ble_eq_true (h2 x (mem _ x hx ha hw)), fun x hx y hy hax hwx hay hwy hid => ?_⟩
   unfold distE at h
   rw [z1Q] at h
   have h3 := h x (mem _ x hx hax hwx)
   rw [z1Q] at h3
   have h4 := h3 y (mem _ y hy hay hwy)
   rw [z8, if_pos hid] at h4
   exact Nat.eq_of_beq_eq_true h4
theorem z8X {es xs recs : List Num} (hxs : ∀ x ∈ xs, Soft x.2.op) (h : drawE P call nt ops M es xs recs T H n = .ok T' H' n') :
  ∃ T1 H1 n1 xs1 recs1 news, Phase P call nt ops n news recs1 T1 H1 n1 ∧ cont P call nt ops M es xs1 recs1 T1 H1 n1 = .ok T' H' n' ∧
   (∀ x, x ∈ recs ∨ x ∈ xs → x ∈ recs1 ∨ x ∈ xs1) ∧ (∀ x ∈ recs1, x ∈ recs ∨ (x ∈ xs ∧ x ∈ news)) ∧
   (∀ x ∈ xs1, x ∈ xs ∧ ∃ e es', es = e :: es' ∧ bitE (getW M x.1) e.1 = true) ∧
   (∀ t, (∀ x ∈ xs, x.2.dst ≠ some t) → getW T1 t = getW T t) ∧ Ahead H n H1 n1 ∧ (∀ x ∈ news, ∀ y ∈ xs1, y.1 ≠ x.1) := by
 cases es with
 | nil =>
  have e : drawE P call nt ops M [] xs recs T H n = segE P call nt ops xs T H n fun T1 H1 n1 => sel (phaseE P call nt ops n xs (app xs recs) T1 H1 n1) (.ok T1 H1 n1) (.bad 6) := rfl
  rw [e] at h
  obtain ⟨T1, H1, n1, h1, h2, h3⟩ := z88 (by simp) xs T H n hxs h
  rw [zf] at h1
  split at h1
  ·rename_i hc
   refine ⟨T1, H1, n1, [], app xs recs, xs, zaM hc, h1, fun x hx => .inl ((z6k _ _ _).2 hx.symm), fun x hx => ?_, (by intro x hx; cases hx), h2, h3, (by intro x _ y hy; cases hy)⟩
   rcases (z6k _ _ _).1 hx with h | h
   ·exact .inr ⟨h, h⟩
   ·exact .inl h
  ·cases h1
 | cons e es' =>
  have eq : drawE P call nt ops M (e :: es') xs recs T H n = segE P call nt ops (filt (fun x => sel (bitE (getW M x.1) e.1) false true) xs) T H n fun T1 H1 n1 =>
    sel (phaseE P call nt ops n (filt (fun x => sel (bitE (getW M x.1) e.1) false true) xs) (app (filt (fun x => sel (bitE (getW M x.1) e.1) false true) xs) recs) T1 H1 n1)
     (cont P call nt ops M (e :: es') (filt (fun x => bitE (getW M x.1) e.1) xs) (app (filt (fun x => sel (bitE (getW M x.1) e.1) false true) xs) recs) T1 H1 n1) (.bad 6) := rfl
  rw [eq] at h
  obtain ⟨T1, H1, n1, h1, h2, h3⟩ := z88 (by simp) _ T H n (fun x hx => hxs x ((z0C _ _ _).1 hx).1) h
  rw [zf] at h1
  split at h1
  ·rename_i hc
   refine ⟨T1, H1, n1, _, _, _, zaM hc, h1, fun x hx => ?_, fun x hx => ?_, fun x hx => ?_, fun t ht => h2 t fun x hx => ht x ((z0C _ _ _).1 hx).1, h3, fun x hx y hy hxy => ?_⟩
   ·rw [z6k, z0C, z0C]
    rcases hx with hx | hx
    ·exact .inl (.inr hx)
    ·by_cases hb : bitE (getW M x.1) e.1 = true
     ·exact .inr ⟨hx, hb⟩
     ·exact .inl (.inl ⟨hx, by simp [hb, z0f]⟩)
   ·rcases (z6k _ _ _).1 hx with h | h
    ·exact .inr ⟨((z0C _ _ _).1 h).1, h⟩
    ·exact .inl h
   ·have := (z0C _ _ _).1 hx
    exact ⟨this.1, e, es', rfl, this.2⟩
   ·have a1 := ((z0C _ _ _).1 hx).2
    have a2 := ((z0C _ _ _).1 hy).2
    rw [hxy] at a2
    rw [a2, z0b] at a1; cases a1
  ·cases h1
theorem z4T (e : Num) (r : List Num) (p : Nat) : chainE M (e :: r) p = sel (sel (Nat.beq p 0) true (bitE (getW M e.1) (Nat.pred p))) (chainE M r (Nat.succ e.1)) false := rfl
theorem zbi : ∀ (r : List Num) (p : Nat), chainE M r p = true → chainE M r 0 = true
 | [], _, _ => rfl
 | e :: r, p, h => by
  rw [z4T] at h ⊢
  rw [zf] at h
  split at h
  ·simpa [z0b] using h
  ·cases h
theorem z7q {e : Num} {r : List Num} {p : Nat} (h : chainE M (e :: r) p = true) : chainE M r (e.1 + 1) = true := by
 rw [z4T, zf] at h
 split at h
 ·exact h
 ·cases h
theorem z6p : ∀ (r : List Num) (e : Num) (p : Nat), chainE M (e :: r) p = true → ∀ y ∈ r, ∃ z ∈ e :: r, bitE (getW M y.1) z.1 = true
 | [], _, _, _, y, hy => by cases hy
 | a :: r, e, p, h, y, hy => by
  have h1 := z7q h
  rcases List.mem_cons.1 hy with rfl | hy
  ·rw [z4T, zf] at h1
   split at h1
   ·rename_i hb
    exact ⟨e, List.mem_cons_self, by simpa [zf] using hb⟩
   ·cases h1
  ·obtain ⟨z, hz, hb⟩ := z6p r a _ h1 y hy
   exact ⟨z, List.mem_cons_of_mem _ hz, hb⟩
def cnt (ops : Array Oper) (ls : Array Bool) : Nat := (List.range ops.size).countP fun i => !(dn ls i)
theorem z8Y {p q : Nat → Bool} {j : Nat} : ∀ (l : List Nat), (∀ i, q i = true → p i = true) → j ∈ l → p j = true → q j = false → l.countP q < l.countP p
 | [], _, h, _, _ => by cases h
 | a :: l, hpq, h, h1, h2 => by
  rw [List.countP_cons, List.countP_cons]
  have hle : l.countP q ≤ l.countP p := List.countP_mono_left fun i _ hi => hpq i hi
  rcases List.mem_cons.1 h with rfl | h
  ·simp [h1, h2]; omega
  ·have := z8Y l hpq h h1 h2
   have h3 : (if q a = true then 1 else 0) ≤ (if p a = true then 1 else 0) := by
    by_cases hq : q a = true
    ·simp [hq, hpq a hq]
    ·simp [hq]
   omega
theorem z7r {ls : Array Bool} {j : Nat} (hj : j < ls.size) (i : Nat) : dn (ls.setIfInBounds j true) i = (if i = j then true else dn ls i) := by
 unfold dn
 by_cases h : i = j
 ·subst h; simp [Array.getD_eq_getD_getElem?, hj]
 ·simp only [Array.getD_eq_getD_getElem?, Array.getElem?_setIfInBounds]
  rw [if_neg (by omega), if_neg h]
theorem Closed.set {ls : Array Bool} (hc : Closed ops ls) {j : Nat} {o : Oper} (ho : ops[j]? = some o) (hp : ∀ e ∈ o.after, bindsE e = true → dn ls e.on = true) : Closed ops (ls.setIfInBounds j true) := by
 have hj : j < ls.size := by rw [hc.size]; exact (Array.getElem?_eq_some_iff.1 ho).1
 refine ⟨by simp [hc.size], fun i oi hoi hd e he hb => ?_⟩
 rw [z7r hj]
 rw [z7r hj] at hd
 split
 ·rfl
 ·by_cases h : i = j
  ·subst h
   rw [ho] at hoi; injection hoi with hoi; subst hoi
   exact hp e he hb
  ·rw [if_neg h] at hd
   exact hc.clo i oi hoi hd e he hb
theorem ze0 {ls : Array Bool} (hc : Closed ops ls) {j : Nat} {o : Oper} (ho : ops[j]? = some o) (hd : dn ls j = false) : cnt ops (ls.setIfInBounds j true) < cnt ops ls := by
 have hjs := (Array.getElem?_eq_some_iff.1 ho).1
 have hj : j < ls.size := by rw [hc.size]; exact hjs
 refine z8Y (j := j) _ (fun i hi => ?_) (by simpa using hjs) (by simp [hd]) (by simp [z7r hj])
 rw [z7r hj] at hi
 split at hi
 ·simp at hi
 ·exact hi
theorem zdn {ls : Array Bool} (h : cnt ops ls ≤ 0) : ∀ i, i < ops.size → dn ls i = true := by
 intro i hi
 have h0 : cnt ops ls = 0 := by omega
 unfold cnt at h0
 rw [List.countP_eq_zero] at h0
 have := h0 i (by simpa using hi)
 simpa using this
theorem z8Z {ls : Array Bool} (hc : Closed ops ls) (j : Nat) : j ∈ Region.ready .any ops ls ↔ dn ls j = false ∧ ∃ o, ops[j]? = some o ∧ ∀ e ∈ o.after, bindsE e = true → dn ls e.on = true := by
 rw [mem_ready]
 constructor
 ·rintro ⟨h1, o, h2, h3⟩
  have hj : j < ls.size := by rw [hc.size]; exact (Array.getElem?_eq_some_iff.1 h2).1
  refine ⟨?_, o, h2, fun e he hb => h3 e he (by rw [← z8S]; exact hb)⟩
  unfold dn
  simpa [Array.getD_eq_getD_getElem?, hj] using h1
 ·rintro ⟨h1, o, h2, h3⟩
  have hj : j < ls.size := by rw [hc.size]; exact (Array.getElem?_eq_some_iff.1 h2).1
  refine ⟨?_, o, h2, fun e he hb => h3 e he (by rw [z8S]; exact hb)⟩
  unfold dn at h1
  simpa [Array.getD_eq_getD_getElem?, hj] using h1
theorem zdo {R : Nat} (hs : Stat ops M R) {ls : Array Bool} (hc : Closed ops ls) (h : Region.ready .any ops ls = []) : ∀ i, i < ops.size → dn ls i = true := by
 intro i
 induction i using Nat.strongRecOn with
 | _ i ih =>
  intro hi
  have ho : ops[i]? = some ops[i] := by simp [hi]
  cases hd : dn ls i with
  | true => rfl
  | false =>
   have hm : i ∈ Region.ready .any ops ls := (z8Z hc i).2 ⟨hd, _, ho, fun e he hb => by
    have hl := hs.edge i _ ho e he hb
    exact ih e.on hl (by omega)⟩
   rw [h] at hm; cases hm
noncomputable def putW (T : Nat) (dst : Option Tmp) (v : Nat) : Nat := match dst with | some d => setW T d v | none => T
theorem z8a {dst : Option Tmp} {t : Nat} (hv : ∀ d, dst = some d → v < 2 ^ 128) (h : dst ≠ some t) : getW (putW T dst v) t = getW T t := by
 cases dst with
 | none => rfl
 | some d => exact z19 _ _ _ _ (hv d rfl) fun e => h (by rw [e])
theorem z4C {d : Nat} (hv : v < 2 ^ 128) : getW (putW T (some d) v) d = v := z10 _ _ _ hv
theorem TR.put {x : Value} {dst : Option Tmp} (ht : TR ρ L nt T tmps) (hd : ∀ d, dst = some d → d < nt ∧ v < 2 ^ 128) (hx : VR ρ L v x) : TR ρ L nt (putW T dst v) (putT tmps dst x) := by
 cases dst with
 | none => exact ht
 | some d => exact ht.set (hd d rfl).1 (hd d rfl).2 hx
theorem zcz (hcall : CallB P call) (rest : List Nat) (f : FFix) (ds : List Deferred) (k : List Item) (cs : List Frame) {j : Nat} {o : Oper} (ho : ops[j]? = some o) (c : Ctx base H n ρ L w) (ht : TR ρ L nt Tt tmps)
  (h : (wantedE ops Tt o = true ∧ opE P call Tt H n o.op = .ok v H1 n1) ∨ (wantedE ops Tt o = false ∧ v = 0 ∧ H1 = H ∧ n1 = n))
  (hd : ∀ d, o.dst = some d → d < nt ∧ v < 2 ^ 128) :
  ∃ ρ1 L1 w1 tmps1, Ctx base H1 n1 ρ1 L1 w1 ∧ TR ρ1 L1 nt (putW Tt o.dst v) tmps1 ∧ Ext ρ L ρ1 L1 ∧ Below base w w1 ∧ Loc H n ρ L ρ1 L1 ∧ n ≤ n1 ∧
   Steps P (lone (mkF f tmps ds (.inRegion ops (j :: rest) :: k)) cs w) (lone (mkF f tmps1 ds (.inRegion ops rest :: k)) cs w1) := by
 rw [z0q ht o] at h
 rcases h with ⟨hw, hop⟩ | ⟨hw, rfl, rfl, rfl⟩
 ·obtain ⟨ρ1, L1, w1, x, c1, e1, b1, l1, hn1, hv, hdo⟩ := z6f (cfr := mkF f tmps ds (.inRegion ops (j :: rest) :: k)) (ccs := cs) (c.padded _ _) ht hcall.s hop
  exact ⟨ρ1, L1, w1, _, c1, (ht.mono e1).put hd hv, e1, (z0l c _ _).trans b1, l1, hn1, z8R ho hw (z1H (o := o) hop) (z5B (c.padded _ _) ht hcall.t hop) hdo⟩
 ·exact ⟨ρ, L, w, _, c, ht.put hd .undef, .refl _ _, Below.refl _ _, .refl _ _ _ _, Nat.le_refl _, z6j ho hw⟩
theorem zcA (hcall : CallB P call) (rest : List Nat) (f : FFix) (ds : List Deferred) (k : List Item) (cs : List Frame) {j : Nat} {o : Oper} (ho : ops[j]? = some o) (ht : TR ρ L nt Tt tmps)
  (hw : wantedE ops Tt o = true) (hnd : notDefer o.op = true) {x : Value} (hx : VR ρ L v x) (hT : Tame P (execOp (evT tmps) o) (padded (mkF f tmps ds (.inRegion ops (j :: rest) :: k)) cs w))
  (hdo : OpDone P tmps o (padded (mkF f tmps ds (.inRegion ops (j :: rest) :: k)) cs w) (mkF f tmps ds (.inRegion ops (j :: rest) :: k)) cs x (padded (mkF f tmps ds (.inRegion ops (j :: rest) :: k)) cs w))
  (hd : ∀ d, o.dst = some d → d < nt ∧ v < 2 ^ 128) :
  ∃ tmps1, TR ρ L nt (putW Tt o.dst v) tmps1 ∧ Steps P (lone (mkF f tmps ds (.inRegion ops (j :: rest) :: k)) cs w) (lone (mkF f tmps1 ds (.inRegion ops rest :: k)) cs (padded (mkF f tmps ds (.inRegion ops (j :: rest) :: k)) cs w)) := by
 rw [z0q ht o] at hw
 exact ⟨_, ht.put hd hx, z8R ho hw hnd hT hdo⟩
theorem z8b {o : Oper} (h : ∀ d ∈ guardT ops o, getW T d = getW Tt d) : wantedE ops T o = wantedE ops Tt o := by
 unfold wantedE
 unfold guardT at h
 cases hg : o.guard with
 | none => rfl
 | some jw =>
  obtain ⟨j, want⟩ := jw
  rw [hg] at h
  simp only at h ⊢
  cases hd : (ops[j]?).bind (·.dst) with
  | none => rfl
  | some d =>
   rw [hd] at h
   simp only at h ⊢
   rw [h d (by simp)]
def Agr (ops : Array Oper) (R : Nat) (ls : Array Bool) (Tt T : Nat) : Prop := ∀ t, (∀ i o, ops[i]? = some o → dn ls i = false → softX R (i, o) = true → o.dst ≠ some t) → getW Tt t = getW T t
theorem z6q {a b : Option Blk} {k m c : Nat} (h : sameBox a b = true) (ha : a = some (.box k m c)) : b = some (.box k m c) := by
 subst ha
 cases b with
 | none => cases h
 | some k2 =>
  cases k2 with
  | box k2 m2 c2 =>
   have h : sel (Nat.beq k k2) (sel (Nat.beq m m2) (Nat.beq c c2) false) false = true := h
   rw [z8, z8] at h
   split at h
   ·rename_i q1
    split at h
    ·rename_i q2
     have q3 := Nat.eq_of_beq_eq_true h
     subst q1; subst q2; subst q3
     rfl
    ·cases h
   ·cases h
  | _ => cases h
theorem z90 {a b : Option Blk} {p q s d lo hi : Nat} (h : sameBox a b = true) (ha : a = some (.poly p q s d lo hi)) : b = some (.poly p q s d lo hi) := by
 subst ha
 cases b with
 | none => cases h
 | some k2 =>
  cases k2 with
  | poly p' q' s' d' lo' hi' =>
   have h : sel (Nat.beq p p') (sel (Nat.beq q q') (sel (Nat.beq s s') (sel (Nat.beq d d') (sel (Nat.beq lo lo') (Nat.beq hi hi') false) false) false) false) false = true := h
   have st : ∀ {a b : Nat} {r : Bool}, sel (Nat.beq a b) r false = true → a = b ∧ r = true := by
    intro a b r h
    rw [z8] at h
    split at h
    ·exact ⟨by assumption, h⟩
    ·cases h
   obtain ⟨q1, h⟩ := st h
   obtain ⟨q2, h⟩ := st h
   obtain ⟨q3, h⟩ := st h
   obtain ⟨q4, h⟩ := st h
   obtain ⟨q5, h⟩ := st h
   have q6 := Nat.eq_of_beq_eq_true h
   subst q1; subst q2; subst q3; subst q4; subst q5; subst q6
   rfl
  | _ => cases h
theorem z9L (n : Nat) : tagOf (polyW n) = 7 ∧ xKind (payOf (polyW n)) = 0 ∧ xNum (payOf (polyW n)) = n := by
 have hp : payOf (polyW n) = 16 + 4 * n := by
  show (16 * (16 + 4 * n) + 7) / 16 = _
  omega
 refine ⟨zW _, ?_, ?_⟩
 ·rw [hp]; unfold xKind; rw [zJ, if_neg (by omega)]; show (16 + 4 * n) % 4 = 0; omega
 ·rw [hp]; show (16 + 4 * n - 16) / 4 = n; omega
theorem zdp {w : Nat} (h : tagOf w = 7) (hk : xKind (payOf w) = 0) : w = polyW (xNum (payOf w)) := by
 unfold xKind at hk
 rw [zJ] at hk
 split at hk
 ·cases hk
 ·have hm : payOf w % 4 = 0 := hk
  have e1 : payOf w = w / 16 := rfl
  have e2 : tagOf w = w % 16 := rfl
  show w = 16 * (16 + 4 * ((payOf w - 16) / 4)) + 7
  omega
theorem zcB {w p q s d lo hi : Nat} (h7 : tagOf w = 7) (h : wBox H w = some (.poly p q s d lo hi)) : ∃ id, w = polyW id ∧ tget H id = some (.poly p q s d lo hi) := by
 unfold wBox at h
 rw [z8, if_neg (by omega), z8, if_neg (by omega), z8, if_pos h7, z8] at h
 split at h
 ·rename_i hk
  exact ⟨_, zdp h7 hk, h⟩
 ·cases h
theorem zbj {dst : Option Tmp} {k : Blk} (hk : IsBox k) (hD : Dep 14 H) (hn : n < 16384) (h : dstBox nt T H (hset H n k) dst (wdOf k n) = true) :
  ∀ d, dst = some d → d < nt ∧ ∃ id, getW T d = wdOf k id ∧ tget H id = some k := by
 rintro d rfl
 unfold dstBox at h
 simp only at h
 rw [zJ] at h
 split at h
 ·rename_i hd
  rw [z8] at h
  split at h
  ·rename_i ht
   refine ⟨hd, ?_⟩
   cases k with
   | box kd m c =>
    refine ⟨payOf (getW T d), ?_⟩
    have hself : tget (hset H n (.box kd m c)) n = some (.box kd m c) := by rw [z1d hD hn, if_pos rfl]
    have e : wdOf (.box kd m c) n = if kd = 2 ∨ kd = 3 then mk 10 n else mk 6 n := rfl
    by_cases h2 : kd = 2 ∨ kd = 3
    ·have e1 : ∀ j, wdOf (.box kd m c) j = mk 10 j := fun j => by show (if kd = 2 ∨ kd = 3 then mk 10 j else mk 6 j) = _; rw [if_pos h2]
     rw [e1, zS] at ht
     have w1 : wBox (hset H n (.box kd m c)) (wdOf (.box kd m c) n) = some (.box kd m c) := by
      rw [e1]; unfold wBox
      rw [zS, z05 10 n (by omega)]; exact hself
     have w2 := z6q h w1
     unfold wBox at w2
     rw [ht] at w2
     refine ⟨?_, w2⟩
     rw [e1, ← ht]; exact wordOf _
    ·have e1 : ∀ j, wdOf (.box kd m c) j = mk 6 j := fun j => by show (if kd = 2 ∨ kd = 3 then mk 10 j else mk 6 j) = _; rw [if_neg h2]
     rw [e1, z0h] at ht
     have w1 : wBox (hset H n (.box kd m c)) (wdOf (.box kd m c) n) = some (.box kd m c) := by
      rw [e1]; unfold wBox
      rw [z0h, z05 6 n (by omega)]; exact hself
     have w2 := z6q h w1
     unfold wBox at w2
     rw [ht] at w2
     refine ⟨?_, w2⟩
     rw [e1, ← ht]; exact wordOf _
   | poly p q s d0 lo hi =>
    have hself : tget (hset H n (.poly p q s d0 lo hi)) n = some (.poly p q s d0 lo hi) := by rw [z1d hD hn, if_pos rfl]
    have e : wdOf (.poly p q s d0 lo hi) n = polyW n := rfl
    rw [e] at h ht
    have w1 : wBox (hset H n (.poly p q s d0 lo hi)) (polyW n) = some (.poly p q s d0 lo hi) := by
     obtain ⟨k1, k2, k3⟩ := z9L n
     unfold wBox
     rw [k1, k2, k3]
     exact hself
    obtain ⟨id, hw, w2⟩ := zcB (by rw [ht]; exact zW _) (z90 h w1)
    exact ⟨id, hw, w2⟩
   | _ => exact hk.elim
  ·cases h
 ·cases h
theorem z92 {dst : Option Tmp} (h : dstIs nt T dst v = true) : ∀ d, dst = some d → getW T d = v ∧ d < nt ∧ v < 2 ^ 128 := by
 rintro d rfl
 unfold dstIs at h
 simp only at h
 rw [zJ] at h
 split at h
 ·rename_i hd
  have := Nat.eq_of_beq_eq_true h
  exact ⟨this, hd, this ▸ z7B _ _⟩
 ·cases h
end
end Go.Eng
namespace Go.Eng
open Go Go.RowKit
open Go.Conc (G)
variable [E : Env] [Pd : Pad]
theorem zcC (ops : Array Oper) (fuel t : Nat) (ls : Array Bool) :
  (Region.ready .any ops ls = [] ∧ Region.linearise.go .any ops (fuel + 1) t ls [] = []) ∨
  ∃ i t', i ∈ Region.ready .any ops ls ∧ Region.linearise.go .any ops (fuel + 1) t ls [] = i :: Region.linearise.go .any ops fuel t' (ls.setIfInBounds i true) [] := by
 simp only [Region.linearise.go]
 change (_ ∧ (match (Region.ready .any ops ls)[t % (Region.ready .any ops ls).length]? with
   | some i => Region.linearise.go .any ops fuel (t / (Region.ready .any ops ls).length) (ls.setIfInBounds i true) [i]
   | none => [].reverse) = _) ∨ ∃ i t', _ ∧ (match (Region.ready .any ops ls)[t % (Region.ready .any ops ls).length]? with
   | some i => Region.linearise.go .any ops fuel (t / (Region.ready .any ops ls).length) (ls.setIfInBounds i true) [i]
   | none => [].reverse) = _
 cases hi : (Region.ready .any ops ls)[t % (Region.ready .any ops ls).length]? with
 | none =>
  left
  refine ⟨?_, rfl⟩
  cases hr : Region.ready .any ops ls with
  | nil => rfl
  | cons x xs =>
   rw [hr] at hi
   have hlt : t % (x :: xs).length < (x :: xs).length := Nat.mod_lt _ (by simp)
   simp at hi
   simp at hlt
   omega
 | some i =>
  right
  refine ⟨i, t / (Region.ready .any ops ls).length, List.mem_of_getElem? hi, ?_⟩
  simp only
  rw [linearise_go_acc, List.reverse_singleton, List.singleton_append]
section
variable {base : Nat} {H' : Trie} {n' nt T' M : Nat} {P : Program} {ops : Array Oper} {call : Nat → List Nat → Trie → Nat → OR}
structure Inv (ops : Array Oper) (M R : Nat) (ls : Array Bool) (es xs recs : List Num) : Prop where
 cov : ∀ i o, ops[i]? = some o → dn ls i = false → ((i, o) : Num) ∈ recs ∨ ((i, o) : Num) ∈ es ∨ ((i, o) : Num) ∈ xs
 esI : ∀ x ∈ es, ops[x.1]? = some x.2 ∧ dn ls x.1 = false ∧ softX R x = false
 recsI : ∀ x ∈ recs, ops[x.1]? = some x.2 ∧ softX R x = true
 xsI : ∀ x ∈ xs, ops[x.1]? = some x.2 ∧ softX R x = true ∧ ∃ e es', es = e :: es' ∧ bitE (getW M x.1) e.1 = true
 chain : chainE M es 0 = true
 dis : ∀ x ∈ recs, ∀ y ∈ xs, y.1 ≠ x.1
def Bare (ops : Array Oper) (ls : Array Bool) (T n0 : Nat) (ρ : Rho) (recs : List Num) : Prop :=
 ∀ x ∈ recs, dn ls x.1 = false → allocOp x.2.op = true → wantedE ops T x.2 = true → ρ (idE T x) = none ∧ n0 ≤ idE T x
def Dist (ops : Array Oper) (T : Nat) (recs : List Num) : Prop :=
 ∀ x ∈ recs, ∀ y ∈ recs, allocOp x.2.op = true → wantedE ops T x.2 = true → allocOp y.2.op = true → wantedE ops T y.2 = true → idE T x = idE T y → x.1 = y.1
theorem z9M {R : Nat} {x : Num} (h : softX R x = true) : Soft x.2.op := by
 unfold softX effX at h
 cases hh : hardE R x with
 | true => rw [hh] at h; cases h
 | false =>
  rw [hh, z0f] at h
  unfold effOp at h
  cases hq : quietOp x.2.op with
  | true => exact .inl hq
  | false =>
   cases ha : allocOp x.2.op with
   | true => exact .inr ha
   | false => rw [hq, ha] at h; cases h
theorem zen {R : Nat} {x : Num} (h : effX R x = true) : softX R x = false := by unfold softX; rw [h]; rfl
theorem zbk {op : Op} {T : Nat} {H H1 : Trie} {n n1 v : Nat} (ha : allocOp op = true) (h : opE P call T H n op = .ok v H1 n1) : v ≠ 0 := by
 have tg : ∀ {k : Nat}, tagOf v = k → k ≠ 0 → v ≠ 0 := fun h1 h2 h3 => by rw [h3] at h1; exact h2 h1.symm
 cases op with
 | alloc t =>
  simp only [z01, opX] at h
  rw [zf] at h
  split at h
  ·have h := z09 h
   obtain ⟨hn, hk⟩ := z0H h (by simp)
   injection hk with h1 h2 h3
   exact tg (k := 3) (by rw [← h1]; exact z0P _ _) (by decide)
  ·obtain ⟨_, _, _, _, _, h1⟩ := z5g h
   exact tg (k := 3) (by rw [h1]; exact z0P _ _) (by decide)
 | box t x =>
  simp only [z01, opX] at h
  rw [zf] at h
  split at h
  ·obtain ⟨hn, hk⟩ := z0H h (by simp)
   injection hk with h1 h2 h3
   exact tg (k := 3) (by rw [← h1]; exact z0P _ _) (by decide)
  ·obtain ⟨_, _, _, _, _, h1⟩ := z7p h
   exact tg (k := 3) (by rw [h1]; exact z0P _ _) (by decide)
 | buildSlice t len ps =>
  simp only [z01, opX] at h
  obtain ⟨e, hu, _, h⟩ := z0M h rfl (by simp)
  rw [zf] at h
  split at h
  ·have h := z09 (z09 h)
   split at h
   ·obtain ⟨hn, hk⟩ := z0H h (by simp)
    injection hk with h1 h2 h3
    exact tg (k := 4) (by rw [← h1]; exact z1e _ _ _ _ _) (by decide)
   ·cases h
  ·obtain ⟨_, _, _, _, _, h1⟩ := z2V h
   exact tg (k := 4) (by rw [h1]; exact z1e _ _ _ _ _) (by decide)
 | makeSlice t l c =>
  simp only [z01, opX] at h
  obtain ⟨e, hu, _, h⟩ := z0M h rfl (by simp)
  have h := z09 (z09 h)
  obtain ⟨_, h⟩ := z2M h (by simp)
  obtain ⟨_, h⟩ := z2M h (by simp)
  have h := z09 (z09 (z09 h))
  obtain ⟨hn, hk⟩ := z0H h (by simp)
  injection hk with h1 h2 h3
  exact tg (k := 4) (by rw [← h1]; exact z1e _ _ _ _ _) (by decide)
 | _ => cases ha
theorem z9N {a b : Option Blk} {n c g k s m : Nat} (h : sameBlk a b = true) (ha : a = some (.cells n c g k s m)) : b = some (.cells n c g k s m) := by
 subst ha
 unfold sameBlk at h
 split at h
 ·rename_i n1 c1 g1 k1 s1 m1 n2 c2 g2 k2 s2 m2 e1
  injection e1 with e1; injection e1 with e1 e2 e3 e4 e5 e6
  subst e1; subst e2; subst e3; subst e4; subst e5; subst e6
  rw [z8, z8, z8, z8, z8] at h
  split at h
  ·rename_i q1
   split at h
   ·rename_i q2
    split at h
    ·rename_i q3
     split at h
     ·rename_i q4
      split at h
      ·rename_i q5
       have q6 := Nat.eq_of_beq_eq_true h
       subst q1; subst q2; subst q3; subst q4; subst q5; subst q6
       rfl
      ·cases h
     ·cases h
    ·cases h
   ·cases h
  ·cases h
 ·cases h
theorem z5F {T : Nat} {H : Trie} {x : Num} (ha : allocOp x.2.op = true) (hd16 : Dep 14 H) (h : chkA P call nt T H x = true) :
  ∃ d H1 n1 len ch, x.2.dst = some d ∧ d < nt ∧ idE T x = blkOf (getW T d) ∧ opE P call T H (idE T x) x.2.op = .ok (getW T d) H1 n1 ∧ H1 = hset H (idE T x) (.cells len ch (idE T x + 1) (idE T x) (idE T x) len) ∧
   tget H (idE T x) = some (.cells len ch (idE T x + 1) (idE T x) (idE T x) len) ∧ getW T d ≠ 0 := by
 unfold chkA at h
 cases hdst : x.2.dst with
 | none => rw [hdst] at h; cases h
 | some d =>
  have hid : idE T x = blkOf (getW T d) := by unfold idE; rw [hdst]
  rw [hdst] at h
  simp only at h
  rw [zJ] at h
  split at h
  ·rename_i hdn
   rw [← hid] at h
   split at h
   ·rename_i w H1 n1 hop
    rw [z8] at h
    split at h
    ·rename_i hw
     subst hw
     obtain ⟨len, ch, h1, h2, h3⟩ := z6o ha hop
     refine ⟨d, H1, n1, len, ch, rfl, hdn, hid, hop, h1, ?_, ?_⟩
     ·refine z9N h ?_
      rw [h1, z1d hd16 h3, if_pos rfl]
     ·intro hz
      rw [hz] at hop
      have := zbk ha hop
      exact this rfl
    ·cases h
   ·cases h
  ·cases h
theorem zbl {o : Oper} (ha : allocOp o.op = true) (w : World) {tmps : Array Value} : Tame P (execOp (evT tmps) o) w := by
 cases hop : o.op with
 | alloc t => exact (z1b ((z0c t true (.tuple #[])).tame w)).of_run (by simp only [execOp, hop])
 | box t x => exact (z1b ((z0t t (evT tmps x)).tame w)).of_run (by simp only [execOp, hop])
 | buildSlice t len ps => exact (z1b ((zX t len (ps.map fun (i, x) => (i, evT tmps x))).tame w)).of_run (by simp only [execOp, hop])
 | makeSlice t l q => exact (z1b ((z0u t (evT tmps l) (evT tmps q)).tame w)).of_run (by simp only [execOp, hop])
 | _ => rw [hop] at ha; cases ha
theorem go_sound {R : Nat} (hcall : CallB P call) (hs : Stat ops M R) (hM : MaskOk ops M) (f : FFix) (ds : List Deferred) (k : List Item) (cs : List Frame) (n0 : Nat) : ∀ (fuel tt : Nat) (ls : Array Bool) (es xs recs : List Num) (T : Nat) (H : Trie) (n Tt : Nat) (tmps : Array Value) (ρ : Rho) (L : Look) (w : World),
  Closed ops ls → cnt ops ls ≤ fuel → Inv ops M R ls es xs recs → chkE P call nt ops T H n recs = true → Dist ops T recs → Bare ops ls T n0 ρ recs → n0 ≤ n → cont P call nt ops M es xs recs T H n = .ok T' H' n' →
  Ctx base H n ρ L w → TR ρ L nt Tt tmps → Agr ops R ls Tt T →
  ∃ ρ' L' w' tmps', Ctx base H' n' ρ' L' w' ∧ TR ρ' L' nt T' tmps' ∧ Ext ρ L ρ' L' ∧ Below base w w' ∧ Loc H n0 ρ L ρ' L' ∧ n ≤ n' ∧
   Steps P (lone (mkF f tmps ds (.inRegion ops (Region.linearise.go .any ops fuel tt ls []) :: k)) cs w) (lone (mkF f tmps' ds (.inRegion ops [] :: k)) cs w') := by
 intro fuel
 have fin : ∀ (ls : Array Bool) (es xs recs : List Num) (T : Nat) (H : Trie) (n Tt : Nat) (tmps : Array Value) (ρ : Rho) (L : Look) (w : World),
   (∀ i, i < ops.size → dn ls i = true) → Inv ops M R ls es xs recs → cont P call nt ops M es xs recs T H n = .ok T' H' n' →
   Ctx base H n ρ L w → TR ρ L nt Tt tmps → Agr ops R ls Tt T →
   ∃ ρ' L' w' tmps', Ctx base H' n' ρ' L' w' ∧ TR ρ' L' nt T' tmps' ∧ Ext ρ L ρ' L' ∧ Below base w w' ∧ Loc H n0 ρ L ρ' L' ∧ n ≤ n' ∧
   Steps P (lone (mkF f tmps ds (.inRegion ops [] :: k)) cs w) (lone (mkF f tmps' ds (.inRegion ops [] :: k)) cs w') := by
  intro ls es xs recs T H n Tt tmps ρ L w hd hI hc c ht ha
  cases es with
  | cons e es' =>
   obtain ⟨h1, h2, _⟩ := hI.esI e List.mem_cons_self
   rw [hd e.1 (Array.getElem?_eq_some_iff.1 h1).1] at h2
   cases h2
  | nil =>
   have hc' : RR.ok T H n = .ok T' H' n' := hc
   injection hc' with a1 a2 a3
   subst a1; subst a2; subst a3
   refine ⟨ρ, L, w, tmps, c, ⟨ht.1, fun t => ?_⟩, .refl _ _, Below.refl _ _, .refl _ _ _ _, Nat.le_refl _, Steps.refl _ _⟩
   rw [← ha t fun i o ho hno _ => by rw [hd i (Array.getElem?_eq_some_iff.1 ho).1] at hno; cases hno]
   exact ht.2 t
 induction fuel with
 | zero =>
  intro tt ls es xs recs T H n Tt tmps ρ L w hcl hcnt hI hch hdist hbare hn0 hc c ht ha
  have h0 : Region.linearise.go .any ops 0 tt ls [] = [] := rfl
  rw [h0]
  exact fin ls es xs recs T H n Tt tmps ρ L w (zdn hcnt) hI hc c ht ha
 | succ fuel ih =>
  intro tt ls es xs recs T H n Tt tmps ρ L w hcl hcnt hI hch hdist hbare hn0 hc c ht ha
  rcases zcC ops fuel tt ls with ⟨hr, hg⟩ | ⟨j, tt', hj, hg⟩
  ·rw [hg]
   exact fin ls es xs recs T H n Tt tmps ρ L w (zdo hs hcl hr) hI hc c ht ha
  ·obtain ⟨hjd, o, ho, hpre⟩ := (z8Z hcl j).1 hj
   have hbit : ∀ i, bitE (getW M j) i = true → dn ls i = true := fun i hb => hM ls hcl j o ho hpre i hb
   have hopd : ∀ d, (d ∈ tmpsOf o.op.operands.toList ∨ d ∈ guardT ops o) → getW Tt d = getW T d := fun d hd => ha d fun i o' ho' hno hso hdst => by
    have := hbit i (hs.reads j o d i o' ho hd ho' hso hdst)
    rw [hno] at this; cases this
   have hw : wantedE ops Tt o = wantedE ops T o := z8b fun d hd => hopd d (.inr hd)
   have hop : opE P call Tt H n o.op = opE P call T H n o.op := z8V fun x hx => z7o (fun d hd => hopd d (.inl hd)) x (by simpa using hx)
   have hcl' := hcl.set ho hpre
   have hcnt' : cnt ops (ls.setIfInBounds j true) ≤ fuel := by have := ze0 hcl ho hjd; omega
   have hjs : j < ls.size := by rw [hcl.size]; exact (Array.getElem?_eq_some_iff.1 ho).1
   have hund : ∀ i, dn (ls.setIfInBounds j true) i = false → dn ls i = false ∧ i ≠ j := by
    intro i hi
    rw [z7r hjs] at hi
    split at hi
    ·cases hi
    ·exact ⟨hi, by assumption⟩
   have hund' : ∀ i, dn ls i = false → i ≠ j → dn (ls.setIfInBounds j true) i = false := by
    intro i hi hne
    rw [z7r hjs, if_neg hne]; exact hi
   have agr1 : ∀ t, (∀ i o', ops[i]? = some o' → dn (ls.setIfInBounds j true) i = false → softX R (i, o') = true → o'.dst ≠ some t) → o.dst ≠ some t → getW Tt t = getW T t := by
    intro t h1 h2
    refine ha t fun i o' ho' hno hso => ?_
    by_cases hij : i = j
    ·subst hij; rw [ho] at ho'; injection ho' with ho'; subst ho'; exact h2
    ·exact h1 i o' ho' (hund' i hno hij) hso
   rw [hg]
   have hxund : ∀ x ∈ xs, dn ls x.1 = false := by
    intro x hx
    obtain ⟨hxo, _, e, es', he, hb⟩ := hI.xsI x hx
    cases hd : dn ls x.1 with
    | false => rfl
    | true =>
     have h1 := hM ls hcl x.1 x.2 hxo (hcl.clo _ _ hxo hd) e.1 hb
     have h2 := (hI.esI e (by rw [he]; exact List.mem_cons_self)).2.1
     rw [h1] at h2; cases h2
   rcases hI.cov j o ho hjd with hin | hin | hin
   ·-- an operation that leaves the heap alone, or one that makes a row
    have hsx := (hI.recsI _ hin).2
    have hsoft : Soft o.op := z9M hsx
    have hchk := (z1Q _ _).1 hch _ hin
    have hI' : Inv ops M R (ls.setIfInBounds j true) es xs recs := by
     refine ⟨fun i o' ho' hno => hI.cov i o' ho' (hund i hno).1, fun x hx => ?_, hI.recsI, hI.xsI, hI.chain, hI.dis⟩
     obtain ⟨a1, a2, a3⟩ := hI.esI x hx
     refine ⟨a1, hund' _ a2 ?_, a3⟩
     intro hxj
     rw [hxj, ho] at a1; injection a1 with a1
     have : x = (j, o) := by rw [a1, ← hxj]
     rw [this] at a3; rw [hsx] at a3; cases a3
    rw [zf] at hchk
    have quiet : ∀ v : Nat, ((wantedE ops Tt o = true ∧ opE P call Tt H n o.op = .ok v H n) ∨ (wantedE ops Tt o = false ∧ v = 0 ∧ H = H ∧ n = n)) → dstIs nt T o.dst v = true →
      ∃ ρ' L' w' tmps', Ctx base H' n' ρ' L' w' ∧ TR ρ' L' nt T' tmps' ∧ Ext ρ L ρ' L' ∧ Below base w w' ∧ Loc H n0 ρ L ρ' L' ∧ n ≤ n' ∧
       Steps P (lone (mkF f tmps ds (.inRegion ops (j :: Region.linearise.go .any ops fuel tt' (ls.setIfInBounds j true) []) :: k)) cs w) (lone (mkF f tmps' ds (.inRegion ops [] :: k)) cs w') := by
     intro v hv hdst
     have hdi := z92 hdst
     obtain ⟨ρ1, L1, w1, tmps1, c1, ht1, e1, b1, l1, _, hst⟩ := zcz hcall (Region.linearise.go .any ops fuel tt' (ls.setIfInBounds j true) []) f ds k cs ho c ht hv fun d hd => ⟨(hdi d hd).2.1, (hdi d hd).2.2⟩
     have ha' : Agr ops R (ls.setIfInBounds j true) (putW Tt o.dst v) T := by
      intro t ht2
      by_cases hdt : o.dst = some t
      ·rw [hdt, z4C (hdi t hdt).2.2]; exact (hdi t hdt).1.symm
      ·rw [z8a (fun d hd => (hdi d hd).2.2) hdt]; exact agr1 t ht2 hdt
     have hbare1 : Bare ops (ls.setIfInBounds j true) T n0 ρ1 recs := fun x hx hdx hax hwx => by
      obtain ⟨a1, a2⟩ := hbare x hx (hund _ hdx).1 hax hwx
      have hcx := (z1Q _ _).1 hch _ hx
      rw [hwx, z0b, hax, z0b] at hcx
      obtain ⟨_, _, _, _, _, _, _, _, _, _, hg, _⟩ := z5F hax c.agree.1 hcx
      exact ⟨(l1.bare _ (c.fresh.ltL (c.agree.2 _ _ hg)) a1).2, a2⟩
     obtain ⟨ρ2, L2, w2, tmps2, c2, ht2, e2, b2, l2, hn2, hst2⟩ := ih tt' _ es xs recs T H n _ tmps1 ρ1 L1 w1 hcl' hcnt' hI' hch hdist hbare1 hn0 hc c1 ht1 ha'
     exact ⟨ρ2, L2, w2, tmps2, c2, ht2, e1.trans e2, b1.trans b2, Loc.trans (⟨fun b hb hbn => l1.bare b (Nat.lt_of_lt_of_le hb hn0) hbn⟩ : Loc H n0 ρ L ρ1 L1) (Nat.le_refl _) l2, hn2, hst.trans hst2⟩
    split at hchk
    ·rename_i hw1
     rw [zf] at hchk
     split at hchk
     ·-- a row is made now
      rename_i hal
      obtain ⟨d, H1, n1, len, ch, hd, hdn, hid, hopT, hH1, hget, hv0⟩ := z5F hal c.agree.1 hchk
      have hid' : idE T (j, o) = blkOf (getW T d) := hid
      have hop' : opE P call Tt H (idE T (j, o)) o.op = .ok (getW T d) H1 n1 := by
       rw [show opE P call Tt H (idE T (j, o)) o.op = opE P call T H (idE T (j, o)) o.op from z8V fun x hx => z7o (fun d hd => hopd d (.inl hd)) x (by simpa using hx)]
       exact hopT
      obtain ⟨wp, hwp⟩ : ∃ wp, wp = padded (mkF f tmps ds (.inRegion ops (j :: Region.linearise.go .any ops fuel tt' (ls.setIfInBounds j true) []) :: k)) cs w := ⟨_, rfl⟩
      have cp : Ctx base H n ρ L wp := hwp ▸ c.padded _ _
      have bp : Below base w wp := hwp ▸ z0l c _ _
      obtain ⟨len', ch', cells, ty, X, hm1, hm2, hm3, hm4, hm5, hm6, hm7⟩ := makes c ht hal hop'
      generalize hgi : idE T (j, o) = i at *
      have hLi : L i = some (.cells len ch (i + 1) i i len) := c.agree.2 _ _ hget
      have hsame : len' = len ∧ ch' = ch := by
       have h1 : tget H1 i = some (.cells len ch (i + 1) i i len) := by rw [hH1, z1d c.agree.1 hm3, if_pos rfl]
       rw [hm1, z1d c.agree.1 hm3, if_pos rfl] at h1
       injection h1 with h1; injection h1 with h1 h2
       exact ⟨h1, h2⟩
      obtain ⟨rfl, rfl⟩ := hsame
      have hlt : i < n := c.fresh.ltL hLi
      obtain ⟨hρ, hn0i⟩ := hbare _ hin hjd hal hw1
      rw [hgi] at hρ hn0i
      obtain ⟨c1, e1⟩ := cp.made (w' := { wp with heap := wp.heap.push (.cells cells ty) }) hlt hρ hLi rfl hm4 hm5
      have hbs := cp.sim.bs
      have hv128 : getW T d < 2 ^ 128 := z7B _ _
      have ht1 : TR (updR ρ i (wp.heap.size, 0, cells.size)) L nt (putW Tt o.dst (getW T d)) (putT tmps o.dst (X wp.heap.size)) :=
       (ht.mono e1).put (fun d' hd' => by rw [hd] at hd'; injection hd' with hd'; subst hd'; exact ⟨hdn, hv128⟩) (hm7 _ _ _ (zU _ _ _))
      have ha' : Agr ops R (ls.setIfInBounds j true) (putW Tt o.dst (getW T d)) T := by
       intro t ht2
       by_cases hdt : o.dst = some t
       ·have : d = t := by have h5 := hd; simp only at h5; rw [hdt] at h5; injection h5 with h5; exact h5.symm
        subst this
        rw [hdt, z4C hv128]
       ·rw [z8a (fun _ _ => hv128) hdt]; exact agr1 t ht2 hdt
      have hbare1 : Bare ops (ls.setIfInBounds j true) T n0 (updR ρ i (wp.heap.size, 0, cells.size)) recs := fun x hx hdx hax hwx => by
       obtain ⟨hdx1, hdx2⟩ := hund _ hdx
       obtain ⟨a1, a2⟩ := hbare x hx hdx1 hax hwx
       refine ⟨?_, a2⟩
       rw [z1T _ _ ?_]
       ·exact a1
       ·intro heq
        exact hdx2 (hdist x hx (j, o) hin hax hwx hal hw1 (by rw [hgi]; exact heq))
      obtain ⟨ρ2, L2, w2, tmps2, c2, ht2, e2, b2, l2, hn2, hst2⟩ := ih tt' _ es xs recs T H n _ _ _ L _ hcl' hcnt' hI' hch hdist hbare1 hn0 hc c1 ht1 ha'
      refine ⟨ρ2, L2, w2, tmps2, c2, ht2, e1.trans e2, Below.trans (bp.trans (show Below base wp { wp with heap := wp.heap.push (.cells cells ty) } from ⟨rfl, rfl, rfl, by simp, fun b hb => by rw [Array.getElem?_push, if_neg (by omega)]⟩)) b2, Loc.trans (⟨fun b hb hbn => ⟨rfl, by rw [z1T _ _ (by omega)]; exact hbn⟩⟩ : Loc H n0 ρ L _ L) (Nat.le_refl _) l2, hn2, ?_⟩
      rw [z0q ht o] at hw
      rw [hw1] at hw
      subst hwp
      exact (z8R ho hw (z1H (o := o) hop') (zbl hal _) (.value (hm6 _))).trans hst2
     ·rename_i hal
      have hq : quietOp o.op = true := by
       rcases hsoft with h | h
       ·exact h
       ·exact absurd h hal
      split at hchk
      ·rename_i v H2 n2 hv
       rcases z8W hq hv with ⟨rfl, rfl⟩ | ⟨kb, hkb, rfl, rfl, hnlt⟩
       ·rw [z8, if_pos rfl] at hchk
        exact quiet v (.inl ⟨by rw [hw]; exact hw1, by rw [hop]; exact hv⟩) hchk
       ·-- a box is made: that which was made ahead serves
        rw [z8, if_neg (by omega)] at hchk
        have hv' : opE P call Tt H n o.op = .ok v (hset H n kb) (n + 1) := by rw [hop]; exact hv
        have cp : Ctx base H n ρ L (padded (mkF f tmps ds (.inRegion ops (j :: Region.linearise.go .any ops fuel tt' (ls.setIfInBounds j true) []) :: k)) cs w) := c.padded _ _
        have hT := z5B cp ht hcall.t hv'
        obtain ⟨x, hcx, hdo⟩ := zbh (cfr := mkF f tmps ds (.inRegion ops (j :: Region.linearise.go .any ops fuel tt' (ls.setIfInBounds j true) []) :: k)) (ccs := cs) cp ht hq hv'
        rcases hcx with ⟨_, hbad, _⟩ | ⟨kb', hkb', e1, _, _, rfl, hvr⟩
        ·omega
        have hkk : kb' = kb := by
         have h1 : tget (hset H n kb) n = some kb := by rw [z1d c.agree.1 hnlt, if_pos rfl]
         rw [e1, z1d c.agree.1 hnlt, if_pos rfl] at h1
         injection h1
        subst hkk
        have hdi := zbj hkb' c.agree.1 hnlt hchk
        have hst : ∃ tmps1 Tt1, TR ρ L nt Tt1 tmps1 ∧ Agr ops R (ls.setIfInBounds j true) Tt1 T ∧
          Steps P (lone (mkF f tmps ds (.inRegion ops (j :: Region.linearise.go .any ops fuel tt' (ls.setIfInBounds j true) []) :: k)) cs w) (lone (mkF f tmps1 ds (.inRegion ops (Region.linearise.go .any ops fuel tt' (ls.setIfInBounds j true) []) :: k)) cs (padded (mkF f tmps ds (.inRegion ops (j :: Region.linearise.go .any ops fuel tt' (ls.setIfInBounds j true) []) :: k)) cs w)) := by
         cases hdst : o.dst with
         | none =>
          have hw2 := hw1
          rw [← hw, z0q ht o] at hw2
          have hst := z8R ho hw2 (z1H (o := o) hv') hT hdo
          rw [hdst] at hst
          exact ⟨tmps, Tt, ht, fun t ht2 => agr1 t ht2 (by rw [hdst]; simp), hst⟩
         | some d =>
          obtain ⟨hdn, id, hid, hg⟩ := hdi d hdst
          have hlt : getW T d < 2 ^ 128 := z7B _ _
          have hx2 : VR ρ L (getW T d) x := by rw [hid]; exact hvr ρ L id (Ext0.refl _ _) (c.agree.2 _ _ hg)
          obtain ⟨tmps1, ht1, hst⟩ := zcA hcall (Region.linearise.go .any ops fuel tt' (ls.setIfInBounds j true) []) f ds k cs ho ht (by rw [hw]; exact hw1) (z1H (o := o) hv') hx2 hT hdo (fun d' hd' => by rw [hdst] at hd'; injection hd' with hd'; subst hd'; exact ⟨hdn, hlt⟩)
          refine ⟨tmps1, _, ht1, fun t ht2 => ?_, hst⟩
          by_cases hdt : o.dst = some t
          ·have : d = t := by rw [hdst] at hdt; injection hdt
           subst this
           rw [hdst, z4C hlt]
          ·rw [z8a (fun _ _ => hlt) hdt]; exact agr1 t ht2 hdt
        obtain ⟨tmps1, Tt1, ht1, ha1, hst1⟩ := hst
        have hbare1 : Bare ops (ls.setIfInBounds j true) T n0 ρ recs := fun x hx hdx hax hwx => hbare x hx (hund _ hdx).1 hax hwx
        obtain ⟨ρ2, L2, w2, tmps2, c2, ht2, e2, b2, l2, hn2, hst2⟩ := ih tt' _ es xs recs T H n _ tmps1 ρ L _ hcl' hcnt' hI' hch hdist hbare1 hn0 hc cp ht1 ha1
        exact ⟨ρ2, L2, w2, tmps2, c2, ht2, e2, (z0l c _ _).trans b2, l2, hn2, hst1.trans hst2⟩
      ·cases hchk
    ·rename_i hw1
     exact quiet 0 (.inr ⟨by rw [hw]; simpa using hw1, rfl, rfl, rfl⟩) hchk
   ·-- the next one that touches it
    cases es with
    | nil => cases hin
    | cons e es' =>
     have hje : ((j, o) : Num) = e := by
      rcases List.mem_cons.1 hin with h | h
      ·exact h
      ·obtain ⟨z, hz, hb⟩ := z6p _ _ _ hI.chain _ h
       have h1 := hbit z.1 hb
       have h2 := (hI.esI z hz).2.1
       rw [h1] at h2; cases h2
     subst hje
     have hqf := (hI.esI _ List.mem_cons_self).2.2
     have go : ∀ (v : Nat) (H1 : Trie) (n1 : Nat), ((wantedE ops Tt o = true ∧ opE P call Tt H n o.op = .ok v H1 n1) ∨ (wantedE ops Tt o = false ∧ v = 0 ∧ H1 = H ∧ n1 = n)) →
       (setD nt T o.dst v fun T2 => drawE P call nt ops M es' xs (filt (fun x => sel (bitE (getW M j) x.1) false true) recs) T2 H1 n1) = .ok T' H' n' →
       ∃ ρ' L' w' tmps', Ctx base H' n' ρ' L' w' ∧ TR ρ' L' nt T' tmps' ∧ Ext ρ L ρ' L' ∧ Below base w w' ∧ Loc H n0 ρ L ρ' L' ∧ n ≤ n' ∧
        Steps P (lone (mkF f tmps ds (.inRegion ops (j :: Region.linearise.go .any ops fuel tt' (ls.setIfInBounds j true) []) :: k)) cs w) (lone (mkF f tmps' ds (.inRegion ops [] :: k)) cs w') := by
      intro v H1 n1 hv hsd
      obtain ⟨T2, hd1, hd2, hd3⟩ := zaL hsd (by simp)
      obtain ⟨ρ1, L1, w1, tmps1, c1, ht1, e1, b1, l1, hn1, hst⟩ := zcz hcall (Region.linearise.go .any ops fuel tt' (ls.setIfInBounds j true) []) f ds k cs ho c ht hv fun d hd => ⟨(hd3 d hd).2.1, (hd3 d hd).2.2⟩
      obtain ⟨T3, H3, n3, xs1, recs1, news, p1, p2, p3, p4, p5, p6, pA, pD⟩ := z8X (fun x hx => z9M (hI.xsI x hx).2.1) hd1
      obtain ⟨L3, c3, e3, f3⟩ := pA.2 _ _ _ _ c1
      have hI' : Inv ops M R (ls.setIfInBounds j true) es' xs1 recs1 := by
       refine ⟨fun i o' ho' hno => ?_, fun x hx => ?_, fun x hx => ?_, fun x hx => ?_, zbi _ _ (z7q hI.chain), fun x hx y hy => ?_⟩
       ·obtain ⟨hno', hne⟩ := hund i hno
        have := hI.cov i o' ho' hno'
        rcases this with h | h | h
        ·have hb : bitE (getW M j) i ≠ true := fun hb => by have := hbit i hb; rw [hno'] at this; cases this
         rcases p3 (i, o') (.inl ((z0C _ _ _).2 ⟨h, by simp [hb, z0f]⟩)) with h | h
         ·exact .inl h
         ·exact .inr (.inr h)
        ·rcases List.mem_cons.1 h with h | h
         ·injection h with h1 h2; exact absurd h1 hne
         ·exact .inr (.inl h)
        ·rcases p3 (i, o') (.inr h) with h | h
         ·exact .inl h
         ·exact .inr (.inr h)
       ·obtain ⟨a1, a2, a3⟩ := hI.esI x (List.mem_cons_of_mem _ hx)
        refine ⟨a1, hund' _ a2 ?_, a3⟩
        intro hxj
        obtain ⟨z, hz, hb⟩ := z6p _ _ _ hI.chain _ hx
        rw [hxj] at hb
        have h1 := hbit z.1 hb
        have h2 := (hI.esI z hz).2.1
        rw [h1] at h2; cases h2
       ·rcases p4 x hx with h | h
        ·exact hI.recsI x ((z0C _ _ _).1 h).1
        ·exact ⟨(hI.xsI x h.1).1, (hI.xsI x h.1).2.1⟩
       ·obtain ⟨h1, h2⟩ := p5 x hx
        exact ⟨(hI.xsI x h1).1, (hI.xsI x h1).2.1, h2⟩
       ·rcases p4 x hx with h | ⟨_, h⟩
        ·exact hI.dis x ((z0C _ _ _).1 h).1 y (p5 y hy).1
        ·exact pD x h y hy
      have ha' : Agr ops R (ls.setIfInBounds j true) (putW Tt o.dst v) T3 := by
       intro t ht2
       have h3 : getW T3 t = getW T2 t := p6 t fun x hx => by
        refine ht2 x.1 x.2 (hI.xsI x hx).1 (hund' _ (hxund x hx) ?_) (hI.xsI x hx).2.1
        intro hxj
        have h1 := (hI.xsI x hx).2.1
        have h2 := (hI.xsI x hx).1
        rw [hxj, ho] at h2; injection h2 with h2
        have h3 : x = (j, o) := by rw [h2, ← hxj]
        rw [h3, hqf] at h1; cases h1
       rw [h3]
       by_cases hdt : o.dst = some t
       ·rw [hdt, z4C (hd3 t hdt).2.2]; exact (hd3 t hdt).1.symm
       ·rw [z8a (fun d hd => (hd3 d hd).2.2) hdt, hd2 t hdt]; exact agr1 t ht2 hdt
      have hbare1 : Bare ops (ls.setIfInBounds j true) T3 n0 ρ1 recs1 := fun x hx hdx hax hwx => by
       obtain ⟨hdx1, hdx2⟩ := hund _ hdx
       rcases p4 x hx with h | ⟨h, hnew⟩
       ·have hx0 := ((z0C _ _ _).1 h).1
        have hxo := (hI.recsI x hx0).1
        obtain ⟨d, hd, hsole⟩ := hs.sole x.1 x.2 hxo hax
        have hT : getW T3 d = getW T d := by
         have h3 : getW T3 d = getW T2 d := p6 d fun y hy hyd => by
          have hyo := (hI.xsI y hy).1
          exact hI.dis x hx0 y hy (hsole y.1 y.2 hyo hyd)
         have hdo : o.dst ≠ some d := fun hod => hdx2 (hsole j o ho hod).symm
         rw [h3, hd2 d hdo]
        have hidT : idE T3 x = idE T x := by unfold idE; rw [hd]; simp only; rw [hT]
        have hcx3 := (z1Q _ _).1 p1.chk _ hx
        rw [hwx, z0b, hax, z0b] at hcx3
        obtain ⟨d', _, _, _, _, hd', _, _, _, _, _, hne⟩ := z5F hax c3.agree.1 hcx3
        rw [hd] at hd'; injection hd' with hd'; subst hd'
        rw [hT] at hne
        have hcx := (z1Q _ _).1 hch _ hx0
        cases hwT : wantedE ops T x.2 with
        | false =>
         rw [hwT, z0f] at hcx
         exact absurd (z92 hcx d hd).1 hne
        | true =>
         rw [hwT, z0b, hax, z0b] at hcx
         obtain ⟨a1, a2⟩ := hbare x hx0 hdx1 hax hwT
         obtain ⟨_, _, _, _, _, _, _, _, _, _, hg, _⟩ := z5F hax c.agree.1 hcx
         rw [hidT]
         exact ⟨(l1.bare _ (c.fresh.ltL (c.agree.2 _ _ hg)) a1).2, a2⟩
       ·have hge := p1.news x hnew hax hwx
        exact ⟨(c1.fresh _ hge).2, Nat.le_trans hn0 (Nat.le_trans hn1 hge)⟩
      obtain ⟨ρ2, L2, w2, tmps2, c2, ht2, e2, b2, l2, hn2, hst2⟩ := ih tt' _ es' xs1 recs1 T3 H3 n3 _ tmps1 ρ1 L3 w1 hcl' hcnt' hI' p1.chk p1.dist hbare1 (Nat.le_trans hn0 (Nat.le_trans hn1 pA.1)) p2 c3 (ht1.mono e3) ha'
      refine ⟨ρ2, L2, w2, tmps2, c2, ht2, (e1.trans e3).trans e2, b1.trans b2, ?_, Nat.le_trans hn1 (Nat.le_trans pA.1 hn2), hst.trans hst2⟩
      refine Loc.trans (⟨fun b hb hbn => ?_⟩ : Loc H n0 ρ L ρ1 L3) (Nat.le_refl _) l2
      obtain ⟨q1, q2⟩ := l1.bare b (Nat.lt_of_lt_of_le hb hn0) hbn
      exact ⟨(f3 b (Nat.lt_of_lt_of_le hb (Nat.le_trans hn0 hn1))).trans q1, q2⟩
     have hc' : sel (wantedE ops T o)
       (match opE P call T H n o.op with | .ok v H' n' => setD nt T o.dst v fun T2 => drawE P call nt ops M es' xs (filt (fun x => sel (bitE (getW M j) x.1) false true) recs) T2 H' n' | .bad q => .bad q)
       (setD nt T o.dst 0 fun T2 => drawE P call nt ops M es' xs (filt (fun x => sel (bitE (getW M j) x.1) false true) recs) T2 H n) = .ok T' H' n' := hc
     rw [zf] at hc'
     split at hc'
     ·rename_i hw1
      split at hc'
      ·rename_i v H1 n1 hv
       exact go v H1 n1 (.inl ⟨by rw [hw]; exact hw1, by rw [hop]; exact hv⟩) hc'
      ·cases hc'
     ·rename_i hw1
      exact go 0 H n (.inr ⟨by rw [hw]; simpa using hw1, rfl, rfl, rfl⟩) hc'
   ·obtain ⟨_, _, e, es', he, hb⟩ := hI.xsI _ hin
    have h1 := hbit e.1 hb
    have h2 := (hI.esI e (by rw [he]; exact List.mem_cons_self)).2.1
    rw [h1] at h2; cases h2
theorem zdq {f : FFix} {tmps : Array Value} {ds : List Deferred} {k : List Item} {cs : List Frame} {w : World} {id : Nat} (hm : P.follows .mixedOrders = true) :
  Steps P (lone (mkF f tmps ds (.code (.region id ops true) :: k)) cs w)
   (lone (mkF f tmps ds (.inRegion ops (Region.linearise.go .any ops ops.size ((padded (mkF f tmps ds (.code (.region id ops true) :: k)) cs w).tape (padded (mkF f tmps ds (.code (.region id ops true) :: k)) cs w).drawn (.order f.fn id)) (Array.replicate ops.size false) []) :: k)) cs
    { padded (mkF f tmps ds (.code (.region id ops true) :: k)) cs w with drawn := (padded (mkF f tmps ds (.code (.region id ops true) :: k)) cs w).drawn + 1 }) := by
 refine .one (.op _ _ _ _ _ _ ?_)
 generalize padded (mkF f tmps ds (.code (.region id ops true) :: k)) cs w = wp
 intro hv W hR
 refine ⟨{ W with drawn := W.drawn + 1 }, #[], ?_, ⟨hR.size, hR.alike, hR.os, hR.tape, hR.output, by simp [hR.drawn]⟩, hv, Nat.le_refl _, ⟨rfl, rfl, rfl⟩, fun _ _ _ => ⟨rfl, rfl⟩, by simp⟩
 have e : W.tape W.drawn (.order f.fn id) = wp.tape wp.drawn (.order f.fn id) := by rw [hR.tape, hR.drawn]
 rw [← e]
 simp [stepG, stepG.exec, mkF, G, choose, Sem.run, Question.forced, Question.cut, Region.schedule, hm, Region.linearise]
theorem z9O (hcall : CallB P call) (f : FFix) (ds : List Deferred) (k : List Item) (cs : List Frame) {T n : Nat} {H : Trie} {tmps : Array Value} {ρ : Rho} {L : Look} {w : World} (h : drawR P call nt ops T H n = .ok T' H' n') (c : Ctx base H n ρ L w) (ht : TR ρ L nt T tmps) :
  P.follows .mixedOrders = true ∧ ∀ tt, ∃ ρ' L' w' tmps', Ctx base H' n' ρ' L' w' ∧ TR ρ' L' nt T' tmps' ∧ Ext ρ L ρ' L' ∧ Below base w w' ∧ Loc H n ρ L ρ' L' ∧ n ≤ n' ∧
   Steps P (lone (mkF f tmps ds (.inRegion ops (Region.linearise.go .any ops ops.size tt (Array.replicate ops.size false) []) :: k)) cs w) (lone (mkF f tmps' ds (.inRegion ops [] :: k)) cs w') := by
 unfold drawR at h
 simp only at h
 rw [zf] at h
 split at h
 ·rename_i h1
  rw [zf] at h1
  split at h1
  ·rename_i hm
   refine ⟨hm, fun tt => ?_⟩
   obtain ⟨hs, hch⟩ := zdZ h1
   obtain ⟨T1, H1, n1, xs1, recs1, news, p1, p2, p3, p4, p5, p6, pA, pD⟩ := z8X (fun x hx => by
    have h5 := ((z0C _ _ _).1 hx).2
    exact z9M (R := readsE ops (idxE ops.toList 0)) h5) h
   obtain ⟨L1, c1, e1, f1⟩ := pA.2 _ _ _ _ c
   have hdn : ∀ i, dn (Array.replicate ops.size false) i = false := by
    intro i
    unfold dn
    by_cases hi : i < ops.size
    ·simp [Array.getD, hi]
    ·simp [Array.getD, hi]
   have hcl : Closed ops (Array.replicate ops.size false) := ⟨by simp, fun i o ho hd => by rw [hdn] at hd; cases hd⟩
   have hidx : ∀ i o, ((i, o) : Num) ∈ idxE ops.toList 0 ↔ ops[i]? = some o := by
    intro i o
    rw [z5E]
    constructor
    ·rintro ⟨j, h1, h2⟩; simp at h1 h2; rw [h2]; exact h1
    ·intro h; exact ⟨i, by simpa using h, by simp⟩
   have main : ∃ ρ' L' w' tmps', Ctx base H' n' ρ' L' w' ∧ TR ρ' L' nt T' tmps' ∧ Ext ρ L1 ρ' L' ∧ Below base w w' ∧ Loc H1 n ρ L1 ρ' L' ∧ n1 ≤ n' ∧
     Steps P (lone (mkF f tmps ds (.inRegion ops (Region.linearise.go .any ops ops.size tt (Array.replicate ops.size false) []) :: k)) cs w) (lone (mkF f tmps' ds (.inRegion ops [] :: k)) cs w') := by
    refine go_sound hcall hs (maskOk ops) f ds k cs n ops.size tt _ _ xs1 recs1 T1 H1 n1 T tmps ρ L1 w hcl ?_ ?_ p1.chk p1.dist ?_ pA.1 p2 c1 (ht.mono e1) ?_
    ·unfold cnt; exact Nat.le_trans List.countP_le_length (by simp)
    ·refine ⟨fun i o ho _ => ?_, fun x hx => ?_, fun x hx => ?_, fun x hx => ?_, hch, fun x hx y hy => ?_⟩
     ·cases hq : effX (readsE ops (idxE ops.toList 0)) (i, o) with
      | false =>
       rcases p3 (i, o) (.inr ((z0C _ _ _).2 ⟨(hidx i o).2 ho, by unfold softX; rw [hq]; rfl⟩)) with h | h
       ·exact .inl h
       ·exact .inr (.inr h)
      | true => exact .inr (.inl ((z0C _ _ _).2 ⟨(hidx i o).2 ho, hq⟩))
     ·obtain ⟨a, b⟩ := (z0C _ _ _).1 hx
      exact ⟨(hidx _ _).1 a, hdn _, zen b⟩
     ·rcases p4 x hx with h | ⟨h, _⟩
      ·cases h
      ·obtain ⟨a, b⟩ := (z0C _ _ _).1 h
       exact ⟨(hidx _ _).1 a, b⟩
     ·obtain ⟨h1, h2⟩ := p5 x hx
      obtain ⟨a, b⟩ := (z0C _ _ _).1 h1
      exact ⟨(hidx _ _).1 a, b, h2⟩
     ·rcases p4 x hx with h | ⟨_, h⟩
      ·cases h
      ·exact pD x h y hy
    ·intro x hx _ hax hwx
     rcases p4 x hx with h | ⟨_, h⟩
     ·cases h
     ·have hge := p1.news x h hax hwx
      exact ⟨(c.fresh _ hge).2, hge⟩
    ·intro t ht2
     exact (p6 t fun x hx => by
      obtain ⟨a, b⟩ := (z0C _ _ _).1 hx
      exact ht2 x.1 x.2 ((hidx _ _).1 a) (hdn _) b).symm
   obtain ⟨ρ', L', w', tmps', c', ht', e', b', l', hn', hst⟩ := main
   refine ⟨ρ', L', w', tmps', c', ht', e1.trans e', b', ⟨fun b hb hbn => ?_⟩, Nat.le_trans pA.1 hn', hst⟩
   obtain ⟨q1, q2⟩ := l'.bare b hb hbn
   exact ⟨q1.trans (f1 b hb), q2⟩
  ·cases h1
 ·cases h
end
end Go.Eng
