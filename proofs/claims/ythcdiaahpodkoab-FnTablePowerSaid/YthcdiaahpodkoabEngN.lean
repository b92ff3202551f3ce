/- Steps of the machine, and regions. -/
import Derived.Test.YthcdiaahpodkoabEngMb
namespace Go.Eng
set_option linter.unusedSectionVars false
set_option linter.unusedSimpArgs false
set_option linter.unusedVariables false
open Go Go.RowKit
variable [E : Env]

structure FFix where
  fn : FuncId
  kind : CallKind
  ro : Option Nat

def mkF (f : FFix) (tmps : Array Value) (ds : List Deferred) (todo : List Item) : Frame :=
  { fn := f.fn, tmps := tmps, todo := todo, defers := ds, mode := .run, kind := f.kind, roundOf := f.ro }

theorem mkF_eval (f : FFix) (tmps : Array Value) (ds : List Deferred) (todo : List Item) : (mkF f tmps ds todo).eval = evT tmps := by
  funext x; cases x <;> rfl

def putT (tmps : Array Value) (dst : Option Tmp) (x : Value) : Array Value := match dst with | some d => tmps.setIfInBounds d x | none => tmps

section
variable {P : Program} {f : FFix} {tmps : Array Value} {ds : List Deferred} {k : List Item} {cs : List Frame} {w w' : World} {ops : Array Oper} {o : Oper} {fr0 : Frame}

theorem finish_mkF (i : Nat) (rest : List Nat) (x : Value) (ho : ops[i]? = some o) :
    (mkF f tmps ds (.inRegion ops (i :: rest) :: k)).finish x = mkF f (putT tmps o.dst x) ds (.inRegion ops rest :: k) := by
  unfold mkF Frame.finish putT
  simp only [ho, Option.bind_some]
  cases o.dst <;> rfl

theorem st_skip : Steps P (lone (mkF f tmps ds (.code .skip :: k)) cs w) (lone (mkF f tmps ds k) cs w) := .one (step_lone_go (by simp [stepG, stepG.exec, mkF]))
theorem st_label {l : Nat} : Steps P (lone (mkF f tmps ds (.code (.label l) :: k)) cs w) (lone (mkF f tmps ds k) cs w) := .one (step_lone_go (by simp [stepG, stepG.exec, mkF]))
theorem st_inBlock {id : Nat} : Steps P (lone (mkF f tmps ds (.inBlock id :: k)) cs w) (lone (mkF f tmps ds k) cs w) := .one (step_lone_go (by simp [stepG, stepG.exec, mkF]))
theorem st_inScope {b : Code} : Steps P (lone (mkF f tmps ds (.inScope b :: k)) cs w) (lone (mkF f tmps ds k) cs w) := .one (step_lone_go (by simp [stepG, stepG.exec, mkF]))
theorem st_seq {a b : Code} : Steps P (lone (mkF f tmps ds (.code (.seq a b) :: k)) cs w) (lone (mkF f tmps ds (.code a :: .code b :: k)) cs w) := .one (step_lone_go (by simp [stepG, stepG.exec, mkF]))
theorem st_cond {c : Operand} {a b : Code} {t : Bool} (h : evT tmps c = .bool t) : Steps P (lone (mkF f tmps ds (.code (.cond c a b) :: k)) cs w) (lone (mkF f tmps ds (.code (if t then a else b) :: k)) cs w) :=
  .one (step_lone_go (by
    have he := mkF_eval f tmps ds (.code (.cond c a b) :: k)
    simp only [mkF] at he
    simp [stepG, stepG.exec, mkF, he, h]))
theorem st_block {id : Nat} {b : Code} : Steps P (lone (mkF f tmps ds (.code (.block id b) :: k)) cs w) (lone (mkF f tmps ds (.code b :: .inBlock id :: k)) cs w) := .one (step_lone_go (by simp [stepG, stepG.exec, mkF]))
theorem st_scope {b : Code} : Steps P (lone (mkF f tmps ds (.code (.scope b) :: k)) cs w) (lone (mkF f tmps ds (.code b :: .inScope b :: k)) cs w) := .one (step_lone_go (by simp [stepG, stepG.exec, mkF]))
theorem st_loop {b : Code} : Steps P (lone (mkF f tmps ds (.code (.loop b) :: k)) cs w) (lone (mkF f tmps ds (.code b :: .inLoop b :: k)) cs w) := .one (step_lone_go (by simp [stepG, stepG.exec, mkF]))
theorem st_inLoop {b : Code} : Steps P (lone (mkF f tmps ds (.inLoop b :: k)) cs w) (lone (mkF f tmps ds (.code b :: .inLoop b :: k)) cs w) := .one (step_lone_go (by simp [stepG, stepG.exec, mkF]))
theorem st_exit {id : Nat} {k' : List Item} (h : exitTo id k = some k') : Steps P (lone (mkF f tmps ds (.code (.exit id) :: k)) cs w) (lone (mkF f tmps ds k') cs w) :=
  .one (step_lone_go (by simp [stepG, stepG.exec, mkF, h]))
theorem st_region {id : Nat} : Steps P (lone (mkF f tmps ds (.code (.region id ops false) :: k)) cs w) (lone (mkF f tmps ds (.inRegion ops (List.range ops.size) :: k)) cs w) :=
  .one (step_lone_go (by simp [stepG, stepG.exec, mkF]))
theorem st_regionEnd : Steps P (lone (mkF f tmps ds (.inRegion ops [] :: k)) cs w) (lone (mkF f tmps ds k) cs w) := .one (step_lone_go (by simp [stepG, stepG.exec, mkF]))

theorem st_opSkip {i : Nat} {rest : List Nat} (ho : ops[i]? = some o) (hw : Region.wanted o (yielded ops tmps) = false) :
    Steps P (lone (mkF f tmps ds (.inRegion ops (i :: rest) :: k)) cs w) (lone (mkF f (putT tmps o.dst Go.undef) ds (.inRegion ops rest :: k)) cs w) := by
  rw [← finish_mkF i rest Go.undef ho]
  exact .one (step_lone_go (by simp [stepG, stepG.exec, mkF, ho, hw]))

def notDefer (op : Op) : Bool := match op with | .defer _ => false | _ => true

theorem stepG_opr {i : Nat} {rest : List Nat} (ho : ops[i]? = some o) (hw : Region.wanted o (yielded ops tmps) = true) (hd : notDefer o.op = true) :
    stepG P true { frame := mkF f tmps ds (.inRegion ops (i :: rest) :: k), callers := cs, status := .running, dying := none } w =
      stepG.apply P true (mkF f tmps ds (.inRegion ops (i :: rest) :: k)) cs none (execOp (evT tmps) o) w := by
  have he := mkF_eval f tmps ds (.inRegion ops (i :: rest) :: k)
  simp only [mkF] at he
  have : ∀ l c, ¬ (f.ro = some l ∧ o.op = .defer c) := fun l c ⟨_, h2⟩ => by rw [h2] at hd; cases hd
  cases hr : f.ro with
  | none => simp [stepG, stepG.exec, stepG.oper, Frame.oper?, mkF, ho, hw, hr] at he ⊢; rw [he]
  | some l =>
    cases hop : o.op with
    | defer c => rw [hop] at hd; cases hd
    | _ => simp [stepG, stepG.exec, stepG.oper, Frame.oper?, mkF, ho, hw, hr, hop] at he ⊢; rw [he]

/-- What an operation's doing makes of the frame. -/
theorem st_apply {it : Item} {s : Sem Next} {x : Value} (hd : Does P s w x w' (mkF f tmps ds (it :: k)) cs) (hit : ∀ a b c d, it ≠ .call a b c d) {w0 : World}
    (hg : (stepG P true { frame := fr0, callers := cs, status := .running, dying := none } w0).bare = (stepG.apply P true (mkF f tmps ds (it :: k)) cs none s w).bare) :
    Steps P (lone fr0 cs w0) (lone ((mkF f tmps ds (it :: k)).finish x) cs w') := by
  cases hd with
  | value h => exact .one (step_lone_go (by rw [hg]; simp [stepG.apply, h]))
  | skip h hx => subst hx; exact .one (step_lone_go (by rw [hg]; simp [stepG.apply, h]))
  | enter f args w1 h hr =>
    refine .trans (.one ?_) hr
    refine step_lone_go ?_
    rw [hg]; simp only [stepG.apply, Sem.runT_eq, h, if_true, GStep.bare_after]
    cases it with
    | call a b c d => exact absurd rfl (hit _ _ _ _)
    | _ => rfl
  | round l f tmps assign body w1 h hr =>
    refine .trans (.one ?_) hr
    refine step_lone_go ?_
    rw [hg]; simp only [stepG.apply, Sem.runT_eq, h, if_true, GStep.bare_after]
    rfl

theorem st_op {i : Nat} {rest : List Nat} {x : Value} (ho : ops[i]? = some o) (hw : Region.wanted o (yielded ops tmps) = true) (hd : notDefer o.op = true) (h : Does P (execOp (evT tmps) o) w x w' (mkF f tmps ds (.inRegion ops (i :: rest) :: k)) cs) :
    Steps P (lone (mkF f tmps ds (.inRegion ops (i :: rest) :: k)) cs w) (lone (mkF f (putT tmps o.dst x) ds (.inRegion ops rest :: k)) cs w') := by
  rw [← finish_mkF i rest x ho]
  exact st_apply h (by intros; simp) (by rw [stepG_opr ho hw hd])
end

section
variable {base : Nat} {H H' : Trie} {n n' nt T T' v : Nat} {ρ : Rho} {L : Look} {w : World} {P : Program} {tmps : Array Value} {ops : Array Oper} {call : Nat → List Nat → Trie → Nat → OR}

theorem opE_notDefer {o : Oper} {op : Op} (h : opE P call T H n op = .ok v H' n') : notDefer op = true := by
  cases op <;> first | rfl | cases h

theorem VR.word_bool {w : Nat} {b : Bool} (h : VR ρ L w (.bool b)) : w = wB b := by cases h; rfl
theorem wB_inj (a b : Bool) : wB a = wB b ↔ a = b := by cases a <;> cases b <;> decide

theorem wanted_sound (ht : TR ρ L nt T tmps) (o : Oper) : wantedE ops T o = Region.wanted o (yielded ops tmps) := by
  unfold wantedE Region.wanted
  cases hg : o.guard with
  | none => rfl
  | some jw =>
    obtain ⟨j, want⟩ := jw
    simp only
    unfold yielded
    cases hd : (ops[j]?).bind (·.dst) with
    | none => simp
    | some d =>
      simp only [Option.bind_some]
      rw [nbeq]
      have hv := ht.2 d
      by_cases hds : d < tmps.size
      · have e : tmps.getD d Go.undef = tmps[d] := by simp [Array.getD, hds]
        rw [e] at hv
        have e2 : tmps[d]? = some tmps[d] := by simp [hds]
        rw [e2]
        cases hx : tmps[d] with
        | bool b =>
          rw [hx] at hv
          have hw : getW T d = wB b := hv.word_bool
          rw [hw]
          simp only
          rw [show (some b == some want) = (b == want) from by cases b <;> cases want <;> rfl]
          by_cases hbw : b = want
          · simp [hbw]
          · have : ¬ wB b = wB want := fun h => hbw ((wB_inj _ _).1 h)
            simp [hbw, this]
        | _ =>
          rw [hx] at hv
          have hne : ¬ getW T d = wB want := by
            intro h
            obtain ⟨b', _, h4⟩ := hv.bool_inv (by rw [h]; exact tag_wB _)
            cases h4
          simp [hne]
      · have e : tmps.getD d Go.undef = Go.undef := by simp [Array.getD, hds]
        rw [e] at hv
        have e2 : tmps[d]? = none := Array.getElem?_eq_none (Nat.le_of_not_lt hds)
        rw [e2]
        have hne : ¬ getW T d = wB want := by
          intro h
          obtain ⟨b', _, h4⟩ := hv.bool_inv (by rw [h]; exact tag_wB _)
          cases h4
        simp [hne]

theorem setD_sound {dst : Option Tmp} {k : Nat → RR} {r : RR} {x : Value} (ht : TR ρ L nt T tmps) (hx : VR ρ L v x) (h : setD nt T dst v k = r) (hr : ∀ q, r ≠ .bad q) : ∃ T', k T' = r ∧ TR ρ L nt T' (putT tmps dst x) := by
  unfold setD at h
  cases dst with
  | none => exact ⟨T, h, ht⟩
  | some d =>
    simp only at h
    rw [sel_ltb] at h
    split at h
    · rename_i hd
      rw [sel_ltb] at h
      split at h
      · rename_i hv
        exact ⟨_, h, ht.set hd hv hx⟩
      · exact absurd h.symm (hr _)
    · exact absurd h.symm (hr _)

/-- A region that is run in its text's order. -/
theorem regE_sound (hcall : CallS P call) (f : FFix) (ds : List Deferred) (k : List Item) (cs : List Frame) : ∀ (l : List Oper) (i T : Nat) (H : Trie) (n : Nat) (tmps : Array Value) (ρ : Rho) (L : Look) (w : World), (∀ j, l[j]? = ops[i + j]?) →
    regE P call nt ops l T H n = .ok T' H' n' → Ctx base H n ρ L w → TR ρ L nt T tmps →
    ∃ ρ' L' w' tmps', Ctx base H' n' ρ' L' w' ∧ TR ρ' L' nt T' tmps' ∧ Ext ρ L ρ' L' ∧ Below base w w' ∧ Loc H n ρ L ρ' L' ∧ n ≤ n' ∧
      Steps P (lone (mkF f tmps ds (.inRegion ops (List.range' i l.length) :: k)) cs w) (lone (mkF f tmps' ds (.inRegion ops [] :: k)) cs w')
  | [], i, T, H, n, tmps, ρ, L, w, hl, h, c, ht => by
    have e : regE P call nt ops [] T H n = .ok T H n := rfl
    rw [e] at h; injection h with h1 h2 h3
    subst h1; subst h2; subst h3
    exact ⟨ρ, L, w, tmps, c, ht, .refl _ _, Below.refl _ _, .refl _ _ _ _, Nat.le_refl _, Steps.refl _ _⟩
  | o :: l, i, T, H, n, tmps, ρ, L, w, hl, h, c, ht => by
    have e : regE P call nt ops (o :: l) T H n = sel (wantedE ops T o)
      (match opE P call T H n o.op with | .ok v H' n' => setD nt T o.dst v fun T' => regE P call nt ops l T' H' n' | .bad q => .bad q)
      (setD nt T o.dst 0 fun T' => regE P call nt ops l T' H n) := rfl
    rw [e, wanted_sound ht o] at h
    have ho : ops[i]? = some o := by have := hl 0; simpa using this.symm
    have hl' : ∀ j, l[j]? = ops[i + 1 + j]? := fun j => by have := hl (j + 1); simpa [Nat.add_assoc, Nat.add_comm 1 j] using this
    have hrange : List.range' i (o :: l).length = i :: List.range' (i + 1) l.length := by simp [List.range'_succ]
    cases hw : Region.wanted o (yielded ops tmps) with
    | true =>
      rw [hw, sel_true] at h
      split at h
      · rename_i v H1 n1 hop
        obtain ⟨ρ1, L1, w1, x, c1, e1, b1, l1, hn1, hv, hdo⟩ := opE_sound (cfr := mkF f tmps ds (.inRegion ops (i :: List.range' (i + 1) l.length) :: k)) (ccs := cs) c ht hcall hop
        obtain ⟨T1, h1, ht1⟩ := setD_sound (ht.mono e1) hv h (by simp)
        obtain ⟨ρ2, L2, w2, tmps2, c2, ht2, e2, b2, l2, hn2, hst⟩ := regE_sound hcall f ds k cs l (i + 1) T1 H1 n1 _ ρ1 L1 w1 hl' h1 c1 ht1
        refine ⟨ρ2, L2, w2, tmps2, c2, ht2, e1.trans e2, b1.trans b2, l1.trans hn1 l2, Nat.le_trans hn1 hn2, ?_⟩
        rw [hrange]
        exact (st_op ho hw (opE_notDefer (o := o) hop) hdo).trans hst
      · cases h
    | false =>
      rw [hw, sel_false] at h
      obtain ⟨T1, h1, ht1⟩ := setD_sound (x := Go.undef) ht .undef h (by simp)
      obtain ⟨ρ2, L2, w2, tmps2, c2, ht2, e2, b2, l2, hn2, hst⟩ := regE_sound hcall f ds k cs l (i + 1) T1 H n _ ρ L w hl' h1 c ht1
      refine ⟨ρ2, L2, w2, tmps2, c2, ht2, e2, b2, l2, hn2, ?_⟩
      rw [hrange]
      exact (st_opSkip ho hw).trans hst
end
end Go.Eng
