/- Part of the evaluator: O P. -/
import Derived.Test.YtadmpiidofncpaaEngNd

/- Code, but for calls and ranges over functions. -/
namespace Go.Eng
set_option linter.unusedSectionVars false
set_option linter.unusedSimpArgs false
set_option linter.unusedVariables false
open Go Go.RowKit
variable [E : Env]

/-- The marks of a function's ranges over functions, newest first; ids from m on. -/
inductive DR (ρ : Rho) (L : Look) (m : Nat) : List Nat → List Deferred → Prop
  | nil : DR ρ L m [] []
  | cons (d : Nat) (r : Nat × Nat × Nat) (D : List Nat) (ds : List Deferred) : ρ d = some r → L d = some .defr → m ≤ d → d ∉ D → d < 16384 → DR ρ L m D ds → DR ρ L m (d :: D) ({ target := .collected r.1, args := #[] } :: ds)

theorem DR.mono {ρ ρ' : Rho} {L L' : Look} {m : Nat} {D : List Nat} {ds : List Deferred} (e : Ext ρ L ρ' L') (h : DR ρ L m D ds) : DR ρ' L' m D ds := by
  induction h with
  | nil => exact .nil
  | cons d r D ds h1 h2 h3 h4 h5 _ ih => exact .cons d r D ds (e.place _ _ h1) (e.defr _ h2) h3 h4 h5 ih
theorem DR.lt {ρ : Rho} {L : Look} {m n : Nat} {D : List Nat} {ds : List Deferred} (h : DR ρ L m D ds) (hf : Fresh n ρ L) : ∀ d ∈ D, d < n := by
  induction h with
  | nil => intro d hd; cases hd
  | cons d r D ds h1 _ _ _ _ _ ih =>
    intro x hx
    rcases List.mem_cons.1 hx with rfl | hx
    · exact hf.lt h1
    · exact ih x hx

theorem DR.small {ρ : Rho} {L : Look} {m : Nat} {D : List Nat} {ds : List Deferred} (h : DR ρ L m D ds) : ∀ d ∈ D, d < 16384 := by
  induction h with
  | nil => intro d hd; cases hd
  | cons d r D ds _ _ _ _ h5 _ ih =>
    intro x hx
    rcases List.mem_cons.1 hx with rfl | hx
    · exact h5
    · exact ih x hx

def RoR (ρ : Rho) (ro : Nat) (f : FFix) : Prop := (ro = 0 ∧ f.ro = none) ∨ ∃ l r, ro = l + 1 ∧ ρ l = some r ∧ f.ro = some r.1
theorem RoR.mono {ρ ρ' : Rho} {L L' : Look} {ro : Nat} {f : FFix} (e : Ext ρ L ρ' L') (h : RoR ρ ro f) : RoR ρ' ro f := by
  rcases h with h | ⟨l, r, h1, h2, h3⟩
  · exact .inl h
  · exact .inr ⟨l, r, h1, e.place _ _ h2, h3⟩

/-- What a piece of code has come to. -/
def Mid (base nt m n : Nat) (ρ : Rho) (L : Look) (w : World) (s : St) (R : World → Array Value → List Deferred → Prop) : Prop :=
  ∃ ρ' L' w' tmps' ds', Ctx base s.H s.n ρ' L' w' ∧ TR ρ' L' nt s.T tmps' ∧ DR ρ' L' m s.D ds' ∧ Ext ρ L ρ' L' ∧ Below base w w' ∧ Loc s.H n ρ L ρ' L' ∧ n ≤ s.n ∧ R w' tmps' ds'

def Out (P : Program) (base nt m n : Nat) (ρ : Rho) (L : Look) (w : World) (M : Machine) (f : FFix) (k : List Item) (cs : List Frame) : Res → Prop
  | .bad _ => True
  | .norm s => Mid base nt m n ρ L w s fun w' tmps' ds' => Steps P M (lone (mkF f tmps' ds' k) cs w')
  | .exit i s => Mid base nt m n ρ L w s fun w' tmps' ds' => ∃ k', exitTo i k' = exitTo i k ∧ Steps P M (lone (mkF f tmps' ds' (.code (.exit i) :: k')) cs w')
  | .ret s => Mid base nt m n ρ L w s fun w' tmps' ds' => ∃ k', Steps P M (lone (mkF f tmps' ds' (.code .ret :: k')) cs w')

section
variable {P : Program} {base nt m n n1 ro fuel : Nat} {ρ ρ1 : Rho} {L L1 : Look} {w w1 : World} {f : FFix} {call : Nat → List Nat → Trie → Nat → OR}

theorem Mid.mono {s : St} {R R' : World → Array Value → List Deferred → Prop} (h : Mid base nt m n ρ L w s R) (hr : ∀ a b c, R a b c → R' a b c) : Mid base nt m n ρ L w s R' :=
  let ⟨ρ', L', w', t, d, a1, a2, a3, a4, a5, l, a6, a7⟩ := h; ⟨ρ', L', w', t, d, a1, a2, a3, a4, a5, l, a6, hr _ _ _ a7⟩
theorem Mid.after {s : St} {R : World → Array Value → List Deferred → Prop} {H0 : Trie} (e : Ext ρ L ρ1 L1) (b : Below base w w1) (lc : Loc H0 n ρ L ρ1 L1) (hn : n ≤ n1) (h : Mid base nt m n1 ρ1 L1 w1 s R) : Mid base nt m n ρ L w s R :=
  let ⟨ρ', L', w', t, d, a1, a2, a3, a4, a5, l, a6, a7⟩ := h; ⟨ρ', L', w', t, d, a1, a2, a3, e.trans a4, b.trans a5, (Loc.trans lc hn l).any, Nat.le_trans hn a6, a7⟩

/-- Steps ahead of a piece. -/
theorem Out.ahead {M M1 : Machine} {r : Res} {H0 : Trie} {k : List Item} {cs : List Frame} (e : Ext ρ L ρ1 L1) (b : Below base w w1) (lc : Loc H0 n ρ L ρ1 L1) (hn : n ≤ n1)
    (hM : Steps P M M1) (h : Out P base nt m n1 ρ1 L1 w1 M1 f k cs r) : Out P base nt m n ρ L w M f k cs r := by
  cases r with
  | bad => exact trivial
  | norm s =>
    refine (Mid.after e b lc hn h).mono ?_
    intro w' t d hs
    exact hM.trans hs
  | exit i s =>
    refine (Mid.after e b lc hn h).mono ?_
    intro w' t d ⟨k', h1, h2⟩
    exact ⟨k', h1, hM.trans h2⟩
  | ret s =>
    refine (Mid.after e b lc hn h).mono ?_
    intro w' t d ⟨k', h2⟩
    exact ⟨k', hM.trans h2⟩

/-- An ending other than the plain one, behind other code. -/
theorem Out.leaves {M M1 : Machine} {r : Res} {k k1 : List Item} {cs : List Frame} (hM : Steps P M M1) (h : Out P base nt m n ρ L w M1 f k1 cs r) :
    (∀ i s, r = .exit i s → exitTo i k1 = exitTo i k → Out P base nt m n ρ L w M f k cs (.exit i s)) ∧ (∀ s, r = .ret s → Out P base nt m n ρ L w M f k cs (.ret s)) := by
  constructor
  · rintro i s rfl hg
    refine Mid.mono h ?_
    intro w' t d ⟨k', h1, h2⟩
    exact ⟨k', h1.trans hg, hM.trans h2⟩
  · rintro s rfl
    refine Mid.mono h ?_
    intro w' t d ⟨k', h2⟩
    exact ⟨k', hM.trans h2⟩

/-- What is asked of a piece of code. -/
def Sound (P : Program) (base nt m : Nat) (ro : Nat) (f : FFix) (c : Code) (ex : St → Res) : Prop :=
  ∀ (s : St) (tmps : Array Value) (ds : List Deferred) (ρ : Rho) (L : Look) (w : World) (k : List Item) (cs : List Frame), Ctx base s.H s.n ρ L w → TR ρ L nt s.T tmps → DR ρ L m s.D ds → RoR ρ ro f → m ≤ s.n →
    Out P base nt m s.n ρ L w (lone (mkF f tmps ds (.code c :: k)) cs w) f k cs (ex s)

theorem exitTo_code (i : Nat) (c : Code) (k : List Item) : exitTo i (.code c :: k) = exitTo i k := rfl
theorem exitTo_inLoop (i : Nat) (c : Code) (k : List Item) : exitTo i (.inLoop c :: k) = exitTo i k := rfl
theorem exitTo_inScope (i : Nat) (c : Code) (k : List Item) : exitTo i (.inScope c :: k) = exitTo i k := rfl

theorem sound_seq {a b : Code} {ea eb : St → Res} (ha : Sound P base nt m ro f a ea) (hb : Sound P base nt m ro f b eb) : Sound P base nt m ro f (.seq a b) fun s => (ea s).thenE eb := by
  intro s tmps ds ρ L w k cs c ht hd hro hm
  show Out P base nt m s.n ρ L w _ f k cs ((ea s).thenE eb)
  have h := ha s tmps ds ρ L w (.code b :: k) cs c ht hd hro hm
  have hl := Out.leaves (k := k) (M := lone (mkF f tmps ds (.code (.seq a b) :: k)) cs w) st_seq h
  cases hr : ea s with
  | bad => exact trivial
  | norm s1 =>
    rw [hr] at h
    obtain ⟨ρ1, L1, w1, t1, d1, c1, ht1, hd1, e1, b1, l1, n1, h1⟩ := h
    have h2 := hb s1 t1 d1 ρ1 L1 w1 k cs c1 ht1 hd1 (hro.mono e1) (Nat.le_trans hm n1)
    exact Out.ahead e1 b1 l1 n1 (st_seq.trans h1) h2
  | exit i s1 => exact hl.1 i s1 hr rfl
  | ret s1 => exact hl.2 s1 hr

theorem sound_block {id : Nat} {b : Code} {eb : St → Res} (hb : Sound P base nt m ro f b eb) :
    Sound P base nt m ro f (.block id b) fun s => match eb s with | .norm s' => .norm s' | .exit i s' => sel (Nat.beq i id) (.norm s') (.exit i s') | .ret s' => .ret s' | .bad q => .bad q := by
  intro s tmps ds ρ L w k cs c ht hd hro hm
  have h := hb s tmps ds ρ L w (.inBlock id :: k) cs c ht hd hro hm
  have hl := Out.leaves (k := k) (M := lone (mkF f tmps ds (.code (.block id b) :: k)) cs w) st_block h
  dsimp only
  cases hr : eb s with
  | bad => exact trivial
  | norm s1 =>
    rw [hr] at h
    refine Mid.mono h ?_
    intro w' t d hs
    exact st_block.trans (hs.trans st_inBlock)
  | ret s1 => exact hl.2 s1 hr
  | exit i s1 =>
    rw [hr] at h
    dsimp only
    rw [sel_beq]
    split
    · rename_i hi
      subst hi
      refine Mid.mono h ?_
      intro w' t d ⟨k', h1, h2⟩
      have : exitTo i (.inBlock i :: k) = some k := by simp [exitTo]
      exact st_block.trans (h2.trans (st_exit (h1.trans this)))
    · rename_i hi
      refine hl.1 i s1 hr ?_
      have : (id == i) = false := by simp; exact fun h => hi h.symm
      simp [exitTo, this]

theorem sound_cond {q : Operand} {a b : Code} {ea eb : St → Res} (ha : Sound P base nt m ro f a ea) (hb : Sound P base nt m ro f b eb) :
    Sound P base nt m ro f (.cond q a b) fun s => sel (Nat.beq (ev s.T q) 18) (ea s) (sel (Nat.beq (ev s.T q) 2) (eb s) (.bad 0)) := by
  intro s tmps ds ρ L w k cs c ht hd hro hm
  show Out P base nt m s.n ρ L w _ f k cs (sel (Nat.beq (ev s.T q) 18) (ea s) (sel (Nat.beq (ev s.T q) 2) (eb s) (.bad 0)))
  rw [sel_beq, sel_beq]
  split
  · rename_i hq
    have hv := ev_sound ht q (by rw [hq]; decide)
    rw [hq] at hv
    exact Out.ahead (.refl _ _) (Below.refl _ _) (Loc.refl .nil _ _ _) (Nat.le_refl _) (st_cond hv.true_inv) (ha s tmps ds ρ L w k cs c ht hd hro hm)
  · split
    · rename_i hq
      have hv := ev_sound ht q (by rw [hq]; decide)
      rw [hq] at hv
      exact Out.ahead (.refl _ _) (Below.refl _ _) (Loc.refl .nil _ _ _) (Nat.le_refl _) (st_cond hv.false_inv) (hb s tmps ds ρ L w k cs c ht hd hro hm)
    · exact trivial

theorem loop_rounds {b : Code} {eb : St → Res} (hb : Sound P base nt m ro f b eb) : ∀ (fuel : Nat) (s : St) (tmps : Array Value) (ds : List Deferred) (ρ : Rho) (L : Look) (w : World) (k : List Item) (cs : List Frame),
    Ctx base s.H s.n ρ L w → TR ρ L nt s.T tmps → DR ρ L m s.D ds → RoR ρ ro f → m ≤ s.n →
    Out P base nt m s.n ρ L w (lone (mkF f tmps ds (.code b :: .inLoop b :: k)) cs w) f k cs (loopE eb fuel s)
  | 0, s, tmps, ds, ρ, L, w, k, cs, c, ht, hd, hro, hm => trivial
  | fuel + 1, s, tmps, ds, ρ, L, w, k, cs, c, ht, hd, hro, hm => by
    have h := hb s tmps ds ρ L w (.inLoop b :: k) cs c ht hd hro hm
    have hl := Out.leaves (k := k) (M := lone (mkF f tmps ds (.code b :: .inLoop b :: k)) cs w) (Steps.refl _ _) h
    show Out P base nt m s.n ρ L w _ f k cs ((eb s).thenE (loopE eb fuel))
    cases hr : eb s with
    | bad => exact trivial
    | norm s1 =>
      rw [hr] at h
      obtain ⟨ρ1, L1, w1, t1, d1, c1, ht1, hd1, e1, b1, l1, n1, h1⟩ := h
      have h2 := loop_rounds hb fuel s1 t1 d1 ρ1 L1 w1 k cs c1 ht1 hd1 (hro.mono e1) (Nat.le_trans hm n1)
      exact Out.ahead e1 b1 l1 n1 (h1.trans st_inLoop) h2
    | exit i s1 => exact hl.1 i s1 hr rfl
    | ret s1 => exact hl.2 s1 hr

theorem sound_loop {b : Code} {eb : St → Res} (hb : Sound P base nt m ro f b eb) : Sound P base nt m ro f (.loop b) fun s => loopE eb fuel s := by
  intro s tmps ds ρ L w k cs c ht hd hro hm
  exact Out.ahead (.refl _ _) (Below.refl _ _) (Loc.refl .nil _ _ _) (Nat.le_refl _) st_loop (loop_rounds hb fuel s tmps ds ρ L w k cs c ht hd hro hm)

theorem Mid.here {s : St} {tmps : Array Value} {ds : List Deferred} {R : World → Array Value → List Deferred → Prop} (c : Ctx base s.H s.n ρ L w) (ht : TR ρ L nt s.T tmps) (hd : DR ρ L m s.D ds)
    (h : R w tmps ds) : Mid base nt m s.n ρ L w s R := ⟨ρ, L, w, tmps, ds, c, ht, hd, .refl _ _, Below.refl _ _, .refl _ _ _ _, Nat.le_refl _, h⟩

theorem sound_scope {b : Code} {eb : St → Res} (hb : Sound P base nt m ro f b eb) : Sound P base nt m ro f (.scope b) fun s => eb s := by
  intro s tmps ds ρ L w k cs c ht hd hro hm
  have h := hb s tmps ds ρ L w (.inScope b :: k) cs c ht hd hro hm
  have hl := Out.leaves (k := k) (M := lone (mkF f tmps ds (.code (.scope b) :: k)) cs w) st_scope h
  dsimp only
  cases hr : eb s with
  | bad => exact trivial
  | norm s1 =>
    rw [hr] at h
    refine Mid.mono h ?_
    intro w' t d hs
    exact st_scope.trans (hs.trans st_inScope)
  | ret s1 => exact hl.2 s1 hr
  | exit i s1 => exact hl.1 i s1 hr rfl

theorem sound_region (hcall : CallS P call) {id : Nat} {ops : Array Oper} : Sound P base nt m ro f (.region id ops false)
    fun s => match regE P call nt ops ops.toList s.T s.H s.n with | .ok T H n => .norm ⟨T, H, n, s.D⟩ | .bad q => .bad q := by
  intro s tmps ds ρ L w k cs c ht hd hro hm
  dsimp only
  cases hr : regE P call nt ops ops.toList s.T s.H s.n with
  | bad => exact trivial
  | ok T H n =>
    obtain ⟨ρ', L', w', tmps', c', ht', e, b, lc, hn, h1⟩ := regE_sound hcall f ds k cs ops.toList 0 s.T s.H s.n tmps ρ L w (fun j => by simp) hr c ht
    refine ⟨ρ', L', w', tmps', ds, c', ht', hd.mono e, e, b, ⟨lc.bare⟩, hn, ?_⟩
    rw [← List.range_eq_range'] at h1
    simp only [Array.length_toList] at h1
    exact st_region.trans (h1.trans st_regionEnd)

theorem Ctx.drew {H : Trie} {n : Nat} {ρ : Rho} {L : Look} {w : World} (c : Ctx base H n ρ L w) (k : Nat) : Ctx base H n ρ L { w with drawn := k } := by
  refine ⟨?_, c.agree, c.fresh⟩
  exact c.sim.heap rfl

theorem sound_draw (hcall : CallS P call) {id : Nat} {ops : Array Oper} : Sound P base nt m ro f (.region id ops true)
    fun s => match drawR P call nt ops s.T s.H s.n with | .ok T H n => .norm ⟨T, H, n, s.D⟩ | .bad q => .bad q := by
  intro s tmps ds ρ L w k cs c ht hd hro hm
  dsimp only
  cases hr : drawR P call nt ops s.T s.H s.n with
  | bad => exact trivial
  | ok T H n =>
    obtain ⟨hmx, hall⟩ := drawR_sound hcall f ds k cs hr (c.drew (w.drawn + 1)) ht
    obtain ⟨ρ', L', w', tmps', c', ht', e, b, lc, hn, hst⟩ := hall (w.tape w.drawn (.order f.fn id))
    refine ⟨ρ', L', w', tmps', ds, c', ht', hd.mono e, e, (show Below base w { w with drawn := w.drawn + 1 } from ⟨rfl, rfl, rfl, Nat.le_refl _, fun _ _ => rfl⟩).trans b, ⟨lc.bare⟩, hn, ?_⟩
    exact (st_drawn hmx).trans (hst.trans st_regionEnd)
end
end Go.Eng

/- Ranges over functions; all code; calls. -/
namespace Go.Eng
set_option linter.unusedSectionVars false
set_option linter.unusedSimpArgs false
set_option linter.unusedVariables false
open Go Go.RowKit
variable [E : Env]

section
variable {P : Program} {base nt m n n1 ro fuel : Nat} {ρ ρ1 : Rho} {L L1 : Look} {w w1 w' : World} {f : FFix} {call : Nat → List Nat → Trie → Nat → OR} {tmps : Array Value} {ds : List Deferred} {k : List Item} {cs : List Frame}

theorem loopNoRow (T nt : Nat) (ps : List Nat) (a b : Code) (st pd df : Nat) : NoRow (.loop T nt ps a b st pd df) := trivial

/-- A loop's block told anew. -/
theorem Sim.setLoop {l T nt0 st pd df st' pd' : Nat} {ps : List Nat} {a b : Code} {r : Nat × Nat × Nat} {lp : Loop} (hs : Sim base ρ L w) (hl : ρ l = some r) (hL : L l = some (.loop T nt0 ps a b st pd df))
    (hlp : w.heap[r.1]? = some (.loop lp)) {lp' : Loop} (hp : lp' = { lp with state := stOf st', pending := pendOf pd' }) (hw : w'.heap = w.heap.setIfInBounds r.1 (.loop lp')) :
    Sim base ρ (upd L l (.loop T nt0 ps a b st' pd' df)) w' ∧ Ext ρ L ρ (upd L l (.loop T nt0 ps a b st' pd' df)) := by
  have ne : ∀ j (k : Blk), L j = some k → (∀ T nt0 ps a b st pd df, k ≠ .loop T nt0 ps a b st pd df) → j ≠ l := fun j k hj hk hjl => by
    subst hjl; rw [hL] at hj; injection hj with hj; exact hk _ _ _ _ _ _ _ _ hj.symm
  have e : Ext ρ L ρ (upd L l (.loop T nt0 ps a b st' pd' df)) := by
    refine ⟨⟨fun _ _ h => h, fun j kd m c hj => ?_, fun j p q s d lo hi hj => ?_, fun j hj => ?_⟩, fun j hj => ?_⟩
    · rw [upd_ne _ _ (ne j _ hj (by intros; simp))]; exact hj
    · rw [upd_ne _ _ (ne j _ hj (by intros; simp))]; exact hj
    · rcases hj with hj | hj
      · left; rw [upd_ne _ _ (ne j _ hj (by intros; simp))]; exact hj
      · right; rw [upd_ne _ _ (ne j _ hj (by intros; simp))]; exact hj
    · rw [upd_ne _ _ (ne j _ hj (by intros; simp))]; exact hj
  obtain ⟨k0, hk0, hbr⟩ := hs.blk l r hl
  rw [hL] at hk0; injection hk0 with hk0; subst hk0
  have hlive := (loopNoRow T nt0 ps a b st pd df).live hL
  obtain ⟨lp0, b1, b2, b3, b4, b5, b6, b7, q, b8, b9, b10⟩ := hbr hlive
  rw [hlp] at b1; injection b1 with b1; injection b1 with b1; subst b1
  have hlt : r.1 < w.heap.size := hs.bnd l r hl
  refine ⟨hs.swap hl hL (loopNoRow _ _ _ _ _ _ _ _) (loopNoRow _ _ _ _ _ _ _ _) e.toExt0 (fun x hx => ?_) (by rw [hw]; simp) ?_, e⟩
  · rw [hw, Array.getElem?_setIfInBounds, if_neg (by omega)]
  · subst hp
    exact ⟨{ lp with state := stOf st', pending := pendOf pd' }, by rw [hw]; simp [hlt], rfl, rfl, b4, b5, b6, b7.mono e, q, b8, b9, e.isdf _ b10⟩

theorem run_getLoop {l : Nat} {lp : Loop} (h : w.heap[l]? = some (.loop lp)) : (Instr.getLoop l).run P w = .ok lp w := by simp [Instr.getLoop, getObj, Sem.run, h]
theorem run_setObj_loop {l : Nat} {lp : Loop} {o : Obj} (h : w.heap[l]? = some (.loop lp)) : (setObj l o).run P w = .ok () { w with heap := w.heap.setIfInBounds l o } := by
  simp [setObj, Sem.run, h]

theorem below_set {r : Nat} {o : Obj} (hb : base ≤ r) : Below base w { w with heap := w.heap.setIfInBounds r o } :=
  ⟨rfl, rfl, rfl, by simp, fun j hj => by rw [Array.getElem?_setIfInBounds, if_neg (by omega)]⟩
theorem below_push {o : Obj} (hb : base ≤ w.heap.size) : Below base w { w with heap := w.heap.push o } :=
  ⟨rfl, rfl, rfl, by simp, fun j hj => by rw [Array.getElem?_push, if_neg (by omega)]⟩

/-- the call that a range over a function makes -/
def rangeCall (g : Operand) (l : Nat) : Call := { callee := .value g, args := #[.const (.func (.yield l) #[] #[])], argTypes := #[] }

theorem st_range {g : Operand} {ps : Array Tmp} {assign body : Code} {l : Nat} {mark : List Deferred} {x : Value}
    (he : (Instr.enterLoop f.fn tmps ps assign body f.ro).run P w = .ok (l, mark) w1)
    (hd : Does P (do let d ← Deferred.ofValue (evT tmps g) #[.func (.yield l) #[] #[]]; invoke d.target d.args) w1 x w' (mkF f tmps (mark ++ ds) (.inRangeFunc l :: k)) cs) :
    Steps P (lone (mkF f tmps ds (.code (.rangeFunc g ps assign body) :: k)) cs w) (lone (mkF f tmps (mark ++ ds) (.endRangeFunc l :: k)) cs w') := by
  have hev := mkF_eval f tmps ds (.code (.rangeFunc g ps assign body) :: k)
  have h := st_apply (f := f) (tmps := tmps) (ds := mark ++ ds) (k := k) (cs := cs) (it := .inRangeFunc l) (fr0 := mkF f tmps ds (.code (.rangeFunc g ps assign body) :: k)) (w0 := w) hd (by intros; simp) ?_
  · exact h
  · simp only [mkF] at hev
    simp only [stepG, stepG.exec, mkF, Sem.runT_eq, he, GStep.bare_after]
    have : ({ fn := f.fn, tmps := tmps, todo := Item.inRangeFunc l :: k, defers := mark ++ ds, mode := FrameMode.run, kind := f.kind, roundOf := f.ro } : Frame).eval = evT tmps := mkF_eval f tmps (mark ++ ds) (.inRangeFunc l :: k)
    rw [this]
    have hres : resolve (evT tmps) { callee := .value g, args := #[.const (.func (.yield l) #[] #[])], argTypes := #[] } 0 = Deferred.ofValue (evT tmps g) #[.func (.yield l) #[] #[]] := by simp [resolve, evT]
    rw [hres]

theorem st_endRange {l : Nat} {lp : Loop} (hl : w.heap[l]? = some (.loop lp)) (hb : lp.state ≠ .busy) :
    Steps P (lone (mkF f tmps ds (.endRangeFunc l :: k)) cs w)
      (lone (mkF f tmps ds ((lp.pending.map Item.code).toList ++ k)) cs { w with heap := w.heap.setIfInBounds l (.loop { lp with state := .exhausted }) }) := by
  have hrun : (Instr.endLoop l).run P w = .ok lp.pending { w with heap := w.heap.setIfInBounds l (.loop { lp with state := .exhausted }) } := by
    simp [Instr.endLoop, run_getLoop hl, hb, run_setObj_loop hl]
  refine .one (step_lone_go ?_)
  simp only [stepG, stepG.exec, mkF, Sem.runT_eq, hrun, GStep.bare_after]
  rfl

theorem Ext.bare {L2 : Look} {ρ2 : Rho} (h : Ext ρ L ρ2 L2) : Ext0 ρ L ρ2 L2 := h.toExt0

theorem sound_range (hcall : CallS P call) {g : Operand} {ps : Array Tmp} {assign body : Code} : Sound P base nt m ro f (.rangeFunc g ps assign body) fun s => rangeE P call nt ro g ps.toList assign body s := by
  intro s tmps ds ρ L w k cs c ht hd hro hm
  dsimp only
  unfold rangeE
  rw [sel_beq]
  split
  · exact trivial
  · rename_i hg
    have hgv := ev_sound ht g hg
    -- the second half: the new loop's block, the call, the end
    have half : ∀ (ρ1 : Rho) (L1 : Look) (w1 : World) (H1 : Trie) (l df : Nat) (D : List Nat) (mark : List Deferred) (q : Nat × Nat × Nat), Ctx base H1 l ρ1 L1 w1 → Ext ρ L ρ1 L1 → Below base w w1 → Loc s.H s.n ρ L ρ1 L1 → s.n ≤ l →
        ρ1 df = some q → IsDf (L1 df) → DR ρ1 L1 m D (mark ++ ds) →
        (∀ w2 : World, w2.heap = w1.heap.push (.loop { state := .ready, pending := none, fn := f.fn, tmps := tmps, params := ps, assign := assign, body := body, defers := q.1 }) → w2.os = w1.os → w2.tape = w1.tape → w2.output = w1.output → w2.drawn = w1.drawn →
          (Instr.enterLoop f.fn tmps ps assign body f.ro).run P w = .ok (w1.heap.size, mark) w2) →
        Out P base nt m s.n ρ L w (lone (mkF f tmps ds (.code (.rangeFunc g ps assign body) :: k)) cs w) f k cs
          (sel (ltb l maxBlk)
            (match call (ev s.T g) [mk 13 l] (hset H1 l (.loop s.T nt ps.toList assign body 0 0 df)) (Nat.succ l) with
             | .ok _ H' n' =>
               (match tget H' l with
                | some (.loop T0 nt0 ps0 a0 b0 st pend df0) =>
                  sel (Nat.beq st 1) (.bad 0)
                    (sel (Nat.beq pend 0) (.norm ⟨s.T, hset H' l (.loop T0 nt0 ps0 a0 b0 3 pend df0), n', D⟩) (sel (Nat.beq pend 1) (.ret ⟨s.T, hset H' l (.loop T0 nt0 ps0 a0 b0 3 pend df0), n', D⟩) (.exit (Nat.sub pend 2) ⟨s.T, hset H' l (.loop T0 nt0 ps0 a0 b0 3 pend df0), n', D⟩)))
                | _ => (.bad 0))
             | .bad q => .bad q) (.bad 0)) := by
      intro ρ1 L1 w1 H1 l df D mark q c1 e1 b1 lc1 hnl hdf hisdf hDR henter
      rw [sel_ltb]
      split
      · rename_i hl
        -- the loop's block
        have hlp : ∃ w2 : World, w2 = { w1 with heap := w1.heap.push (.loop { state := .ready, pending := none, fn := f.fn, tmps := tmps, params := ps, assign := assign, body := body, defers := q.1 }) } := ⟨_, rfl⟩
        obtain ⟨w2, hw2⟩ := hlp
        have hheap2 : w2.heap = w1.heap.push (.loop { state := .ready, pending := none, fn := f.fn, tmps := tmps, params := ps, assign := assign, body := body, defers := q.1 }) := by rw [hw2]
        have e2 : Ext ρ1 L1 (updR ρ1 l (w1.heap.size, 0, 0)) (upd L1 l (.loop s.T nt ps.toList assign body 0 0 df)) := .fresh c1.fresh _ _
        have hhead : w2.heap[w1.heap.size]? = some (.loop { state := .ready, pending := none, fn := f.fn, tmps := tmps, params := ps, assign := assign, body := body, defers := q.1 }) := by rw [hheap2]; simp
        have hb2 : BR (updR ρ1 l (w1.heap.size, 0, 0)) (upd L1 l (.loop s.T nt ps.toList assign body 0 0 df)) w2 (w1.heap.size, 0, 0) (.loop s.T nt ps.toList assign body 0 0 df) :=
          ⟨_, hhead, rfl, rfl, rfl, rfl, rfl, (ht.mono e1).mono e2, q, e2.place _ _ hdf, rfl, e2.isdf _ hisdf⟩
        have c2 : Ctx base (hset H1 l (.loop s.T nt ps.toList assign body 0 0 df)) (l + 1) (updR ρ1 l (w1.heap.size, 0, 0)) (upd L1 l (.loop s.T nt ps.toList assign body 0 0 df)) w2 :=
          ⟨c1.sim.fresh c1.fresh hheap2 (by exact trivial) hb2, c1.agree.hset hl _, c1.fresh.upd _ _⟩
        have b2 : Below base w1 w2 := by rw [hw2]; exact below_push c1.sim.bs
        have hen := henter w2 hheap2 (by rw [hw2]) (by rw [hw2]) (by rw [hw2]) (by rw [hw2])
        split
        · rename_i v H' n' hcal
          have hfv := (hgv.mono e1).mono e2
          obtain ⟨ρ3, L3, w3, x, c3, e3, b3, l3, hn3, hv, hdo⟩ := hcall _ _ _ _ _ _ _ _ _ #[.func (.yield w1.heap.size) #[] #[]] _ _ _ (mkF f tmps (mark ++ ds) (.inRangeFunc w1.heap.size :: k)) cs c2 hfv (.cons _ _ _ _ (.yld l w1.heap.size 0 0 (updR_same _ _ _)) .nil) hcal
          split
          · rename_i T0 nt0 ps0 a0 b0 st pend df0 hget
            rw [sel_beq]
            split
            · exact trivial
            · rename_i hst
              have hρ3 : ρ3 l = some (w1.heap.size, 0, 0) := e3.place _ _ (updR_same _ _ _)
              have hL3 := c3.agree.2 _ _ hget
              have hl3 := c3.agree.lt hget
              obtain ⟨k0, hk0, hbr⟩ := c3.sim.blk l _ hρ3
              rw [hL3] at hk0; injection hk0 with hk0; subst hk0
              obtain ⟨lp, p1, p2, p3, p4, p5, p6, p7, q', p8, p9, p10⟩ := hbr ((loopNoRow _ _ _ _ _ _ _ _).live hL3)
              have hnb : lp.state ≠ .busy := by
                rw [p2]
                match st, hst with
                | 0, _ => simp [stOf]
                | 2, _ => simp [stOf]
                | (x + 3), _ => simp [stOf]
              have hbase : base ≤ w1.heap.size := c1.sim.bs
              obtain ⟨s4, e4⟩ := c3.sim.setLoop (w' := { w3 with heap := w3.heap.setIfInBounds w1.heap.size (.loop { lp with state := .exhausted }) }) (st' := 3) (pd' := pend) hρ3 hL3 p1 (lp' := { lp with state := .exhausted }) (by rw [← p3]; rfl) rfl
              have c4 : Ctx base (hset H' l (.loop T0 nt0 ps0 a0 b0 3 pend df0)) n' ρ3 (upd L3 l (.loop T0 nt0 ps0 a0 b0 3 pend df0)) { w3 with heap := w3.heap.setIfInBounds w1.heap.size (.loop { lp with state := .exhausted }) } :=
                ⟨s4, c3.agree.hset hl3 _, fun j hj => ⟨by rw [upd_ne _ _ (by have := c3.fresh.ltL hL3; omega)]; exact (c3.fresh j hj).1, (c3.fresh j hj).2⟩⟩
              have eall : Ext ρ1 L1 ρ3 (upd L3 l (.loop T0 nt0 ps0 a0 b0 3 pend df0)) := (e2.trans e3).trans e4
              have ball : Below base w { w3 with heap := w3.heap.setIfInBounds w1.heap.size (.loop { lp with state := .exhausted }) } := (b1.trans (b2.trans b3)).trans (below_set hbase)
              have hst1 : Steps P (lone (mkF f tmps ds (.code (.rangeFunc g ps assign body) :: k)) cs w) (lone (mkF f tmps (mark ++ ds) ((lp.pending.map Item.code).toList ++ k)) cs { w3 with heap := w3.heap.setIfInBounds w1.heap.size (.loop { lp with state := .exhausted }) }) :=
                (st_range hen hdo).trans (st_endRange p1 hnb)
              have lall : Loc (hset H' l (.loop T0 nt0 ps0 a0 b0 3 pend df0)) s.n ρ L ρ3 (upd L3 l (.loop T0 nt0 ps0 a0 b0 3 pend df0)) := by
                have l12 : Loc s.H s.n ρ L ρ3 L3 := (lc1.trans hnl (.fresh (H := s.H) (w1.heap.size, 0, 0) (.loop s.T nt ps.toList assign body 0 0 df))).trans (Nat.le_trans hnl (Nat.le_succ l)) l3
                exact ⟨fun b hb hbn => ⟨by rw [upd_ne _ _ (Nat.ne_of_lt (Nat.lt_of_lt_of_le hb hnl))]; exact (l12.bare b hb hbn).1, (l12.bare b hb hbn).2⟩⟩
              have mid : ∀ R : World → Array Value → List Deferred → Prop, R { w3 with heap := w3.heap.setIfInBounds w1.heap.size (.loop { lp with state := .exhausted }) } tmps (mark ++ ds) →
                  Mid base nt m s.n ρ L w ⟨s.T, hset H' l (.loop T0 nt0 ps0 a0 b0 3 pend df0), n', D⟩ R := fun R hR =>
                ⟨ρ3, _, _, tmps, mark ++ ds, c4, ((ht.mono e1).mono eall), hDR.mono eall, e1.trans eall, ball, lall, by show s.n ≤ n'; omega, hR⟩
              rw [sel_beq, sel_beq]
              split
              · rename_i hp0
                subst hp0
                refine mid _ ?_
                have h9 := hst1
                rw [show (lp.pending.map Item.code).toList ++ k = k from by rw [p3]; rfl] at h9
                exact h9
              · split
                · rename_i hp1
                  subst hp1
                  refine mid _ ?_
                  have h9 := hst1
                  rw [show (lp.pending.map Item.code).toList ++ k = Item.code .ret :: k from by rw [p3]; rfl] at h9
                  exact ⟨k, h9⟩
                · rename_i hp0 hp1
                  obtain ⟨i, rfl⟩ : ∃ i, pend = i + 2 := ⟨pend - 2, by omega⟩
                  refine mid _ ?_
                  have h9 := hst1
                  rw [show (lp.pending.map Item.code).toList ++ k = Item.code (.exit i) :: k from by rw [p3]; rfl] at h9
                  exact ⟨k, rfl, h9⟩
          · exact trivial
        · exact trivial
      · exact trivial
    dsimp only
    rw [sel_beq]
    split
    · -- a function's own frame
      rename_i hro0
      rw [sel_ltb]
      split
      · rename_i hn
        have hfro : f.ro = none := by
          rcases hro with ⟨_, h⟩ | ⟨l, r, h, _⟩
          · exact h
          · omega
        have hw1 : ∃ w1 : World, w1 = { w with heap := w.heap.push (.deferred (some [])) } := ⟨_, rfl⟩
        obtain ⟨w1, hw1⟩ := hw1
        have hheap : w1.heap = w.heap.push (.deferred (some [])) := by rw [hw1]
        have e1 : Ext ρ L (updR ρ s.n (w.heap.size, 0, 0)) (upd L s.n .defr) := .fresh c.fresh _ _
        have hb1 : BR (updR ρ s.n (w.heap.size, 0, 0)) (upd L s.n .defr) w1 (w.heap.size, 0, 0) .defr := by show w1.heap[w.heap.size]? = _; rw [hheap]; simp
        have c1 : Ctx base (hset s.H s.n .defr) (s.n + 1) (updR ρ s.n (w.heap.size, 0, 0)) (upd L s.n .defr) w1 :=
          ⟨c.sim.fresh c.fresh hheap (by exact trivial) hb1, c.agree.hset hn _, c.fresh.upd _ _⟩
        have hsz1 : w1.heap.size = w.heap.size + 1 := by rw [hheap]; simp
        refine half _ _ w1 _ (s.n + 1) s.n (s.n :: s.D) [{ target := .collected w.heap.size, args := #[] }] (w.heap.size, 0, 0) c1 e1 (by rw [hw1]; exact below_push c.sim.bs) (.fresh _ _) (Nat.le_succ _) (updR_same _ _ _) (.inl (upd_same _ _ _)) ?_ ?_
        · refine .cons s.n (w.heap.size, 0, 0) s.D ds (updR_same _ _ _) (upd_same _ _ _) hm (fun hmem => ?_) hn (hd.mono e1)
          have := hd.lt c.fresh s.n hmem; omega
        · intro w2 h2 ho hta hou hdr
          have hw2 : w2 = { w1 with heap := w1.heap.push (.loop { state := .ready, pending := none, fn := f.fn, tmps := tmps, params := ps, assign := assign, body := body, defers := w.heap.size }) } := by
            cases w2; cases w1; simp_all
          rw [hfro, hw2, hw1]
          rfl
      · exact trivial
    · -- in a round
      rename_i hro0
      obtain ⟨lr, rr, hlr, hρlr, hfr⟩ : ∃ l r, ro = l + 1 ∧ ρ l = some r ∧ f.ro = some r.1 := by
        rcases hro with ⟨h, _⟩ | h
        · exact absurd h hro0
        · exact h
      unfold lpDf
      split
      · rename_i T0 nt0 ps0 a0 b0 st0 pd0 df hget
        rw [hlr, show Nat.pred (lr + 1) = lr from rfl] at hget
        have hL := c.agree.2 _ _ hget
        obtain ⟨k0, hk0, hbr⟩ := c.sim.blk lr _ hρlr
        rw [hL] at hk0; injection hk0 with hk0; subst hk0
        obtain ⟨lp, p1, p2, p3, p4, p5, p6, p7, q, p8, p9, p10⟩ := hbr ((loopNoRow _ _ _ _ _ _ _ _).live hL)
        refine half ρ L w s.H s.n df s.D [] q c (.refl _ _) (Below.refl _ _) (.refl _ _ _ _) (Nat.le_refl _) p8 p10 hd ?_
        intro w2 h2 ho hta hou hdr
        have hw2 : w2 = { w with heap := w.heap.push (.loop { state := .ready, pending := none, fn := f.fn, tmps := tmps, params := ps, assign := assign, body := body, defers := q.1 }) } := by
          cases w2; cases w; simp_all
        rw [hfr, hw2]
        simp [Instr.enterLoop, run_getLoop p1, p9]
      · exact trivial

/-- ALL CODE. -/
theorem execE_sound (hcall : CallS P call) (c : Code) : Sound P base nt m ro f c (execE P call nt ro fuel c) := by
  induction c with
  | skip => exact fun s tmps ds ρ L w k cs c ht hd hro hm => Mid.here c ht hd st_skip
  | region id ops draw =>
    cases draw with
    | false => exact sound_region hcall
    | true => exact sound_draw hcall
  | seq a b iha ihb => exact sound_seq iha ihb
  | cond q a b iha ihb => exact sound_cond iha ihb
  | block id b ih => exact sound_block ih
  | loop b ih => exact sound_loop ih
  | rangeFunc g ps assign body _ _ => exact sound_range hcall
  | exit id => exact fun s tmps ds ρ L w k cs c ht hd hro hm => Mid.here c ht hd ⟨k, rfl, Steps.refl _ _⟩
  | scope b ih => exact sound_scope ih
  | label l => exact fun s tmps ds ρ L w k cs c ht hd hro hm => Mid.here c ht hd st_label
  | goto l => exact fun s tmps ds ρ L w k cs c ht hd hro hm => trivial
  | ret => exact fun s tmps ds ρ L w k cs c ht hd hro hm => Mid.here c ht hd ⟨k, Steps.refl _ _⟩
  | refuse why => exact fun s tmps ds ρ L w k cs c ht hd hro hm => trivial
end
end Go.Eng
