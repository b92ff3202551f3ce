/- Code, but for calls and ranges over functions. -/
import Derived.Test.YthcdiaahpodkoabEngNd
namespace Go.Eng
set_option linter.unusedSectionVars false
set_option linter.unusedSimpArgs false
set_option linter.unusedVariables false
open Go Go.RowKit
variable [E : Env]

/-- The marks of a function's ranges over functions, newest first; ids from m on. -/
inductive DR (ρ : Rho) (L : Look) (m : Nat) : List Nat → List Deferred → Prop
  | nil : DR ρ L m [] []
  | cons (d : Nat) (r : Nat × Nat × Nat) (D : List Nat) (ds : List Deferred) : ρ d = some r → L d = some .defr → m ≤ d → d ∉ D → d < 16384 → DR ρ L m D ds → DR ρ L m (d :: D) ({ target := .collected r.1, args := #[] } :: ds)

theorem DR.mono {ρ ρ' : Rho} {L L' : Look} {m : Nat} {D : List Nat} {ds : List Deferred} (e : Ext ρ L ρ' L') (h : DR ρ L m D ds) : DR ρ' L' m D ds := by
  induction h with
  | nil => exact .nil
  | cons d r D ds h1 h2 h3 h4 h5 _ ih => exact .cons d r D ds (e.place _ _ h1) (e.defr _ h2) h3 h4 h5 ih
theorem DR.lt {ρ : Rho} {L : Look} {m n : Nat} {D : List Nat} {ds : List Deferred} (h : DR ρ L m D ds) (hf : Fresh n ρ L) : ∀ d ∈ D, d < n := by
  induction h with
  | nil => intro d hd; cases hd
  | cons d r D ds h1 _ _ _ _ _ ih =>
    intro x hx
    rcases List.mem_cons.1 hx with rfl | hx
    · exact hf.lt h1
    · exact ih x hx

theorem DR.small {ρ : Rho} {L : Look} {m : Nat} {D : List Nat} {ds : List Deferred} (h : DR ρ L m D ds) : ∀ d ∈ D, d < 16384 := by
  induction h with
  | nil => intro d hd; cases hd
  | cons d r D ds _ _ _ _ h5 _ ih =>
    intro x hx
    rcases List.mem_cons.1 hx with rfl | hx
    · exact h5
    · exact ih x hx

def RoR (ρ : Rho) (ro : Nat) (f : FFix) : Prop := (ro = 0 ∧ f.ro = none) ∨ ∃ l r, ro = l + 1 ∧ ρ l = some r ∧ f.ro = some r.1
theorem RoR.mono {ρ ρ' : Rho} {L L' : Look} {ro : Nat} {f : FFix} (e : Ext ρ L ρ' L') (h : RoR ρ ro f) : RoR ρ' ro f := by
  rcases h with h | ⟨l, r, h1, h2, h3⟩
  · exact .inl h
  · exact .inr ⟨l, r, h1, e.place _ _ h2, h3⟩

/-- What a piece of code has come to. -/
def Mid (base nt m n : Nat) (ρ : Rho) (L : Look) (w : World) (s : St) (R : World → Array Value → List Deferred → Prop) : Prop :=
  ∃ ρ' L' w' tmps' ds', Ctx base s.H s.n ρ' L' w' ∧ TR ρ' L' nt s.T tmps' ∧ DR ρ' L' m s.D ds' ∧ Ext ρ L ρ' L' ∧ Below base w w' ∧ Loc s.H n ρ L ρ' L' ∧ n ≤ s.n ∧ R w' tmps' ds'

def Out (P : Program) (base nt m n : Nat) (ρ : Rho) (L : Look) (w : World) (M : Machine) (f : FFix) (k : List Item) (cs : List Frame) : Res → Prop
  | .bad _ => True
  | .norm s => Mid base nt m n ρ L w s fun w' tmps' ds' => Steps P M (lone (mkF f tmps' ds' k) cs w')
  | .exit i s => Mid base nt m n ρ L w s fun w' tmps' ds' => ∃ k', exitTo i k' = exitTo i k ∧ Steps P M (lone (mkF f tmps' ds' (.code (.exit i) :: k')) cs w')
  | .ret s => Mid base nt m n ρ L w s fun w' tmps' ds' => ∃ k', Steps P M (lone (mkF f tmps' ds' (.code .ret :: k')) cs w')

section
variable {P : Program} {base nt m n n1 ro fuel : Nat} {ρ ρ1 : Rho} {L L1 : Look} {w w1 : World} {f : FFix} {call : Nat → List Nat → Trie → Nat → OR}

theorem Mid.mono {s : St} {R R' : World → Array Value → List Deferred → Prop} (h : Mid base nt m n ρ L w s R) (hr : ∀ a b c, R a b c → R' a b c) : Mid base nt m n ρ L w s R' :=
  let ⟨ρ', L', w', t, d, a1, a2, a3, a4, a5, l, a6, a7⟩ := h; ⟨ρ', L', w', t, d, a1, a2, a3, a4, a5, l, a6, hr _ _ _ a7⟩
theorem Mid.after {s : St} {R : World → Array Value → List Deferred → Prop} {H0 : Trie} (e : Ext ρ L ρ1 L1) (b : Below base w w1) (lc : Loc H0 n ρ L ρ1 L1) (hn : n ≤ n1) (h : Mid base nt m n1 ρ1 L1 w1 s R) : Mid base nt m n ρ L w s R :=
  let ⟨ρ', L', w', t, d, a1, a2, a3, a4, a5, l, a6, a7⟩ := h; ⟨ρ', L', w', t, d, a1, a2, a3, e.trans a4, b.trans a5, (Loc.trans lc hn l).any, Nat.le_trans hn a6, a7⟩

/-- Steps ahead of a piece. -/
theorem Out.ahead {M M1 : Machine} {r : Res} {H0 : Trie} {k : List Item} {cs : List Frame} (e : Ext ρ L ρ1 L1) (b : Below base w w1) (lc : Loc H0 n ρ L ρ1 L1) (hn : n ≤ n1)
    (hM : Steps P M M1) (h : Out P base nt m n1 ρ1 L1 w1 M1 f k cs r) : Out P base nt m n ρ L w M f k cs r := by
  cases r with
  | bad => exact trivial
  | norm s =>
    refine (Mid.after e b lc hn h).mono ?_
    intro w' t d hs
    exact hM.trans hs
  | exit i s =>
    refine (Mid.after e b lc hn h).mono ?_
    intro w' t d ⟨k', h1, h2⟩
    exact ⟨k', h1, hM.trans h2⟩
  | ret s =>
    refine (Mid.after e b lc hn h).mono ?_
    intro w' t d ⟨k', h2⟩
    exact ⟨k', hM.trans h2⟩

/-- An ending other than the plain one, behind other code. -/
theorem Out.leaves {M M1 : Machine} {r : Res} {k k1 : List Item} {cs : List Frame} (hM : Steps P M M1) (h : Out P base nt m n ρ L w M1 f k1 cs r) :
    (∀ i s, r = .exit i s → exitTo i k1 = exitTo i k → Out P base nt m n ρ L w M f k cs (.exit i s)) ∧ (∀ s, r = .ret s → Out P base nt m n ρ L w M f k cs (.ret s)) := by
  constructor
  · rintro i s rfl hg
    refine Mid.mono h ?_
    intro w' t d ⟨k', h1, h2⟩
    exact ⟨k', h1.trans hg, hM.trans h2⟩
  · rintro s rfl
    refine Mid.mono h ?_
    intro w' t d ⟨k', h2⟩
    exact ⟨k', hM.trans h2⟩

/-- What is asked of a piece of code. -/
def Sound (P : Program) (base nt m : Nat) (ro : Nat) (f : FFix) (c : Code) (ex : St → Res) : Prop :=
  ∀ (s : St) (tmps : Array Value) (ds : List Deferred) (ρ : Rho) (L : Look) (w : World) (k : List Item) (cs : List Frame), Ctx base s.H s.n ρ L w → TR ρ L nt s.T tmps → DR ρ L m s.D ds → RoR ρ ro f → m ≤ s.n →
    Out P base nt m s.n ρ L w (lone (mkF f tmps ds (.code c :: k)) cs w) f k cs (ex s)

theorem exitTo_code (i : Nat) (c : Code) (k : List Item) : exitTo i (.code c :: k) = exitTo i k := rfl
theorem exitTo_inLoop (i : Nat) (c : Code) (k : List Item) : exitTo i (.inLoop c :: k) = exitTo i k := rfl
theorem exitTo_inScope (i : Nat) (c : Code) (k : List Item) : exitTo i (.inScope c :: k) = exitTo i k := rfl

theorem sound_seq {a b : Code} {ea eb : St → Res} (ha : Sound P base nt m ro f a ea) (hb : Sound P base nt m ro f b eb) : Sound P base nt m ro f (.seq a b) fun s => (ea s).thenE eb := by
  intro s tmps ds ρ L w k cs c ht hd hro hm
  show Out P base nt m s.n ρ L w _ f k cs ((ea s).thenE eb)
  have h := ha s tmps ds ρ L w (.code b :: k) cs c ht hd hro hm
  have hl := Out.leaves (k := k) (M := lone (mkF f tmps ds (.code (.seq a b) :: k)) cs w) st_seq h
  cases hr : ea s with
  | bad => exact trivial
  | norm s1 =>
    rw [hr] at h
    obtain ⟨ρ1, L1, w1, t1, d1, c1, ht1, hd1, e1, b1, l1, n1, h1⟩ := h
    have h2 := hb s1 t1 d1 ρ1 L1 w1 k cs c1 ht1 hd1 (hro.mono e1) (Nat.le_trans hm n1)
    exact Out.ahead e1 b1 l1 n1 (st_seq.trans h1) h2
  | exit i s1 => exact hl.1 i s1 hr rfl
  | ret s1 => exact hl.2 s1 hr

theorem sound_block {id : Nat} {b : Code} {eb : St → Res} (hb : Sound P base nt m ro f b eb) :
    Sound P base nt m ro f (.block id b) fun s => match eb s with | .norm s' => .norm s' | .exit i s' => sel (Nat.beq i id) (.norm s') (.exit i s') | .ret s' => .ret s' | .bad q => .bad q := by
  intro s tmps ds ρ L w k cs c ht hd hro hm
  have h := hb s tmps ds ρ L w (.inBlock id :: k) cs c ht hd hro hm
  have hl := Out.leaves (k := k) (M := lone (mkF f tmps ds (.code (.block id b) :: k)) cs w) st_block h
  dsimp only
  cases hr : eb s with
  | bad => exact trivial
  | norm s1 =>
    rw [hr] at h
    refine Mid.mono h ?_
    intro w' t d hs
    exact st_block.trans (hs.trans st_inBlock)
  | ret s1 => exact hl.2 s1 hr
  | exit i s1 =>
    rw [hr] at h
    dsimp only
    rw [sel_beq]
    split
    · rename_i hi
      subst hi
      refine Mid.mono h ?_
      intro w' t d ⟨k', h1, h2⟩
      have : exitTo i (.inBlock i :: k) = some k := by simp [exitTo]
      exact st_block.trans (h2.trans (st_exit (h1.trans this)))
    · rename_i hi
      refine hl.1 i s1 hr ?_
      have : (id == i) = false := by simp; exact fun h => hi h.symm
      simp [exitTo, this]

theorem sound_cond {q : Operand} {a b : Code} {ea eb : St → Res} (ha : Sound P base nt m ro f a ea) (hb : Sound P base nt m ro f b eb) :
    Sound P base nt m ro f (.cond q a b) fun s => sel (Nat.beq (ev s.T q) 18) (ea s) (sel (Nat.beq (ev s.T q) 2) (eb s) (.bad 0)) := by
  intro s tmps ds ρ L w k cs c ht hd hro hm
  show Out P base nt m s.n ρ L w _ f k cs (sel (Nat.beq (ev s.T q) 18) (ea s) (sel (Nat.beq (ev s.T q) 2) (eb s) (.bad 0)))
  rw [sel_beq, sel_beq]
  split
  · rename_i hq
    have hv := ev_sound ht q (by rw [hq]; decide)
    rw [hq] at hv
    exact Out.ahead (.refl _ _) (Below.refl _ _) (Loc.refl .nil _ _ _) (Nat.le_refl _) (st_cond hv.true_inv) (ha s tmps ds ρ L w k cs c ht hd hro hm)
  · split
    · rename_i hq
      have hv := ev_sound ht q (by rw [hq]; decide)
      rw [hq] at hv
      exact Out.ahead (.refl _ _) (Below.refl _ _) (Loc.refl .nil _ _ _) (Nat.le_refl _) (st_cond hv.false_inv) (hb s tmps ds ρ L w k cs c ht hd hro hm)
    · exact trivial

theorem loop_rounds {b : Code} {eb : St → Res} (hb : Sound P base nt m ro f b eb) : ∀ (fuel : Nat) (s : St) (tmps : Array Value) (ds : List Deferred) (ρ : Rho) (L : Look) (w : World) (k : List Item) (cs : List Frame),
    Ctx base s.H s.n ρ L w → TR ρ L nt s.T tmps → DR ρ L m s.D ds → RoR ρ ro f → m ≤ s.n →
    Out P base nt m s.n ρ L w (lone (mkF f tmps ds (.code b :: .inLoop b :: k)) cs w) f k cs (loopE eb fuel s)
  | 0, s, tmps, ds, ρ, L, w, k, cs, c, ht, hd, hro, hm => trivial
  | fuel + 1, s, tmps, ds, ρ, L, w, k, cs, c, ht, hd, hro, hm => by
    have h := hb s tmps ds ρ L w (.inLoop b :: k) cs c ht hd hro hm
    have hl := Out.leaves (k := k) (M := lone (mkF f tmps ds (.code b :: .inLoop b :: k)) cs w) (Steps.refl _ _) h
    show Out P base nt m s.n ρ L w _ f k cs ((eb s).thenE (loopE eb fuel))
    cases hr : eb s with
    | bad => exact trivial
    | norm s1 =>
      rw [hr] at h
      obtain ⟨ρ1, L1, w1, t1, d1, c1, ht1, hd1, e1, b1, l1, n1, h1⟩ := h
      have h2 := loop_rounds hb fuel s1 t1 d1 ρ1 L1 w1 k cs c1 ht1 hd1 (hro.mono e1) (Nat.le_trans hm n1)
      exact Out.ahead e1 b1 l1 n1 (h1.trans st_inLoop) h2
    | exit i s1 => exact hl.1 i s1 hr rfl
    | ret s1 => exact hl.2 s1 hr

theorem sound_loop {b : Code} {eb : St → Res} (hb : Sound P base nt m ro f b eb) : Sound P base nt m ro f (.loop b) fun s => loopE eb fuel s := by
  intro s tmps ds ρ L w k cs c ht hd hro hm
  exact Out.ahead (.refl _ _) (Below.refl _ _) (Loc.refl .nil _ _ _) (Nat.le_refl _) st_loop (loop_rounds hb fuel s tmps ds ρ L w k cs c ht hd hro hm)

theorem Mid.here {s : St} {tmps : Array Value} {ds : List Deferred} {R : World → Array Value → List Deferred → Prop} (c : Ctx base s.H s.n ρ L w) (ht : TR ρ L nt s.T tmps) (hd : DR ρ L m s.D ds)
    (h : R w tmps ds) : Mid base nt m s.n ρ L w s R := ⟨ρ, L, w, tmps, ds, c, ht, hd, .refl _ _, Below.refl _ _, .refl _ _ _ _, Nat.le_refl _, h⟩

theorem sound_scope {b : Code} {eb : St → Res} (hb : Sound P base nt m ro f b eb) : Sound P base nt m ro f (.scope b) fun s => eb s := by
  intro s tmps ds ρ L w k cs c ht hd hro hm
  have h := hb s tmps ds ρ L w (.inScope b :: k) cs c ht hd hro hm
  have hl := Out.leaves (k := k) (M := lone (mkF f tmps ds (.code (.scope b) :: k)) cs w) st_scope h
  dsimp only
  cases hr : eb s with
  | bad => exact trivial
  | norm s1 =>
    rw [hr] at h
    refine Mid.mono h ?_
    intro w' t d hs
    exact st_scope.trans (hs.trans st_inScope)
  | ret s1 => exact hl.2 s1 hr
  | exit i s1 => exact hl.1 i s1 hr rfl

theorem sound_region (hcall : CallS P call) {id : Nat} {ops : Array Oper} : Sound P base nt m ro f (.region id ops false)
    fun s => match regE P call nt ops ops.toList s.T s.H s.n with | .ok T H n => .norm ⟨T, H, n, s.D⟩ | .bad q => .bad q := by
  intro s tmps ds ρ L w k cs c ht hd hro hm
  dsimp only
  cases hr : regE P call nt ops ops.toList s.T s.H s.n with
  | bad => exact trivial
  | ok T H n =>
    obtain ⟨ρ', L', w', tmps', c', ht', e, b, lc, hn, h1⟩ := regE_sound hcall f ds k cs ops.toList 0 s.T s.H s.n tmps ρ L w (fun j => by simp) hr c ht
    refine ⟨ρ', L', w', tmps', ds, c', ht', hd.mono e, e, b, ⟨lc.bare⟩, hn, ?_⟩
    rw [← List.range_eq_range'] at h1
    simp only [Array.length_toList] at h1
    exact st_region.trans (h1.trans st_regionEnd)

theorem Ctx.drew {H : Trie} {n : Nat} {ρ : Rho} {L : Look} {w : World} (c : Ctx base H n ρ L w) (k : Nat) : Ctx base H n ρ L { w with drawn := k } := by
  refine ⟨?_, c.agree, c.fresh⟩
  exact c.sim.heap rfl

theorem sound_draw (hcall : CallS P call) {id : Nat} {ops : Array Oper} : Sound P base nt m ro f (.region id ops true)
    fun s => match drawR P call nt ops s.T s.H s.n with | .ok T H n => .norm ⟨T, H, n, s.D⟩ | .bad q => .bad q := by
  intro s tmps ds ρ L w k cs c ht hd hro hm
  dsimp only
  cases hr : drawR P call nt ops s.T s.H s.n with
  | bad => exact trivial
  | ok T H n =>
    obtain ⟨hmx, hall⟩ := drawR_sound hcall f ds k cs hr (c.drew (w.drawn + 1)) ht
    obtain ⟨ρ', L', w', tmps', c', ht', e, b, lc, hn, hst⟩ := hall (w.tape w.drawn (.order f.fn id))
    refine ⟨ρ', L', w', tmps', ds, c', ht', hd.mono e, e, (show Below base w { w with drawn := w.drawn + 1 } from ⟨rfl, rfl, rfl, Nat.le_refl _, fun _ _ => rfl⟩).trans b, ⟨lc.bare⟩, hn, ?_⟩
    exact (st_drawn hmx).trans (hst.trans st_regionEnd)
end
end Go.Eng
