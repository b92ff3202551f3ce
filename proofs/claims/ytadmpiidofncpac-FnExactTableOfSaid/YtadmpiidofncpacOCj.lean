/- Part of the evaluator, in company. -/
import Derived.Test.YtadmpiidofncpacOCi
set_option linter.unusedSectionVars false
set_option linter.unusedSimpArgs false
set_option linter.unusedVariables false
namespace Go.Eng
open Go Go.RowKit
variable [E : Env] [Pd : Pad]
inductive DR (ρ : Rho) (L : Look) (m : Nat) : List Nat → List Deferred → Prop
 | nil : DR ρ L m [] []
 | cons (d : Nat) (r : Nat × Nat × Nat) (D : List Nat) (ds : List Deferred) : ρ d = some r → L d = some .defr → m ≤ d → d ∉ D → d < 16384 → DR ρ L m D ds → DR ρ L m (d :: D) ({ target := .collected r.1, args := #[] } :: ds)
theorem DR.mono {ρ ρ' : Rho} {L L' : Look} {m : Nat} {D : List Nat} {ds : List Deferred} (e : Ext ρ L ρ' L') (h : DR ρ L m D ds) : DR ρ' L' m D ds := by
 induction h with
 | nil => exact .nil
 | cons d r D ds h1 h2 h3 h4 h5 _ ih => exact .cons d r D ds (e.place _ _ h1) (e.defr _ h2) h3 h4 h5 ih
theorem DR.lt {ρ : Rho} {L : Look} {m n : Nat} {D : List Nat} {ds : List Deferred} (h : DR ρ L m D ds) (hf : Fresh n ρ L) : ∀ d ∈ D, d < n := by
 induction h with
 | nil => intro d hd; cases hd
 | cons d r D ds h1 _ _ _ _ _ ih =>
  intro x hx
  rcases List.mem_cons.1 hx with rfl | hx
  ·exact hf.lt h1
  ·exact ih x hx
theorem DR.small {ρ : Rho} {L : Look} {m : Nat} {D : List Nat} {ds : List Deferred} (h : DR ρ L m D ds) : ∀ d ∈ D, d < 16384 := by
 induction h with
 | nil => intro d hd; cases hd
 | cons d r D ds _ _ _ _ h5 _ ih =>
  intro x hx
  rcases List.mem_cons.1 hx with rfl | hx
  ·exact h5
  ·exact ih x hx
def RoR (ρ : Rho) (ro : Nat) (f : FFix) : Prop := (ro = 0 ∧ f.ro = none) ∨ ∃ l r, ro = l + 1 ∧ ρ l = some r ∧ f.ro = some r.1
theorem RoR.mono {ρ ρ' : Rho} {L L' : Look} {ro : Nat} {f : FFix} (e : Ext ρ L ρ' L') (h : RoR ρ ro f) : RoR ρ' ro f := by
 rcases h with h | ⟨l, r, h1, h2, h3⟩
 ·exact .inl h
 ·exact .inr ⟨l, r, h1, e.place _ _ h2, h3⟩
def Mid (base nt m n : Nat) (ρ : Rho) (L : Look) (w : World) (s : St) (R : World → Array Value → List Deferred → Prop) : Prop :=
 ∃ ρ' L' w' tmps' ds', Ctx base s.H s.n ρ' L' w' ∧ TR ρ' L' nt s.T tmps' ∧ DR ρ' L' m s.D ds' ∧ Ext ρ L ρ' L' ∧ Below base w w' ∧ Loc s.H n ρ L ρ' L' ∧ n ≤ s.n ∧ R w' tmps' ds'
def Out (P : Program) (base nt m n : Nat) (ρ : Rho) (L : Look) (w : World) (M : Sta) (f : FFix) (k : List Item) (cs : List Frame) : Res → Prop
 | .bad _ => True
 | .norm s => Mid base nt m n ρ L w s fun w' tmps' ds' => Steps P M (lone (mkF f tmps' ds' k) cs w')
 | .exit i s => Mid base nt m n ρ L w s fun w' tmps' ds' => ∃ k', exitTo i k' = exitTo i k ∧ Steps P M (lone (mkF f tmps' ds' (.code (.exit i) :: k')) cs w')
 | .ret s => Mid base nt m n ρ L w s fun w' tmps' ds' => ∃ k', Steps P M (lone (mkF f tmps' ds' (.code .ret :: k')) cs w')
section
variable {P : Program} {base nt m n n1 ro fuel : Nat} {ρ ρ1 : Rho} {L L1 : Look} {w w1 : World} {f : FFix} {call : Nat → List Nat → Trie → Nat → OR}
theorem Mid.mono {s : St} {R R' : World → Array Value → List Deferred → Prop} (h : Mid base nt m n ρ L w s R) (hr : ∀ a b c, R a b c → R' a b c) : Mid base nt m n ρ L w s R' :=
 let ⟨ρ', L', w', t, d, a1, a2, a3, a4, a5, l, a6, a7⟩ := h; ⟨ρ', L', w', t, d, a1, a2, a3, a4, a5, l, a6, hr _ _ _ a7⟩
theorem Mid.after {s : St} {R : World → Array Value → List Deferred → Prop} {H0 : Trie} (e : Ext ρ L ρ1 L1) (b : Below base w w1) (lc : Loc H0 n ρ L ρ1 L1) (hn : n ≤ n1) (h : Mid base nt m n1 ρ1 L1 w1 s R) : Mid base nt m n ρ L w s R :=
 let ⟨ρ', L', w', t, d, a1, a2, a3, a4, a5, l, a6, a7⟩ := h; ⟨ρ', L', w', t, d, a1, a2, a3, e.trans a4, b.trans a5, (Loc.trans lc hn l).any, Nat.le_trans hn a6, a7⟩
theorem Out.ahead {M M1 : Sta} {r : Res} {H0 : Trie} {k : List Item} {cs : List Frame} (e : Ext ρ L ρ1 L1) (b : Below base w w1) (lc : Loc H0 n ρ L ρ1 L1) (hn : n ≤ n1)
  (hM : Steps P M M1) (h : Out P base nt m n1 ρ1 L1 w1 M1 f k cs r) : Out P base nt m n ρ L w M f k cs r := by
 cases r with
 | bad => exact trivial
 | norm s =>
  refine (Mid.after e b lc hn h).mono ?_
  intro w' t d hs
  exact hM.trans hs
 | exit i s =>
  refine (Mid.after e b lc hn h).mono ?_
  intro w' t d ⟨k', h1, h2⟩
  exact ⟨k', h1, hM.trans h2⟩
 | ret s =>
  refine (Mid.after e b lc hn h).mono ?_
  intro w' t d ⟨k', h2⟩
  exact ⟨k', hM.trans h2⟩
theorem Out.leaves {M M1 : Sta} {r : Res} {k k1 : List Item} {cs : List Frame} (hM : Steps P M M1) (h : Out P base nt m n ρ L w M1 f k1 cs r) :
  (∀ i s, r = .exit i s → exitTo i k1 = exitTo i k → Out P base nt m n ρ L w M f k cs (.exit i s)) ∧ (∀ s, r = .ret s → Out P base nt m n ρ L w M f k cs (.ret s)) := by
 constructor
 ·rintro i s rfl hg
  refine Mid.mono h ?_
  intro w' t d ⟨k', h1, h2⟩
  exact ⟨k', h1.trans hg, hM.trans h2⟩
 ·rintro s rfl
  refine Mid.mono h ?_
  intro w' t d ⟨k', h2⟩
  exact ⟨k', hM.trans h2⟩
def Sound (P : Program) (base nt m : Nat) (ro : Nat) (f : FFix) (c : Code) (ex : St → Res) : Prop :=
 ∀ (s : St) (tmps : Array Value) (ds : List Deferred) (ρ : Rho) (L : Look) (w : World) (k : List Item) (cs : List Frame), Ctx base s.H s.n ρ L w → TR ρ L nt s.T tmps → DR ρ L m s.D ds → RoR ρ ro f → m ≤ s.n →
  Out P base nt m s.n ρ L w (lone (mkF f tmps ds (.code c :: k)) cs w) f k cs (ex s)
theorem zcD {a b : Code} {ea eb : St → Res} (ha : Sound P base nt m ro f a ea) (hb : Sound P base nt m ro f b eb) : Sound P base nt m ro f (.seq a b) fun s => (ea s).thenE eb := by
 intro s tmps ds ρ L w k cs c ht hd hro hm
 show Out P base nt m s.n ρ L w _ f k cs ((ea s).thenE eb)
 have h := ha s tmps ds ρ L w (.code b :: k) cs c ht hd hro hm
 have hl := Out.leaves (k := k) (M := lone (mkF f tmps ds (.code (.seq a b) :: k)) cs w) zcr h
 cases hr : ea s with
 | bad => exact trivial
 | norm s1 =>
  rw [hr] at h
  obtain ⟨ρ1, L1, w1, t1, d1, c1, ht1, hd1, e1, b1, l1, n1, h1⟩ := h
  have h2 := hb s1 t1 d1 ρ1 L1 w1 k cs c1 ht1 hd1 (hro.mono e1) (Nat.le_trans hm n1)
  exact Out.ahead e1 b1 l1 n1 (zcr.trans h1) h2
 | exit i s1 => exact hl.1 i s1 hr rfl
 | ret s1 => exact hl.2 s1 hr
theorem z9P {id : Nat} {b : Code} {eb : St → Res} (hb : Sound P base nt m ro f b eb) :
  Sound P base nt m ro f (.block id b) fun s => match eb s with | .norm s' => .norm s' | .exit i s' => sel (Nat.beq i id) (.norm s') (.exit i s') | .ret s' => .ret s' | .bad q => .bad q := by
 intro s tmps ds ρ L w k cs c ht hd hro hm
 have h := hb s tmps ds ρ L w (.inBlock id :: k) cs c ht hd hro hm
 have hl := Out.leaves (k := k) (M := lone (mkF f tmps ds (.code (.block id b) :: k)) cs w) z5D h
 dsimp only
 cases hr : eb s with
 | bad => exact trivial
 | norm s1 =>
  rw [hr] at h
  refine Mid.mono h ?_
  intro w' t d hs
  exact z5D.trans (hs.trans z7l)
 | ret s1 => exact hl.2 s1 hr
 | exit i s1 =>
  rw [hr] at h
  dsimp only
  rw [z8]
  split
  ·rename_i hi
   subst hi
   refine Mid.mono h ?_
   intro w' t d ⟨k', h1, h2⟩
   have : exitTo i (.inBlock i :: k) = some k := by simp [exitTo]
   exact z5D.trans (h2.trans (zct (h1.trans this)))
  ·rename_i hi
   refine hl.1 i s1 hr ?_
   have : (id == i) = false := by simp; exact fun h => hi h.symm
   simp [exitTo, this]
theorem zbm {q : Operand} {a b : Code} {ea eb : St → Res} (ha : Sound P base nt m ro f a ea) (hb : Sound P base nt m ro f b eb) :
  Sound P base nt m ro f (.cond q a b) fun s => sel (Nat.beq (ev s.T q) 18) (ea s) (sel (Nat.beq (ev s.T q) 2) (eb s) (.bad 0)) := by
 intro s tmps ds ρ L w k cs c ht hd hro hm
 show Out P base nt m s.n ρ L w _ f k cs (sel (Nat.beq (ev s.T q) 18) (ea s) (sel (Nat.beq (ev s.T q) 2) (eb s) (.bad 0)))
 rw [z8, z8]
 split
 ·rename_i hq
  have hv := zC ht q (by rw [hq]; decide)
  rw [hq] at hv
  exact Out.ahead (.refl _ _) (Below.refl _ _) (Loc.refl .nil _ _ _) (Nat.le_refl _) (z81 hv.z3F) (ha s tmps ds ρ L w k cs c ht hd hro hm)
 ·split
  ·rename_i hq
   have hv := zC ht q (by rw [hq]; decide)
   rw [hq] at hv
   exact Out.ahead (.refl _ _) (Below.refl _ _) (Loc.refl .nil _ _ _) (Nat.le_refl _) (z81 hv.z2O) (hb s tmps ds ρ L w k cs c ht hd hro hm)
  ·exact trivial
theorem z6r {b : Code} {eb : St → Res} (hb : Sound P base nt m ro f b eb) : ∀ (fuel : Nat) (s : St) (tmps : Array Value) (ds : List Deferred) (ρ : Rho) (L : Look) (w : World) (k : List Item) (cs : List Frame),
  Ctx base s.H s.n ρ L w → TR ρ L nt s.T tmps → DR ρ L m s.D ds → RoR ρ ro f → m ≤ s.n →
  Out P base nt m s.n ρ L w (lone (mkF f tmps ds (.code b :: .inLoop b :: k)) cs w) f k cs (loopE eb fuel s)
 | 0, s, tmps, ds, ρ, L, w, k, cs, c, ht, hd, hro, hm => trivial
 | fuel + 1, s, tmps, ds, ρ, L, w, k, cs, c, ht, hd, hro, hm => by
  have h := hb s tmps ds ρ L w (.inLoop b :: k) cs c ht hd hro hm
  have hl := Out.leaves (k := k) (M := lone (mkF f tmps ds (.code b :: .inLoop b :: k)) cs w) (Steps.refl _ _) h
  show Out P base nt m s.n ρ L w _ f k cs ((eb s).thenE (loopE eb fuel))
  cases hr : eb s with
  | bad => exact trivial
  | norm s1 =>
   rw [hr] at h
   obtain ⟨ρ1, L1, w1, t1, d1, c1, ht1, hd1, e1, b1, l1, n1, h1⟩ := h
   have h2 := z6r hb fuel s1 t1 d1 ρ1 L1 w1 k cs c1 ht1 hd1 (hro.mono e1) (Nat.le_trans hm n1)
   exact Out.ahead e1 b1 l1 n1 (h1.trans z8P) h2
  | exit i s1 => exact hl.1 i s1 hr rfl
  | ret s1 => exact hl.2 s1 hr
theorem zbn {b : Code} {eb : St → Res} (hb : Sound P base nt m ro f b eb) : Sound P base nt m ro f (.loop b) fun s => loopE eb fuel s := by
 intro s tmps ds ρ L w k cs c ht hd hro hm
 exact Out.ahead (.refl _ _) (Below.refl _ _) (Loc.refl .nil _ _ _) (Nat.le_refl _) zcs (z6r hb fuel s tmps ds ρ L w k cs c ht hd hro hm)
theorem Mid.here {s : St} {tmps : Array Value} {ds : List Deferred} {R : World → Array Value → List Deferred → Prop} (c : Ctx base s.H s.n ρ L w) (ht : TR ρ L nt s.T tmps) (hd : DR ρ L m s.D ds)
  (h : R w tmps ds) : Mid base nt m s.n ρ L w s R := ⟨ρ, L, w, tmps, ds, c, ht, hd, .refl _ _, Below.refl _ _, .refl _ _ _ _, Nat.le_refl _, h⟩
theorem z9Q {b : Code} {eb : St → Res} (hb : Sound P base nt m ro f b eb) : Sound P base nt m ro f (.scope b) fun s => eb s := by
 intro s tmps ds ρ L w k cs c ht hd hro hm
 have h := hb s tmps ds ρ L w (.inScope b :: k) cs c ht hd hro hm
 have hl := Out.leaves (k := k) (M := lone (mkF f tmps ds (.code (.scope b) :: k)) cs w) zaI h
 dsimp only
 cases hr : eb s with
 | bad => exact trivial
 | norm s1 =>
  rw [hr] at h
  refine Mid.mono h ?_
  intro w' t d hs
  exact zaI.trans (hs.trans zbg)
 | ret s1 => exact hl.2 s1 hr
 | exit i s1 => exact hl.1 i s1 hr rfl
theorem z94 (hcall : CallB P call) {id : Nat} {ops : Array Oper} : Sound P base nt m ro f (.region id ops false)
  fun s => match regE P call nt ops ops.toList s.T s.H s.n with | .ok T H n => .norm ⟨T, H, n, s.D⟩ | .bad q => .bad q := by
 intro s tmps ds ρ L w k cs c ht hd hro hm
 dsimp only
 cases hr : regE P call nt ops ops.toList s.T s.H s.n with
 | bad => exact trivial
 | ok T H n =>
  obtain ⟨ρ', L', w', tmps', c', ht', e, b, lc, hn, h1⟩ := z4S hcall f ds k cs ops.toList 0 s.T s.H s.n tmps ρ L w (fun j => by simp) hr c ht
  refine ⟨ρ', L', w', tmps', ds, c', ht', hd.mono e, e, b, ⟨lc.bare⟩, hn, ?_⟩
  rw [← List.range_eq_range'] at h1
  simp only [Array.length_toList] at h1
  exact z8Q.trans (h1.trans z3z)
theorem Ctx.drew {H : Trie} {n : Nat} {ρ : Rho} {L : Look} {w : World} (c : Ctx base H n ρ L w) (k : Nat) : Ctx base H n ρ L { w with drawn := k } := by
 refine ⟨?_, c.agree, c.fresh⟩
 exact c.sim.heap rfl
theorem zbo (hcall : CallB P call) {id : Nat} {ops : Array Oper} : Sound P base nt m ro f (.region id ops true)
  fun s => match drawR P call nt ops s.T s.H s.n with | .ok T H n => .norm ⟨T, H, n, s.D⟩ | .bad q => .bad q := by
 intro s tmps ds ρ L w k cs c ht hd hro hm
 dsimp only
 cases hr : drawR P call nt ops s.T s.H s.n with
 | bad => exact trivial
 | ok T H n =>
  obtain ⟨wp, hwp⟩ : ∃ wp, wp = padded (mkF f tmps ds (.code (.region id ops true) :: k)) cs w := ⟨_, rfl⟩
  have cp : Ctx base s.H s.n ρ L wp := hwp ▸ c.padded _ _
  have bp : Below base w wp := hwp ▸ z0l c _ _
  obtain ⟨hmx, hall⟩ := z9O hcall f ds k cs hr (cp.drew (wp.drawn + 1)) ht
  obtain ⟨ρ', L', w', tmps', c', ht', e, b, lc, hn, hst⟩ := hall (wp.tape wp.drawn (.order f.fn id))
  refine ⟨ρ', L', w', tmps', ds, c', ht', hd.mono e, e, (bp.trans (show Below base wp { wp with drawn := wp.drawn + 1 } from ⟨rfl, rfl, rfl, Nat.le_refl _, fun _ _ => rfl⟩)).trans b, ⟨lc.bare⟩, hn, ?_⟩
  subst hwp
  exact (zdq hmx).trans (hst.trans z3z)
end
end Go.Eng
namespace Go.Eng
open Go Go.RowKit
open Go.Conc (G)
variable [E : Env] [Pd : Pad]
section
variable {P : Program} {base nt m n n1 ro fuel : Nat} {ρ ρ1 : Rho} {L L1 : Look} {w w1 w' : World} {f : FFix} {call : Nat → List Nat → Trie → Nat → OR} {tmps : Array Value} {ds : List Deferred} {k : List Item} {cs : List Frame}
theorem loopNoRow (T nt : Nat) (ps : List Nat) (a b : Code) (st pd df : Nat) : NoRow (.loop T nt ps a b st pd df) := trivial
theorem Sim.setLoop {l T nt0 st pd df st' pd' : Nat} {ps : List Nat} {a b : Code} {r : Nat × Nat × Nat} {lp : Loop} (hs : Sim base ρ L w) (hl : ρ l = some r) (hL : L l = some (.loop T nt0 ps a b st pd df))
  (hlp : w.heap[r.1]? = some (.loop lp)) {lp' : Loop} (hp : lp' = { lp with state := stOf st', pending := pendOf pd' }) (hw : w'.heap = w.heap.setIfInBounds r.1 (.loop lp')) :
  Sim base ρ (upd L l (.loop T nt0 ps a b st' pd' df)) w' ∧ Ext ρ L ρ (upd L l (.loop T nt0 ps a b st' pd' df)) := by
 have ne : ∀ j (k : Blk), L j = some k → (∀ T nt0 ps a b st pd df, k ≠ .loop T nt0 ps a b st pd df) → j ≠ l := fun j k hj hk hjl => by
  subst hjl; rw [hL] at hj; injection hj with hj; exact hk _ _ _ _ _ _ _ _ hj.symm
 have e : Ext ρ L ρ (upd L l (.loop T nt0 ps a b st' pd' df)) := by
  refine ⟨⟨fun _ _ h => h, fun j kd m c hj => ?_, fun j p q s d lo hi hj => ?_, fun j hj => ?_⟩, fun j hj => ?_⟩
  ·rw [upd_ne _ _ (ne j _ hj (by intros; simp))]; exact hj
  ·rw [upd_ne _ _ (ne j _ hj (by intros; simp))]; exact hj
  ·rcases hj with hj | hj
   ·left; rw [upd_ne _ _ (ne j _ hj (by intros; simp))]; exact hj
   ·right; rw [upd_ne _ _ (ne j _ hj (by intros; simp))]; exact hj
  ·rw [upd_ne _ _ (ne j _ hj (by intros; simp))]; exact hj
 obtain ⟨k0, hk0, hbr⟩ := hs.blk l r hl
 rw [hL] at hk0; injection hk0 with hk0; subst hk0
 have hlive := (loopNoRow T nt0 ps a b st pd df).live hL
 obtain ⟨lp0, b1, b2, b3, b4, b5, b6, b7, q, b8, b9, b10⟩ := hbr hlive
 rw [hlp] at b1; injection b1 with b1; injection b1 with b1; subst b1
 have hlt : r.1 < w.heap.size := hs.bnd l r hl
 refine ⟨hs.swap hl hL (loopNoRow _ _ _ _ _ _ _ _) (loopNoRow _ _ _ _ _ _ _ _) e.toExt0 (fun x hx => ?_) (by rw [hw]; simp) ?_, e⟩
 ·rw [hw, Array.getElem?_setIfInBounds, if_neg (by omega)]
 ·subst hp
  exact ⟨{ lp with state := stOf st', pending := pendOf pd' }, by rw [hw]; simp [hlt], rfl, rfl, b4, b5, b6, b7.mono e, q, b8, b9, e.isdf _ b10⟩
theorem run_getLoop {l : Nat} {lp : Loop} (h : w.heap[l]? = some (.loop lp)) : (Instr.getLoop l).run P w = .ok lp w := by simp [Instr.getLoop, getObj, Sem.run, h]
theorem run_setObj_loop {l : Nat} {lp : Loop} {o : Obj} (h : w.heap[l]? = some (.loop lp)) : (setObj l o).run P w = .ok () { w with heap := w.heap.setIfInBounds l o } := by
 simp [setObj, Sem.run, h]
theorem z4D {r : Nat} {o : Obj} (hb : base ≤ r) : Below base w { w with heap := w.heap.setIfInBounds r o } :=
 ⟨rfl, rfl, rfl, by simp, fun j hj => by rw [Array.getElem?_setIfInBounds, if_neg (by omega)]⟩
theorem z7s {o : Obj} (hb : base ≤ w.heap.size) : Below base w { w with heap := w.heap.push o } :=
 ⟨rfl, rfl, rfl, by simp, fun j hj => by rw [Array.getElem?_push, if_neg (by omega)]⟩
theorem zdr {g : Operand} {ps : Array Tmp} {assign body : Code} {l : Nat} {mark : List Deferred} {x : Value}
  (he : (Instr.enterLoop f.fn tmps ps assign body f.ro).run P (padded (mkF f tmps ds (.code (.rangeFunc g ps assign body) :: k)) cs w) = .ok (l, mark) w1)
  (hT : Tame P (do let d ← Deferred.ofValue (evT tmps g) #[.func (.yield l) #[] #[]]; invoke d.target d.args) w1)
  (hd : Does P (do let d ← Deferred.ofValue (evT tmps g) #[.func (.yield l) #[] #[]]; invoke d.target d.args) w1 x w' (mkF f tmps (mark ++ ds) (.inRangeFunc l :: k)) cs) :
  Steps P (lone (mkF f tmps ds (.code (.rangeFunc g ps assign body) :: k)) cs w) (lone (mkF f tmps (mark ++ ds) (.endRangeFunc l :: k)) cs w') := by
 have hev := z5C f tmps ds (.code (.rangeFunc g ps assign body) :: k)
 have hg : ∀ W W1 es1, (Instr.enterLoop f.fn tmps ps assign body f.ro).runT P W #[] = (.ok (l, mark) W1, es1) →
   stepG P Pd.main (G (mkF f tmps ds (.code (.rangeFunc g ps assign body) :: k)) cs) W = GStep.after (seen P f.fn es1) (stepG.apply P true (mkF f tmps (mark ++ ds) (.inRangeFunc l :: k)) cs none
    (do let d ← Deferred.ofValue (evT tmps g) #[.func (.yield l) #[] #[]]; invoke d.target d.args) W1) := by
  intro W W1 es1 h
  simp only [mkF] at hev
  have h2 : ({ fn := f.fn, tmps := tmps, todo := Item.inRangeFunc l :: k, defers := mark ++ ds, mode := FrameMode.run, kind := f.kind, roundOf := f.ro } : Frame).eval = evT tmps := z5C f tmps (mark ++ ds) (.inRangeFunc l :: k)
  have hres : resolve (evT tmps) { callee := .value g, args := #[.const (.func (.yield l) #[] #[])], argTypes := #[] } 0 = Deferred.ofValue (evT tmps g) #[.func (.yield l) #[] #[]] := by simp [resolve, evT]
  simp only [stepG, stepG.exec, mkF, G, h]
  rw [h2, hres]
 have hf1 := z16 (P := P) f.fn tmps ps assign body f.ro _ _ _ he
 cases hd with
 | value h => exact .one (.op _ _ _ _ _ _ (z5u hf1 he (hT _ _ h) h hg rfl))
 | skip h hx => subst hx; exact .one (.op _ _ _ _ _ _ (z5u hf1 he (hT _ _ h) h hg rfl))
 | enter fid args w2 h hr => exact .trans (.one (.op _ _ _ _ _ _ (z5u hf1 he (hT _ _ h) h hg rfl))) hr
 | round l2 f2 tmps2 assign2 body2 w2 h hr => exact .trans (.one (.op _ _ _ _ _ _ (z5u hf1 he (hT _ _ h) h hg rfl))) hr
theorem z9R {l : Nat} {lp : Loop} {wp : World} (hwp : wp = padded (mkF f tmps ds (.endRangeFunc l :: k)) cs w) (hl : wp.heap[l]? = some (.loop lp)) (hb : lp.state ≠ .busy) :
  Steps P (lone (mkF f tmps ds (.endRangeFunc l :: k)) cs w)
   (lone (mkF f tmps ds ((lp.pending.map Item.code).toList ++ k)) cs { wp with heap := wp.heap.setIfInBounds l (.loop { lp with state := .exhausted }) }) := by
 have hrun : (Instr.endLoop l).run P wp = .ok lp.pending { wp with heap := wp.heap.setIfInBounds l (.loop { lp with state := .exhausted }) } := by
  simp [Instr.endLoop, run_getLoop hl, hb, run_setObj_loop hl]
 refine .one (.op _ _ _ _ _ _ ?_)
 subst hwp
 refine z2D (z4t (P := P) l _ _ _ hrun) hrun fun W W' es h => ⟨seen P f.fn es, z2c _ _ _, ?_⟩
 simp only [stepG, stepG.exec, mkF, G, h]
 simp [GStep.after]
theorem Ext.bare {L2 : Look} {ρ2 : Rho} (h : Ext ρ L ρ2 L2) : Ext0 ρ L ρ2 L2 := h.toExt0
theorem z9S (hcall : CallB P call) {g : Operand} {ps : Array Tmp} {assign body : Code} : Sound P base nt m ro f (.rangeFunc g ps assign body) fun s => rangeE P call nt ro g ps.toList assign body s := by
 intro s tmps ds ρ L w k cs c ht hd hro hm
 dsimp only
 unfold rangeE
 rw [z8]
 split
 ·exact trivial
 ·rename_i hg
  have hgv := zC ht g hg
  obtain ⟨wp, hwp⟩ : ∃ wp, wp = padded (mkF f tmps ds (.code (.rangeFunc g ps assign body) :: k)) cs w := ⟨_, rfl⟩
  have cp : Ctx base s.H s.n ρ L wp := hwp ▸ c.padded _ _
  have bp : Below base w wp := hwp ▸ z0l c _ _
  have half : ∀ (ρ1 : Rho) (L1 : Look) (w1 : World) (H1 : Trie) (l df : Nat) (D : List Nat) (mark : List Deferred) (q : Nat × Nat × Nat), Ctx base H1 l ρ1 L1 w1 → Ext ρ L ρ1 L1 → Below base wp w1 → Loc s.H s.n ρ L ρ1 L1 → s.n ≤ l →
    ρ1 df = some q → IsDf (L1 df) → DR ρ1 L1 m D (mark ++ ds) →
    (∀ w2 : World, w2.heap = w1.heap.push (.loop { state := .ready, pending := none, fn := f.fn, tmps := tmps, params := ps, assign := assign, body := body, defers := q.1 }) → w2.os = w1.os → w2.tape = w1.tape → w2.output = w1.output → w2.drawn = w1.drawn →
     (Instr.enterLoop f.fn tmps ps assign body f.ro).run P wp = .ok (w1.heap.size, mark) w2) →
    Out P base nt m s.n ρ L w (lone (mkF f tmps ds (.code (.rangeFunc g ps assign body) :: k)) cs w) f k cs
     (sel (ltb l maxBlk)
      (match call (ev s.T g) [mk 13 l] (hset H1 l (.loop s.T nt ps.toList assign body 0 0 df)) (Nat.succ l) with
       | .ok _ H' n' =>
        (match tget H' l with
        | some (.loop T0 nt0 ps0 a0 b0 st pend df0) =>
         sel (Nat.beq st 1) (.bad 0)
          (sel (Nat.beq pend 0) (.norm ⟨s.T, hset H' l (.loop T0 nt0 ps0 a0 b0 3 pend df0), n', D⟩) (sel (Nat.beq pend 1) (.ret ⟨s.T, hset H' l (.loop T0 nt0 ps0 a0 b0 3 pend df0), n', D⟩) (.exit (Nat.sub pend 2) ⟨s.T, hset H' l (.loop T0 nt0 ps0 a0 b0 3 pend df0), n', D⟩)))
        | _ => (.bad 0))
       | .bad q => .bad q) (.bad 0)) := by
   intro ρ1 L1 w1 H1 l df D mark q c1 e1 b1 lc1 hnl hdf hisdf hDR henter
   rw [zJ]
   split
   ·rename_i hl
    have hlp : ∃ w2 : World, w2 = { w1 with heap := w1.heap.push (.loop { state := .ready, pending := none, fn := f.fn, tmps := tmps, params := ps, assign := assign, body := body, defers := q.1 }) } := ⟨_, rfl⟩
    obtain ⟨w2, hw2⟩ := hlp
    have hheap2 : w2.heap = w1.heap.push (.loop { state := .ready, pending := none, fn := f.fn, tmps := tmps, params := ps, assign := assign, body := body, defers := q.1 }) := by rw [hw2]
    have e2 : Ext ρ1 L1 (updR ρ1 l (w1.heap.size, 0, 0)) (upd L1 l (.loop s.T nt ps.toList assign body 0 0 df)) := .fresh c1.fresh _ _
    have hhead : w2.heap[w1.heap.size]? = some (.loop { state := .ready, pending := none, fn := f.fn, tmps := tmps, params := ps, assign := assign, body := body, defers := q.1 }) := by rw [hheap2]; simp
    have hb2 : BR (updR ρ1 l (w1.heap.size, 0, 0)) (upd L1 l (.loop s.T nt ps.toList assign body 0 0 df)) w2 (w1.heap.size, 0, 0) (.loop s.T nt ps.toList assign body 0 0 df) :=
     ⟨_, hhead, rfl, rfl, rfl, rfl, rfl, (ht.mono e1).mono e2, q, e2.place _ _ hdf, rfl, e2.isdf _ hisdf⟩
    have c2 : Ctx base (hset H1 l (.loop s.T nt ps.toList assign body 0 0 df)) (l + 1) (updR ρ1 l (w1.heap.size, 0, 0)) (upd L1 l (.loop s.T nt ps.toList assign body 0 0 df)) w2 :=
     ⟨c1.sim.fresh c1.fresh hheap2 (by exact trivial) hb2, c1.agree.hset hl _, c1.fresh.upd _ _⟩
    have b2 : Below base w1 w2 := by rw [hw2]; exact z7s c1.sim.bs
    have hen := henter w2 hheap2 (by rw [hw2]) (by rw [hw2]) (by rw [hw2]) (by rw [hw2])
    split
    ·rename_i v H' n' hcal
     have hfv := (hgv.mono e1).mono e2
     obtain ⟨ρ3, L3, w3, x, c3, e3, b3, l3, hn3, hv, hdo⟩ := hcall.s _ _ _ _ _ _ _ _ _ #[.func (.yield w1.heap.size) #[] #[]] _ _ _ (mkF f tmps (mark ++ ds) (.inRangeFunc w1.heap.size :: k)) cs c2 hfv (.cons _ _ _ _ (.yld l w1.heap.size 0 0 (zU _ _ _)) .nil) hcal
     have hT := hcall.t _ _ _ _ _ _ _ _ _ #[.func (.yield w1.heap.size) #[] #[]] _ _ _ c2 hfv (.cons _ _ _ _ (.yld l w1.heap.size 0 0 (zU _ _ _)) .nil) hcal
     obtain ⟨wq, hwq⟩ : ∃ wq, wq = padded (mkF f tmps (mark ++ ds) (.endRangeFunc w1.heap.size :: k)) cs w3 := ⟨_, rfl⟩
     have cq : Ctx base H' n' ρ3 L3 wq := hwq ▸ c3.padded _ _
     have bq : Below base w3 wq := hwq ▸ z0l c3 _ _
     split
     ·rename_i T0 nt0 ps0 a0 b0 st pend df0 hget
      rw [z8]
      split
      ·exact trivial
      ·rename_i hst
       have hρ3 : ρ3 l = some (w1.heap.size, 0, 0) := e3.place _ _ (zU _ _ _)
       have hL3 := cq.agree.2 _ _ hget
       have hl3 := cq.agree.lt hget
       obtain ⟨k0, hk0, hbr⟩ := cq.sim.blk l _ hρ3
       rw [hL3] at hk0; injection hk0 with hk0; subst hk0
       obtain ⟨lp, p1, p2, p3, p4, p5, p6, p7, q', p8, p9, p10⟩ := hbr ((loopNoRow _ _ _ _ _ _ _ _).live hL3)
       have hnb : lp.state ≠ .busy := by
        rw [p2]
        match st, hst with
        | 0, _ => simp [stOf]
        | 2, _ => simp [stOf]
        | (x + 3), _ => simp [stOf]
       have hbase : base ≤ w1.heap.size := c1.sim.bs
       obtain ⟨s4, e4⟩ := cq.sim.setLoop (w' := { wq with heap := wq.heap.setIfInBounds w1.heap.size (.loop { lp with state := .exhausted }) }) (st' := 3) (pd' := pend) hρ3 hL3 p1 (lp' := { lp with state := .exhausted }) (by rw [← p3]; rfl) rfl
       have c4 : Ctx base (hset H' l (.loop T0 nt0 ps0 a0 b0 3 pend df0)) n' ρ3 (upd L3 l (.loop T0 nt0 ps0 a0 b0 3 pend df0)) { wq with heap := wq.heap.setIfInBounds w1.heap.size (.loop { lp with state := .exhausted }) } :=
        ⟨s4, cq.agree.hset hl3 _, fun j hj => ⟨by rw [upd_ne _ _ (by have := cq.fresh.ltL hL3; omega)]; exact (cq.fresh j hj).1, (cq.fresh j hj).2⟩⟩
       have eall : Ext ρ1 L1 ρ3 (upd L3 l (.loop T0 nt0 ps0 a0 b0 3 pend df0)) := (e2.trans e3).trans e4
       have ball : Below base w { wq with heap := wq.heap.setIfInBounds w1.heap.size (.loop { lp with state := .exhausted }) } := ((bp.trans b1).trans (b2.trans (b3.trans bq))).trans (z4D hbase)
       have hst1 : Steps P (lone (mkF f tmps ds (.code (.rangeFunc g ps assign body) :: k)) cs w) (lone (mkF f tmps (mark ++ ds) ((lp.pending.map Item.code).toList ++ k)) cs { wq with heap := wq.heap.setIfInBounds w1.heap.size (.loop { lp with state := .exhausted }) }) :=
        (zdr (hwp ▸ hen) hT hdo).trans (z9R hwq p1 hnb)
       have lall : Loc (hset H' l (.loop T0 nt0 ps0 a0 b0 3 pend df0)) s.n ρ L ρ3 (upd L3 l (.loop T0 nt0 ps0 a0 b0 3 pend df0)) := by
        have l12 : Loc s.H s.n ρ L ρ3 L3 := (lc1.trans hnl (.fresh (H := s.H) (w1.heap.size, 0, 0) (.loop s.T nt ps.toList assign body 0 0 df))).trans (Nat.le_trans hnl (Nat.le_succ l)) l3
        exact ⟨fun b hb hbn => ⟨by rw [upd_ne _ _ (Nat.ne_of_lt (Nat.lt_of_lt_of_le hb hnl))]; exact (l12.bare b hb hbn).1, (l12.bare b hb hbn).2⟩⟩
       have mid : ∀ R : World → Array Value → List Deferred → Prop, R { wq with heap := wq.heap.setIfInBounds w1.heap.size (.loop { lp with state := .exhausted }) } tmps (mark ++ ds) →
         Mid base nt m s.n ρ L w ⟨s.T, hset H' l (.loop T0 nt0 ps0 a0 b0 3 pend df0), n', D⟩ R := fun R hR =>
        ⟨ρ3, _, _, tmps, mark ++ ds, c4, ((ht.mono e1).mono eall), hDR.mono eall, e1.trans eall, ball, lall, by show s.n ≤ n'; omega, hR⟩
       rw [z8, z8]
       split
       ·rename_i hp0
        subst hp0
        refine mid _ ?_
        have h9 := hst1
        rw [show (lp.pending.map Item.code).toList ++ k = k from by rw [p3]; rfl] at h9
        exact h9
       ·split
        ·rename_i hp1
         subst hp1
         refine mid _ ?_
         have h9 := hst1
         rw [show (lp.pending.map Item.code).toList ++ k = Item.code .ret :: k from by rw [p3]; rfl] at h9
         exact ⟨k, h9⟩
        ·rename_i hp0 hp1
         obtain ⟨i, rfl⟩ : ∃ i, pend = i + 2 := ⟨pend - 2, by omega⟩
         refine mid _ ?_
         have h9 := hst1
         rw [show (lp.pending.map Item.code).toList ++ k = Item.code (.exit i) :: k from by rw [p3]; rfl] at h9
         exact ⟨k, rfl, h9⟩
     ·exact trivial
    ·exact trivial
   ·exact trivial
  dsimp only
  rw [z8]
  split
  ·-- a function's own frame
   rename_i hro0
   rw [zJ]
   split
   ·rename_i hn
    have hfro : f.ro = none := by
     rcases hro with ⟨_, h⟩ | ⟨l, r, h, _⟩
     ·exact h
     ·omega
    have hw1 : ∃ w1 : World, w1 = { wp with heap := wp.heap.push (.deferred (some [])) } := ⟨_, rfl⟩
    obtain ⟨w1, hw1⟩ := hw1
    have hheap : w1.heap = wp.heap.push (.deferred (some [])) := by rw [hw1]
    have e1 : Ext ρ L (updR ρ s.n (wp.heap.size, 0, 0)) (upd L s.n .defr) := .fresh c.fresh _ _
    have hb1 : BR (updR ρ s.n (wp.heap.size, 0, 0)) (upd L s.n .defr) w1 (wp.heap.size, 0, 0) .defr := by show w1.heap[wp.heap.size]? = _; rw [hheap]; simp
    have c1 : Ctx base (hset s.H s.n .defr) (s.n + 1) (updR ρ s.n (wp.heap.size, 0, 0)) (upd L s.n .defr) w1 :=
     ⟨cp.sim.fresh cp.fresh hheap (by exact trivial) hb1, cp.agree.hset hn _, cp.fresh.upd _ _⟩
    have hsz1 : w1.heap.size = wp.heap.size + 1 := by rw [hheap]; simp
    refine half _ _ w1 _ (s.n + 1) s.n (s.n :: s.D) [{ target := .collected wp.heap.size, args := #[] }] (wp.heap.size, 0, 0) c1 e1 (by rw [hw1]; exact z7s cp.sim.bs) (.fresh _ _) (Nat.le_succ _) (zU _ _ _) (.inl (upd_same _ _ _)) ?_ ?_
    ·refine .cons s.n (wp.heap.size, 0, 0) s.D ds (zU _ _ _) (upd_same _ _ _) hm (fun hmem => ?_) hn (hd.mono e1)
     have := hd.lt c.fresh s.n hmem; omega
    ·intro w2 h2 ho hta hou hdr
     have hw2 : w2 = { w1 with heap := w1.heap.push (.loop { state := .ready, pending := none, fn := f.fn, tmps := tmps, params := ps, assign := assign, body := body, defers := wp.heap.size }) } := by
      cases w2; cases w1; simp_all
     rw [hfro, hw2, hw1]
     rfl
   ·exact trivial
  ·-- in a round
   rename_i hro0
   obtain ⟨lr, rr, hlr, hρlr, hfr⟩ : ∃ l r, ro = l + 1 ∧ ρ l = some r ∧ f.ro = some r.1 := by
    rcases hro with ⟨h, _⟩ | h
    ·exact absurd h hro0
    ·exact h
   unfold lpDf
   split
   ·rename_i T0 nt0 ps0 a0 b0 st0 pd0 df hget
    rw [hlr, show Nat.pred (lr + 1) = lr from rfl] at hget
    have hL := c.agree.2 _ _ hget
    obtain ⟨k0, hk0, hbr⟩ := cp.sim.blk lr _ hρlr
    rw [hL] at hk0; injection hk0 with hk0; subst hk0
    obtain ⟨lp, p1, p2, p3, p4, p5, p6, p7, q, p8, p9, p10⟩ := hbr ((loopNoRow _ _ _ _ _ _ _ _).live hL)
    refine half ρ L wp s.H s.n df s.D [] q cp (.refl _ _) (Below.refl _ _) (.refl _ _ _ _) (Nat.le_refl _) p8 p10 hd ?_
    intro w2 h2 ho hta hou hdr
    have hw2 : w2 = { wp with heap := wp.heap.push (.loop { state := .ready, pending := none, fn := f.fn, tmps := tmps, params := ps, assign := assign, body := body, defers := q.1 }) } := by
     cases w2; cases wp; simp_all
    rw [hfr, hw2]
    simp [Instr.enterLoop, run_getLoop p1, p9]
   ·exact trivial
theorem z4c (hcall : CallB P call) (c : Code) : Sound P base nt m ro f c (execE P call nt ro fuel c) := by
 induction c with
 | skip => exact fun s tmps ds ρ L w k cs c ht hd hro hm => Mid.here c ht hd zcq
 | region id ops draw =>
  cases draw with
  | false => exact z94 hcall
  | true => exact zbo hcall
 | seq a b iha ihb => exact zcD iha ihb
 | cond q a b iha ihb => exact zbm iha ihb
 | block id b ih => exact z9P ih
 | loop b ih => exact zbn ih
 | rangeFunc g ps assign body _ _ => exact z9S hcall
 | exit id => exact fun s tmps ds ρ L w k cs c ht hd hro hm => Mid.here c ht hd ⟨k, rfl, Steps.refl _ _⟩
 | scope b ih => exact z9Q ih
 | label l => exact fun s tmps ds ρ L w k cs c ht hd hro hm => Mid.here c ht hd zdj
 | goto l => exact fun s tmps ds ρ L w k cs c ht hd hro hm => trivial
 | ret => exact fun s tmps ds ρ L w k cs c ht hd hro hm => Mid.here c ht hd ⟨k, Steps.refl _ _⟩
 | refuse why => exact fun s tmps ds ρ L w k cs c ht hd hro hm => trivial
end
end Go.Eng
namespace Go.Eng
open Go Go.RowKit
open Go.Conc (G)
variable [E : Env] [Pd : Pad]
def mkR (f : FFix) (tmps : Array Value) (ds : List Deferred) (todo : List Item) : Frame :=
 { fn := f.fn, tmps := tmps, todo := todo, defers := ds, mode := .returning, kind := f.kind, roundOf := f.ro }
section
variable {P : Program} {base nt m n n1 n' ro fuel v : Nat} {H H' : Trie} {ρ ρ1 : Rho} {L L1 : Look} {w w1 w' : World} {f : FFix} {call : Nat → List Nat → Trie → Nat → OR} {tmps : Array Value} {ds : List Deferred} {k : List Item} {cs : List Frame}
theorem z95 (hf : f.ro = none) : Steps P (lone (mkF f tmps ds []) cs w) (lone (mkR f tmps ds []) cs w) := .one (.mute _ _ _ _ _ fun W => by simp [stepG, stepG.exec, mkF, mkR, G, hf])
theorem z6s (hf : f.ro = none) : Steps P (lone (mkF f tmps ds (.code .ret :: k)) cs w) (lone (mkR f tmps ds (.code .ret :: k)) cs w) := .one (.mute _ _ _ _ _ fun W => by simp [stepG, stepG.exec, mkF, mkR, G, hf])
theorem zaN {r : Nat} (h : w.heap[r]? = some (.deferred (some []))) : (Instr.takeDeferred r).run P w = .ok [] { w with heap := w.heap.setIfInBounds r (.deferred none) } := by
 simp [Instr.takeDeferred, getObj, setObj, Sem.run, h]
theorem zcE {r : Nat} {wp : World} (hwp : wp = padded (mkR f tmps ({ target := .collected r, args := #[] } :: ds) k) cs w) (h : wp.heap[r]? = some (.deferred (some []))) :
  Steps P (lone (mkR f tmps ({ target := .collected r, args := #[] } :: ds) k) cs w) (lone (mkR f tmps ds k) cs { wp with heap := wp.heap.setIfInBounds r (.deferred none) }) := by
 refine .one (.op _ _ _ _ _ _ ?_)
 subst hwp
 refine z2D (z4u (P := P) r _ _ _ (zaN h)) (zaN h) fun W W' es he => ⟨seen P f.fn es, z2c _ _ _, ?_⟩
 simp only [stepG, unwind, mkR, G, he]
 simp [GStep.after]
theorem zbp (d : Nat) (D : List Nat) (H : Trie) : goneE (d :: D) H = goneE D (hset H d .gone) := rfl
theorem zbq (f : FFix) (tmps : Array Value) (k : List Item) (cs : List Frame) (ds0 : List Nat) (ds : List Deferred) : ∀ (H : Trie) (n : Nat) (L : Look) (w : World), DR ρ L m ds0 ds → Ctx base H n ρ L w → (∀ d ∈ ds0, d < 16384) →
  ∃ L' w', Ctx base (goneE ds0 H) n ρ L' w' ∧ Ext0 ρ L ρ L' ∧ Below base w w' ∧ (∀ b, b < m → L' b = L b) ∧ Steps P (lone (mkR f tmps ds k) cs w) (lone (mkR f tmps [] k) cs w') := by
 induction ds0 generalizing ds with
 | nil =>
  intro H n L w hd c _
  cases hd
  exact ⟨L, w, c, .refl _ _, Below.refl _ _, fun _ _ => rfl, Steps.refl _ _⟩
 | cons d D ih =>
  intro H n L w hd c hlt
  cases hd with
  | cons _ r _ ds' h1 h2 h3 h4 h55 h5 =>
   obtain ⟨wp, hwp⟩ : ∃ wp, wp = padded (mkR f tmps ({ target := .collected r.1, args := #[] } :: ds') k) cs w := ⟨_, rfl⟩
   have cp : Ctx base H n ρ L wp := hwp ▸ c.padded _ _
   have bp : Below base w wp := hwp ▸ z0l c _ _
   obtain ⟨k0, hk0, hbr⟩ := cp.sim.blk d r h1
   rw [h2] at hk0; injection hk0 with hk0; subst hk0
   have hheap : wp.heap[r.1]? = some (.deferred (some [])) := hbr (NoRow.live (k := .defr) trivial h2)
   have hsize : r.1 < wp.heap.size := cp.sim.bnd d r h1
   have ne : ∀ j (k : Blk), L j = some k → k ≠ .defr → j ≠ d := fun j k hj hk hjd => by subst hjd; rw [h2] at hj; injection hj with hj; exact hk hj.symm
   have e : Ext0 ρ L ρ (upd L d .gone) := by
    refine ⟨fun _ _ h => h, fun j kd mm cc hj => ?_, fun j p q s d lo hi hj => ?_, fun j hj => ?_⟩
    ·rw [upd_ne _ _ (ne j _ hj (by simp))]; exact hj
    ·rw [upd_ne _ _ (ne j _ hj (by simp))]; exact hj
    ·by_cases hjd : j = d
     ·subst hjd; right; exact upd_same _ _ _
     ·unfold IsDf; rw [upd_ne _ _ hjd]; exact hj
   have s1 := cp.sim.swap (w' := { wp with heap := wp.heap.setIfInBounds r.1 (.deferred none) }) h1 h2 (k' := .gone) trivial trivial e
    (fun x hx => by simp only; rw [Array.getElem?_setIfInBounds, if_neg (by omega)]) (by simp) trivial
   have hbase : base ≤ r.1 := c.sim.rw d r h1 (by rw [NoRow.grp (k := .defr) trivial h2]; omega)
   have c1 : Ctx base (hset H d .gone) n ρ (upd L d .gone) { wp with heap := wp.heap.setIfInBounds r.1 (.deferred none) } :=
    ⟨s1, c.agree.hset (hlt d (by simp)) _, fun j hj => ⟨by rw [upd_ne _ _ (by have := c.fresh.lt h1; omega)]; exact (c.fresh j hj).1, (c.fresh j hj).2⟩⟩
   have h5' : DR ρ (upd L d .gone) m D ds' := by
    clear ih hwp hlt c c1 s1 e ne hbr
    induction h5 with
    | nil => exact .nil
    | cons x q D' ds'' g1 g2 g3 g4 g5 _ ih2 =>
     have hne : x ≠ d := fun hx => h4 (by subst hx; simp)
     exact .cons x q D' ds'' g1 (by rw [upd_ne _ _ hne]; exact g2) g3 g4 g5 (ih2 (fun hh => h4 (by simp [hh])))
   obtain ⟨L', w', c2, e2, b2, hm2, st2⟩ := ih ds' (hset H d .gone) n (upd L d .gone) _ h5' c1 (fun x hx => hlt x (by simp [hx]))
   exact ⟨L', w', by rw [zbp]; exact c2, e.trans e2, (bp.trans (z4D hbase)).trans b2, fun b hb => by rw [hm2 b hb, upd_ne _ _ (by omega)], (zcE hwp hheap).trans st2⟩
theorem z3N : ∀ (rs : List ResultVar) (H : Trie) (n : Nat) (L : Look) (k : List Nat → Trie → Nat → OR) (r : OR) (T : Nat), Ctx base H n ρ L w → TR ρ L nt T tmps → resB P T rs H n k = r → (∀ q, r ≠ .bad q) →
  ∃ vs ws H1 n1 L1, Ctx base H1 n1 ρ L1 w ∧ Ext ρ L ρ L1 ∧ (∀ b, b < n → L1 b = L b) ∧ n ≤ n1 ∧ k ws H1 n1 = r ∧ AR ρ L1 ws vs ∧
   (rs.mapM (fun | .tmp t => pure (tmps.getD t Go.undef) | .cell a t => do loadVar t (← asAddr (tmps.getD a Go.undef)) : ResultVar → Sem Value)).run P w = .ok vs w
 | [], H, n, L, k, r, T, c, ht, h, hr => ⟨[], [], H, n, L, c, .refl _ _, fun _ _ => rfl, Nat.le_refl _, h, .nil, rfl⟩
 | .tmp t :: rs, H, n, L, k, r, T, c, ht, h, hr => by
  have e : resB P T (.tmp t :: rs) H n k = resB P T rs H n (fun ws => k (getW T t :: ws)) := rfl
  rw [e] at h
  obtain ⟨vs, ws, H1, n1, L1, c1, e1, f1, hn, hk, ha, hrun⟩ := z3N rs H n L _ r T c ht h hr
  exact ⟨_, _, H1, n1, L1, c1, e1, f1, hn, hk, .cons _ _ _ _ ((ht.2 t).mono e1) ha, by rw [List.mapM_cons]; simp only [Sem.run_bind, Sem.run_pure, Result.andThen_ok, hrun]⟩
 | .cell a t :: rs, H, n, L, k, r, T, c, ht, h, hr => by
  have e : resB P T (.cell a t :: rs) H n k = sel (plain P t)
     (sel (Nat.beq (tagOf (getW T a)) 3) (sel (Nat.beq (pBlk (payOf (getW T a))) 0) (.bad 0)
      (sel (Nat.beq (tagOf (rd H (Nat.pred (pBlk (payOf (getW T a)))) (pOff (payOf (getW T a))))) 15) (.bad 0) (resB P T rs H n (fun ws => k (rd H (Nat.pred (pBlk (payOf (getW T a)))) (pOff (payOf (getW T a))) :: ws))))) (.bad 0))
     (match loadA P t (getW T a) H n with | .ok v H' n' => resB P T rs H' n' (fun ws => k (v :: ws)) | .bad q => .bad q) := rfl
  rw [e, zf] at h
  split at h
  ·rename_i hp
   rw [z8] at h
   split at h
   ·rename_i h3
    rw [z8] at h
    split at h
    ·exact absurd h.symm (hr _)
    ·rename_i hz
     rw [z8] at h
     split at h
     ·exact absurd h.symm (hr _)
     ·rename_i hnb
      rcases (ht.2 a).z1j h3 with ⟨h4, _⟩ | ⟨b, off, rb, d, sz, hb', hof, hw, hv⟩
      ·rw [h4] at hz; exact absurd rfl hz
      ·obtain ⟨_, p2, p3⟩ := z2p b off hof
       rw [hw, p2, p3, Nat.pred_succ] at h hnb
       obtain ⟨u, hcell, hu⟩ := z7L c hb' hnb
       obtain ⟨vs, ws, H1, n1, L1, c1, e1, f1, hn, hk, ha, hrun⟩ := z3N rs H n L _ r T c ht h hr
       refine ⟨_, _, H1, n1, L1, c1, e1, f1, hn, hk, .cons _ _ _ _ (hu.mono e1) ha, ?_⟩
       have hld : (do loadVar t (← asAddr (tmps.getD a Go.undef)) : Sem Value).run P w = .ok u w := by rw [hv]; simp [asAddr, loadVar, run_isAgg_plain hp, hcell]
       rw [List.mapM_cons, Sem.run_bind]
       refine Eq.trans (congrArg (Result.andThen · _) hld) ?_
       simp only [Result.andThen_ok, Sem.run_bind, hrun, Sem.run_pure]
   ·exact absurd h.symm (hr _)
  ·split at h
   ·rename_i v0 H0 n0 hl
    have hptr : ∃ p, tmps.getD a Go.undef = .pointer (some p) := by
     unfold loadA at hl
     rw [zf] at hl
     split at hl
     ·rw [z8] at hl
      split at hl
      ·rename_i h3
       rw [z8] at hl
       split at hl
       ·cases hl
       ·rename_i hz
        rcases (ht.2 a).z1j h3 with ⟨h4, _⟩ | ⟨b, off, rb, d, sz, hb', hof, hw, hv⟩
        ·rw [h4] at hz; exact absurd rfl hz
        ·exact ⟨_, hv⟩
      ·cases hl
     ·cases hl
    obtain ⟨p, hp⟩ := hptr
    obtain ⟨x, hcx, hrunx⟩ := z6W c (ht.2 a) hl
    have step : ∃ L0, Ctx base H0 n0 ρ L0 w ∧ Ext ρ L ρ L0 ∧ (∀ b, b < n → L0 b = L b) ∧ n ≤ n0 ∧ VR ρ L0 v0 x := by
     rcases hcx with ⟨rfl, rfl, hv⟩ | ⟨kb, hkb, rfl, rfl, hn, rfl, hv⟩
     ·exact ⟨L, c, .refl _ _, fun _ _ => rfl, Nat.le_refl _, hv⟩
     ·have e : Ext ρ L ρ (upd L n kb) := .freshL c.fresh _
      exact ⟨upd L n kb, ⟨c.sim.boxB c.fresh hkb, c.agree.hset hn _, c.fresh.updL _⟩, e, fun b hb => upd_ne _ _ (by omega), Nat.le_succ _, hv ρ _ n e.toExt0 (upd_same _ _ _)⟩
    obtain ⟨L0, c0, e0, f0, hn0, hv0⟩ := step
    obtain ⟨vs, ws, H1, n1, L1, c1, e1, f1, hn, hk, ha, hrun⟩ := z3N rs H0 n0 L0 _ r T c0 (ht.mono e0) h hr
    refine ⟨_, _, H1, n1, L1, c1, e0.trans e1, fun b hb => (f1 b (by omega)).trans (f0 b hb), Nat.le_trans hn0 hn, hk, .cons _ _ _ _ (hv0.mono e1) ha, ?_⟩
    have hld : (do loadVar t (← asAddr (tmps.getD a Go.undef)) : Sem Value).run P w = .ok x w := by
     rw [hp] at hrunx ⊢
     simpa [asAddr, Instr.loadAt, Instr.sureAddr] using hrunx
    rw [List.mapM_cons, Sem.run_bind]
    refine Eq.trans (congrArg (Result.andThen · _) hld) ?_
    simp only [Result.andThen_ok, Sem.run_bind, hrun, Sem.run_pure]
   ·exact absurd h.symm (hr _)
theorem zbr (c : Ctx base H n ρ L w) {ws : List Nat} {vs : List Value} (ha : AR ρ L ws vs) (h : tupE ws H n = .ok v H' n') :
  ∃ L' x, Ctx base H' n' ρ L' w ∧ Ext ρ L ρ L' ∧ (∀ b, b < n → L' b = L b) ∧ n ≤ n' ∧ VR ρ L' v x ∧ x = (if h : vs.toArray.size = 1 then vs.toArray[0] else .tuple vs.toArray) := by
 unfold tupE at h
 rw [zf] at h
 split at h
 ·rename_i hnb
  rcases ws with _ | ⟨w0, _ | ⟨w1, ws⟩⟩
  ·cases ha
   injection h with h1 h2 h3
   subst h1; subst h2; subst h3
   exact ⟨L, _, c, .refl _ _, fun _ _ => rfl, Nat.le_refl _, .undef, rfl⟩
  ·cases ha with
   | cons _ x _ _ hx ha' =>
    cases ha'
    injection h with h1 h2 h3
    subst h1; subst h2; subst h3
    exact ⟨L, x, c, .refl _ _, fun _ _ => rfl, Nat.le_refl _, hx, rfl⟩
  ·dsimp only at h
   rw [zf] at h
   split at h
   ·rename_i hsl
    unfold newBox at h
    rw [zJ] at h
    split at h
    ·rename_i hn
     injection h with h1 h2 h3
     subst h1; subst h2; subst h3
     have e : Ext ρ L ρ (upd L n (.box 1 (w0 :: w1 :: ws).length (listW (w0 :: w1 :: ws)))) := .freshL c.fresh _
     have hsz : vs.toArray.size ≠ 1 := by
      have h2 := ha.length
      simp at h2
      simp [h2]
     refine ⟨_, .tuple vs.toArray, ⟨c.sim.box c.fresh _ _ _, c.agree.hset hn _, c.fresh.updL _⟩, e, fun b hb => upd_ne _ _ (by omega), Nat.le_succ _, ?_, by rw [dif_neg hsz]⟩
     refine .tup n _ _ _ (upd_same _ _ _) (by simp [ha.length]) fun i hi => ?_
     rw [z0X _ hsl]
     have hi' : i < vs.length := by simpa using hi
     simpa using (ha.get i hi').mono e
    ·cases h
   ·cases h
 ·cases h
def CallsAt (P : Program) (f : FuncId) (args : Array Value) (w : World) (cs : List Frame) (R : Ending → World → Prop) : Prop :=
 ∃ x w2 tmps td fn, R (.returned x) (padded (mkR ⟨f, .normal, none⟩ tmps [] td) cs w2) ∧ Steps P (lone (Frame.enter P f args .normal) cs w) (lone (mkR ⟨f, .normal, none⟩ tmps [] td) cs w2) ∧
  P.funcs[f]? = some fn ∧ w.heap.size ≤ w2.heap.size ∧ (results fn tmps).run P (padded (mkR ⟨f, .normal, none⟩ tmps [] td) cs w2) = .ok x (padded (mkR ⟨f, .normal, none⟩ tmps [] td) cs w2)
theorem z2o (hcall : CallB P call) (cs : List Frame) {fid : Nat} {args : List Nat} {vs : Array Value} (c : Ctx base H n ρ L w) (ha : AR ρ L args vs.toList) (h : funE P call fuel fid args H n = .ok v H' n') :
  After base H n ρ L w v H' n' (fun x w' => (∃ fn, P.funcs[fid]? = some fn ∧ fn.body.isSome = true ∧ fn.name ≠ "runtime.NumGoroutine") ∧ CallsAt P fid vs w cs (fun e W => e = .returned x ∧ W = w')) := by
 unfold funE at h
 split at h
 ·rename_i fn hfn
  split at h
  ·rename_i body hbody
   rw [z8] at h
   split at h
   ·cases h
   ·rename_i hname
    have hname' : fn.name ≠ "runtime.NumGoroutine" := by
     intro hh; apply hname; unfold funE.bne'; rw [if_pos hh]
    rw [z0k] at h
    split at h
    ·rename_i hle
     rw [zf] at h
     split at h
     ·rw [zf] at h
      split at h
      ·rename_i hnb hsl
       have hlen : vs.size = args.length := by have := ha.length; simpa using this
       have ht : TR ρ L fn.ntmps (listW args) (vs ++ Array.replicate (fn.ntmps - vs.size) Go.undef) := by
        refine ⟨by simp; omega, fun t => ?_⟩
        rw [z0X _ hsl]
        by_cases htl : t < vs.size
        ·have h1 := ha.get t (by simpa using htl)
         have e : (vs ++ Array.replicate (fn.ntmps - vs.size) Go.undef).getD t Go.undef = vs.toList[t]'(by simpa using htl) := by
          simp [Array.getD_eq_getD_getElem?, Array.getElem?_append, htl]
         rw [e]; exact h1
        ·have e1 : args.getD t 0 = 0 := by simp [List.getD_eq_getElem?_getD, List.getElem?_eq_none (show args.length ≤ t by omega)]
         have e2 : (vs ++ Array.replicate (fn.ntmps - vs.size) Go.undef).getD t Go.undef = Go.undef := by
          simp only [Array.getD_eq_getD_getElem?, Array.getElem?_append, if_neg htl, Array.getElem?_replicate]
          split <;> rfl
         rw [e1, e2]; exact .undef
       have hex := z4c (base := base) (nt := fn.ntmps) (m := n) (ro := 0) (fuel := fuel) (f := ⟨fid, .normal, none⟩) hcall body ⟨listW args, H, n, []⟩ _ [] ρ L w [] cs c ht .nil (.inl ⟨rfl, rfl⟩) (Nat.le_refl _)
       have henter : Frame.enter P fid vs .normal = mkF ⟨fid, .normal, none⟩ (vs ++ Array.replicate (fn.ntmps - vs.size) Go.undef) [] [.code body] := by
        simp [Frame.enter, hfn, hbody, mkF]
       have fin : ∀ (s : St), (Mid base fn.ntmps n n ρ L w s fun w' tmps' ds' => ∃ td, Steps P (lone (Frame.enter P fid vs .normal) cs w) (lone (mkR ⟨fid, .normal, none⟩ tmps' ds' td) cs w')) →
         resB P s.T fn.results.toList (goneE s.D s.H) s.n tupE = .ok v H' n' →
         After base H n ρ L w v H' n' (fun x w' => (∃ fn, P.funcs[fid]? = some fn ∧ fn.body.isSome = true ∧ fn.name ≠ "runtime.NumGoroutine") ∧ CallsAt P fid vs w cs (fun e W => e = .returned x ∧ W = w')) := by
        rintro s ⟨ρ1, L1, w1, t1, d1, c1, ht1, hd1, e1, b1, lc1, hn1, hst⟩ heq
        ·obtain ⟨td, h1⟩ := hst
         obtain ⟨L2, w2, c2, e2, b2, hm2, st2⟩ := zbq (P := P) ⟨fid, .normal, none⟩ t1 td cs s.D d1 s.H s.n L1 w1 hd1 c1 hd1.small
         obtain ⟨wr, hwr⟩ : ∃ wr, wr = padded (mkR ⟨fid, .normal, none⟩ t1 [] td) cs w2 := ⟨_, rfl⟩
         have cr : Ctx base (goneE s.D s.H) s.n ρ1 L2 wr := hwr ▸ c2.padded _ _
         have br : Below base w2 wr := hwr ▸ z0l c2 _ _
         obtain ⟨rv, ws, H5, n5, L5, c5, e5, hm5, hn5, heq, har, hrun⟩ := z3N fn.results.toList _ _ _ _ _ _ cr (ht1.mono0 e2) heq (by simp)
         obtain ⟨L3, x, c3, e3', hm3', hn3', hv, hx⟩ := zbr c5 har heq
         have e3 : Ext ρ1 L2 ρ1 L3 := e5.trans e3'
         have hm3 : ∀ b, b < s.n → L3 b = L2 b := fun b hb => (hm3' b (by omega)).trans (hm5 b hb)
         have hn3 : s.n ≤ n' := Nat.le_trans hn5 hn3'
         have eall : Ext ρ L ρ1 L3 := by
          have e12 := (e1.toExt0.trans e2).trans e3.toExt0
          refine ⟨e12, fun b hb => ?_⟩
          have hbn := c.fresh.ltL hb
          rw [hm3 b (by omega), hm2 b hbn]; exact e1.defr b hb
         refine ⟨ρ1, L3, wr, x, c3, eall, (b1.trans b2).trans br, ⟨fun b hb hbn => ⟨by rw [hm3 b (by omega), hm2 b hb]; exact (lc1.bare b hb hbn).1, (lc1.bare b hb hbn).2⟩⟩, by omega, hv, ⟨fn, hfn, by rw [hbody]; rfl, hname'⟩, ?_⟩
         subst hwr
         refine ⟨x, w2, t1, td, fn, ⟨rfl, rfl⟩, h1.trans st2, hfn, (b1.trans b2).size, ?_⟩
         unfold results
         rw [Array.mapM_eq_mapM_toList]
         simp only [Sem.run_bind, Sem.run_map, Sem.run_pure]
         refine Eq.trans (congrArg (fun q => Result.andThen (Result.andThen q _) _) hrun) ?_
         rw [hx]; rfl
       split at h
       ·rename_i s hr
        rw [hr] at hex
        refine fin s (Mid.mono hex ?_) h
        intro w' t d hs
        rw [← henter] at hs
        exact ⟨_, hs.trans (z95 rfl)⟩
       ·rename_i s hr
        rw [hr] at hex
        refine fin s (Mid.mono hex ?_) h
        intro w' t d ⟨k', h1⟩
        rw [← henter] at h1
        exact ⟨_, h1.trans (z6s rfl)⟩
       ·cases h
       ·cases h
      ·cases h
     ·cases h
    ·cases h
  ·cases h
 ·cases h
end
end Go.Eng
namespace Go.Eng
open Go Go.RowKit
open Go.Conc (G)
variable [E : Env] [Pd : Pad]
section
variable {P : Program} {base nt m n n1 n' ro fuel v : Nat} {H H' : Trie} {ρ ρ1 : Rho} {L L1 : Look} {w w1 w' : World} {f : FFix} {call : Nat → List Nat → Trie → Nat → OR} {tmps : Array Value} {ds : List Deferred} {k : List Item} {cs : List Frame}
theorem z4E (fn : Func) (tmps : Array Value) : Plain P (results fn tmps) := by
 unfold results
 refine Plain.bind (z5N _ fun r => ?_) fun _ => zb _
 split
 ·exact zb _
 ·exact Plain.bind (z00 _) fun _ => zI _ _
theorem returns_of_calls {fid : Nat} {vs : Array Value} {x : Value} {c : Frame} (h : CallsAt P fid vs w (c :: cs) (fun e W => e = .returned x ∧ W = w')) : Returns P (Frame.enter P fid vs .normal) w x w' c cs := by
 obtain ⟨x', w2, tmps, td, fn, ⟨he, hW⟩, hst, hfn, _, hrun⟩ := h
 injection he with he; subst he
 refine Steps.trans hst (.one ?_)
 rw [← hW]
 refine .op _ _ _ _ _ _ (z2D (z4E (P := P) fn tmps _ _ _ hrun) hrun fun W W' es h => ⟨seen P fid es, z2c _ _ _, ?_⟩)
 simp only [stepG, unwind, mkR, G, hfn, h]
 simp [doReturn, GStep.after]
theorem z6t : ∀ (ps args : List Nat) (vs : List Value) (T T1 : Nat) (tmps : Array Value), TR ρ L nt T tmps → AR ρ L args vs → setPs nt ps args T = .some T1 →
  ps.length = vs.length ∧ TR ρ L nt T1 ((ps.zip vs).foldl (fun t p => t.setIfInBounds p.1 p.2) tmps)
 | [], args, vs, T, T1, tmps, ht, ha, h => by
  cases ha with
  | nil =>
   have e : setPs nt [] [] T = .some T := rfl
   rw [e] at h; injection h with h; subst h; exact ⟨rfl, ht⟩
  | cons x v xs vs' _ _ =>
   have e : setPs nt [] (x :: xs) T = .none := rfl
   rw [e] at h; cases h
 | p :: ps, args, vs, T, T1, tmps, ht, ha, h => by
  cases ha with
  | nil =>
   have e : setPs nt (p :: ps) [] T = .none := rfl
   rw [e] at h; cases h
  | cons x v xs vs' hx ha' =>
   have e : setPs nt (p :: ps) (x :: xs) T = sel (ltb p nt) (sel (ltb x 340282366920938463463374607431768211456) (setPs nt ps xs (setW T p x)) .none) .none := rfl
   rw [e, zJ] at h
   split at h
   ·rename_i hp
    rw [zJ] at h
    split at h
    ·rename_i hxl
     obtain ⟨h1, h2⟩ := z6t ps xs vs' _ T1 _ (ht.set hp hxl hx) ha' h
     exact ⟨by simp [h1], h2⟩
    ·cases h
   ·cases h
theorem zds (params : Array Tmp) (args : Array Value) (tmps : Array Value) :
  (params.zip args).foldl (fun tmps (x : Tmp × Value) => tmps.setIfInBounds x.1 x.2) tmps = (params.toList.zip args.toList).foldl (fun t p => t.setIfInBounds p.1 p.2) tmps := by
 rw [← Array.foldl_toList, Array.toList_zip]
theorem run_beginRound {why : String} {l : Nat} {lp : Loop} (h : w.heap[l]? = some (.loop lp)) (hs : lp.state = .ready) :
  (do (some l).elim (stuck why) Instr.beginRound; pure Next.skip : Sem Next).run P w = .ok .skip { w with heap := w.heap.setIfInBounds l (.loop { lp with state := .busy }) } := by
 simp [Instr.beginRound, run_getLoop h, run_setObj_loop h, hs]
theorem z8c {l : Nat} {lp : Loop} {wp : World} (hwp : wp = padded (mkF f tmps ds (.beginRound :: k)) cs w) (hf : f.ro = some l) (h : wp.heap[l]? = some (.loop lp)) (hs : lp.state = .ready) :
  Steps P (lone (mkF f tmps ds (.beginRound :: k)) cs w) (lone (mkF f tmps ds k) cs { wp with heap := wp.heap.setIfInBounds l (.loop { lp with state := .busy }) }) := by
 refine .one (.op _ _ _ _ _ _ ?_)
 subst hwp
 have hp : Plain P (do (some l).elim (stuck "beginRound: no round") Instr.beginRound; pure Next.skip : Sem Next) := Plain.bind (z1y l) fun _ => zb _
 have hrun := run_beginRound (P := P) (why := "beginRound: no round") h hs
 refine z2P (fr := mkF f tmps ds (.beginRound :: k)) (fun W => ?_) (hp _ _ _ hrun) hrun rfl
 simp only [stepG, stepG.exec, mkF, G, hf]
theorem run_endRound {l : Nat} {lp : Loop} (h : w.heap[l]? = some (.loop lp)) (jump : Option Code) :
  (Instr.endRound l jump).run P w = .ok (.bool jump.isNone) { w with heap := w.heap.setIfInBounds l (.loop { lp with state := if jump.isNone then .ready else .done, pending := jump }) } := by
 simp [Instr.endRound, run_getLoop h, run_setObj_loop h]
theorem z96 {l : Nat} {lp : Loop} {c : Frame} {wp : World} (hwp : wp = padded (mkF f tmps [] []) (c :: cs) w) (hf : f.ro = some l) (hk : f.kind = .normal) (h : wp.heap[l]? = some (.loop lp)) :
  Steps P (lone (mkF f tmps [] []) (c :: cs) w) (lone (c.finish (.bool true)) cs { wp with heap := wp.heap.setIfInBounds l (.loop { lp with state := .ready, pending := none }) }) := by
 refine .one (.op _ _ _ _ _ _ ?_)
 subst hwp
 have hrun := run_endRound (P := P) h none
 refine z2D (z1x (P := P) l _ _ _ _ hrun) hrun fun W W' es he' => ⟨seen P f.fn es, z2c _ _ _, ?_⟩
 simp only [stepG, stepG.exec, mkF, G, hf, hk, he']
 simp [doReturn, GStep.after]
theorem z6P {l : Nat} {lp : Loop} {c : Frame} {wp : World} (hwp : wp = padded (mkF f tmps [] (.code .ret :: k)) (c :: cs) w) (hf : f.ro = some l) (hk : f.kind = .normal) (h : wp.heap[l]? = some (.loop lp)) :
  Steps P (lone (mkF f tmps [] (.code .ret :: k)) (c :: cs) w) (lone (c.finish (.bool false)) cs { wp with heap := wp.heap.setIfInBounds l (.loop { lp with state := .done, pending := some .ret }) }) := by
 refine .one (.op _ _ _ _ _ _ ?_)
 subst hwp
 have hrun := run_endRound (P := P) h (some .ret)
 refine z2D (z1x (P := P) l _ _ _ _ hrun) hrun fun W W' es he' => ⟨seen P f.fn es, z2c _ _ _, ?_⟩
 simp only [stepG, stepG.exec, mkF, G, hf, hk, he']
 simp [doReturn, GStep.after]
theorem z6u {l i : Nat} {lp : Loop} {c : Frame} {wp : World} (hwp : wp = padded (mkF f tmps [] (.code (.exit i) :: k)) (c :: cs) w) (hf : f.ro = some l) (hk : f.kind = .normal) (h : wp.heap[l]? = some (.loop lp)) (he : exitTo i k = none) :
  Steps P (lone (mkF f tmps [] (.code (.exit i) :: k)) (c :: cs) w) (lone (c.finish (.bool false)) cs { wp with heap := wp.heap.setIfInBounds l (.loop { lp with state := .done, pending := some (.exit i) }) }) := by
 refine .one (.op _ _ _ _ _ _ ?_)
 subst hwp
 have hrun := run_endRound (P := P) h (some (.exit i))
 refine z2D (z1x (P := P) l _ _ _ _ hrun) hrun fun W W' es he' => ⟨seen P f.fn es, z2c _ _ _, ?_⟩
 simp only [stepG, stepG.exec, mkF, G, hf, hk, he, Option.elim, he']
 simp [doReturn, GStep.after]
theorem z97 (hcall : CallB P call) (cc : Frame) (cs : List Frame) {l : Nat} {r : Nat × Nat × Nat} {args : List Nat} {vs : Array Value} (c : Ctx base H n ρ L w) (hl : ρ l = some r) (ha : AR ρ L args vs.toList) (h : yieldE P call fuel l args H n = .ok v H' n') :
  After base H n ρ L w v H' n' (fun x w' => Does P (Instr.yield r.1 vs) w x w' cc cs) := by
 unfold yieldE at h
 split at h
 ·rename_i T nt ps assign body st0 pd0 df0 hget
  rw [zf] at h
  split at h
  ·have hL := c.agree.2 _ _ hget
   obtain ⟨k0, hk0, hbr⟩ := c.sim.blk l r hl
   rw [hL] at hk0; injection hk0 with hk0; subst hk0
   obtain ⟨lp, p1, p2, p3, p4, p5, p6, p7, q, p8, p9, p10⟩ := hbr ((loopNoRow _ _ _ _ _ _ _ _).live hL)
   split at h
   ·rename_i T1 hps
    obtain ⟨hlen, ht1⟩ := z6t (nt := nt) ps args vs.toList T T1 lp.tmps p7 ha hps
    split at h
    ·rename_i s hr1
     have hex1 := z4c (base := base) (nt := nt) (m := n) (ro := l + 1) (fuel := fuel) (f := ⟨lp.fn, .normal, some r.1⟩) hcall assign ⟨T1, H, n, []⟩ _ [] ρ L w [.beginRound, .code body] (cc :: cs) c ht1 .nil (.inr ⟨l, r, rfl, hl, rfl⟩) (Nat.le_refl _)
     have hr1' : execE P call nt (l + 1) fuel assign ⟨T1, H, n, []⟩ = .norm s := hr1
     rw [hr1'] at hex1
     obtain ⟨ρ1, L1, w1, t1, d1, c1, htt1, hd1, e1, b1, lc1, hn1, hst1⟩ := hex1
     obtain ⟨wq, hwq⟩ : ∃ wq, wq = padded (mkF ⟨lp.fn, .normal, some r.1⟩ t1 d1 [.beginRound, .code body]) (cc :: cs) w1 := ⟨_, rfl⟩
     have cq : Ctx base s.H s.n ρ1 L1 wq := hwq ▸ c1.padded _ _
     have bq : Below base w1 wq := hwq ▸ z0l c1 _ _
     split at h
     ·rename_i T2 nt2 ps2 a2 bb2 st2 pd2 df2 hget2
      rw [z8] at h
      split at h
      ·rename_i hst0
       subst hst0
       have hl1 := e1.place _ _ hl
       have hL1 := cq.agree.2 _ _ hget2
       have hlt1 := cq.agree.lt hget2
       obtain ⟨k1, hk1, hbr1⟩ := cq.sim.blk l r hl1
       rw [hL1] at hk1; injection hk1 with hk1; subst hk1
       obtain ⟨lp1, q1, q2, q3, q4, q5, q6, q7, qq, q8, q9, q10⟩ := hbr1 ((loopNoRow _ _ _ _ _ _ _ _).live hL1)
       have hbase : base ≤ r.1 := cq.sim.rw l r hl1 (by rw [(loopNoRow _ _ _ _ _ _ _ _).grp hL1]; omega)
       obtain ⟨s2, e2⟩ := cq.sim.setLoop (w' := { wq with heap := wq.heap.setIfInBounds r.1 (.loop { lp1 with state := .busy }) }) (st' := 1) (pd' := pd2) hl1 hL1 q1 (lp' := { lp1 with state := .busy }) (by rw [← q3]; rfl) rfl
       have c2 : Ctx base (hset s.H l (.loop T2 nt2 ps2 a2 bb2 1 pd2 df2)) s.n ρ1 (upd L1 l (.loop T2 nt2 ps2 a2 bb2 1 pd2 df2)) { wq with heap := wq.heap.setIfInBounds r.1 (.loop { lp1 with state := .busy }) } :=
        ⟨s2, cq.agree.hset hlt1 _, fun j hj => ⟨by rw [upd_ne _ _ (by have := cq.fresh.ltL hL1; omega)]; exact (cq.fresh j hj).1, (cq.fresh j hj).2⟩⟩
       have hex2 := z4c (base := base) (nt := nt) (m := n) (ro := l + 1) (fuel := fuel) (f := ⟨lp.fn, .normal, some r.1⟩) hcall body ⟨s.T, hset s.H l (.loop T2 nt2 ps2 a2 bb2 1 pd2 df2), s.n, s.D⟩ t1 d1 ρ1 _ _ [] (cc :: cs) c2 (htt1.mono e2) (hd1.mono e2)
        (.inr ⟨l, r, rfl, hl1, rfl⟩) hn1
       have hround : Steps P (lone (Frame.round r.1 lp.fn ((ps.zip vs.toList).foldl (fun t p => t.setIfInBounds p.1 p.2) lp.tmps) assign body .normal) (cc :: cs) w)
         (lone (mkF ⟨lp.fn, .normal, some r.1⟩ t1 d1 [.code body]) (cc :: cs) { wq with heap := wq.heap.setIfInBounds r.1 (.loop { lp1 with state := .busy }) }) := by
        have e0 : Frame.round r.1 lp.fn ((ps.zip vs.toList).foldl (fun t p => t.setIfInBounds p.1 p.2) lp.tmps) assign body .normal =
          mkF ⟨lp.fn, .normal, some r.1⟩ ((ps.zip vs.toList).foldl (fun t p => t.setIfInBounds p.1 p.2) lp.tmps) [] [.code assign, .beginRound, .code body] := rfl
        rw [e0]
        exact hst1.trans (z8c hwq rfl q1 q2)
       have hyield : (Instr.yield r.1 vs).run P w = .ok (.round r.1 lp.fn ((ps.zip vs.toList).foldl (fun t p => t.setIfInBounds p.1 p.2) lp.tmps) assign body) w := by
        have hsz : ¬ (vs.size ≠ lp.params.size) := by
         have : lp.params.size = ps.length := by rw [← p4]; simp
         rw [this, hlen]; simp
        have hz := zds lp.params vs lp.tmps
        rw [p4] at hz
        simp only [Instr.yield, Sem.run_bind, run_getLoop p1, Result.andThen_ok]
        rw [Sem.run_ite, if_neg hsz]
        simp only [Sem.run_pure, p5, p6]
        rw [← hz]
       have l12 : Loc H n ρ L ρ1 (upd L1 l (.loop T2 nt2 ps2 a2 bb2 1 pd2 df2)) := ⟨fun b hb hbn => by
        obtain ⟨x1, x2⟩ := lc1.bare b hb hbn
        refine ⟨?_, x2⟩
        rw [upd_ne _ _ (fun hh => by subst hh; rw [hl1] at x2; cases x2)]; exact x1⟩
       have fin : ∀ (s' : St) (st' pend' : Nat) (b : Bool), (b = true ∧ st' = 0 ∧ pend' = 0 ∨ b = false ∧ st' = 2 ∧ pend' ≠ 0) →
         Mid base nt n s.n ρ1 (upd L1 l (.loop T2 nt2 ps2 a2 bb2 1 pd2 df2)) { wq with heap := wq.heap.setIfInBounds r.1 (.loop { lp1 with state := .busy }) } s' (fun w' t d => d = [] →
          ∃ fr, ∀ lp3, (padded fr (cc :: cs) w').heap[r.1]? = some (.loop lp3) → Steps P (lone (mkF ⟨lp.fn, .normal, some r.1⟩ t1 d1 [.code body]) (cc :: cs) { wq with heap := wq.heap.setIfInBounds r.1 (.loop { lp1 with state := .busy }) })
           (lone (cc.finish (.bool b)) cs { padded fr (cc :: cs) w' with heap := (padded fr (cc :: cs) w').heap.setIfInBounds r.1 (.loop { lp3 with state := stOf st', pending := pendOf pend' }) })) →
         yieldE.finE l s' st' pend' (wB b) = .ok v H' n' → After base H n ρ L w v H' n' (fun x w' => Does P (Instr.yield r.1 vs) w x w' cc cs) := by
        rintro s' st' pend' b _ ⟨ρ3, L3, w3, t3, d3, c3, ht3, hd3, e3, b3, lc3, hn3, hst3⟩ hfin
        unfold yieldE.finE at hfin
        split at hfin
        ·rename_i hD
         rw [hD] at hd3
         cases hd3
         obtain ⟨fr, hst3⟩ := hst3 rfl
         obtain ⟨wz, hwz⟩ : ∃ wz, wz = padded fr (cc :: cs) w3 := ⟨_, rfl⟩
         rw [← hwz] at hst3
         have cz : Ctx base s'.H s'.n ρ3 L3 wz := hwz ▸ c3.padded _ _
         have bz : Below base w3 wz := hwz ▸ z0l c3 _ _
         split at hfin
         ·rename_i T4 nt4 ps4 a4 bb4 st4 pd4 df4 hget4
          injection hfin with f1 f2 f3
          subst f1; subst f2; subst f3
          have hl3 := e3.place _ _ hl1
          have hL3 := cz.agree.2 _ _ hget4
          have hlt3 := cz.agree.lt hget4
          obtain ⟨k3, hk3, hbr3⟩ := cz.sim.blk l r hl3
          rw [hL3] at hk3; injection hk3 with hk3; subst hk3
          obtain ⟨lp3, u1, _⟩ := hbr3 ((loopNoRow _ _ _ _ _ _ _ _).live hL3)
          obtain ⟨s4, e4⟩ := cz.sim.setLoop (w' := { wz with heap := wz.heap.setIfInBounds r.1 (.loop { lp3 with state := stOf st', pending := pendOf pend' }) }) (st' := st') (pd' := pend') hl3 hL3 u1 rfl rfl
          refine ⟨ρ3, _, _, .bool b, ⟨s4, cz.agree.hset hlt3 _, fun j hj => ⟨by rw [upd_ne _ _ (by have := cz.fresh.ltL hL3; omega)]; exact (cz.fresh j hj).1, (cz.fresh j hj).2⟩⟩, ((e1.trans e2).trans e3).trans e4,
           (((b1.trans bq).trans (z4D hbase)).trans (b3.trans bz)).trans (z4D hbase), ?_, Nat.le_trans hn1 hn3, .bool b, ?_⟩
          ·have l3 := l12.trans hn1 lc3
           refine ⟨fun x hx hxn => ?_⟩
           obtain ⟨y1, y2⟩ := l3.bare x hx hxn
           exact ⟨by rw [upd_ne _ _ (fun hh => by subst hh; rw [hl3] at y2; cases y2)]; exact y1, y2⟩
          ·exact .round _ _ _ _ _ _ hyield (hround.trans (hst3 lp3 u1))
         ·cases hfin
        ·cases hfin
       split at h
       ·rename_i s' hr2
        have hr2' : execE P call nt (l + 1) fuel body ⟨s.T, hset s.H l (.loop T2 nt2 ps2 a2 bb2 1 pd2 df2), s.n, s.D⟩ = .norm s' := hr2
        rw [hr2'] at hex2
        refine fin s' 0 0 true (.inl ⟨rfl, rfl, rfl⟩) (Mid.mono hex2 ?_) h
        intro w' t d hs hd0
        subst hd0
        exact ⟨_, fun lp3 hlp3 => hs.trans (z96 rfl rfl rfl hlp3)⟩
       ·rename_i i s' hr2
        have hr2' : execE P call nt (l + 1) fuel body ⟨s.T, hset s.H l (.loop T2 nt2 ps2 a2 bb2 1 pd2 df2), s.n, s.D⟩ = .exit i s' := hr2
        rw [hr2'] at hex2
        refine fin s' 2 (i + 2) false (.inr ⟨rfl, rfl, by omega⟩) (Mid.mono hex2 ?_) h
        intro w' t d hs hd0
        subst hd0
        obtain ⟨k', h1, h2⟩ := hs
        exact ⟨_, fun lp3 hlp3 => h2.trans (z6u rfl rfl rfl hlp3 h1)⟩
       ·rename_i s' hr2
        have hr2' : execE P call nt (l + 1) fuel body ⟨s.T, hset s.H l (.loop T2 nt2 ps2 a2 bb2 1 pd2 df2), s.n, s.D⟩ = .ret s' := hr2
        rw [hr2'] at hex2
        refine fin s' 2 1 false (.inr ⟨rfl, rfl, by omega⟩) (Mid.mono hex2 ?_) h
        intro w' t d hs hd0
        subst hd0
        obtain ⟨k', h2⟩ := hs
        exact ⟨_, fun lp3 hlp3 => h2.trans (z6P rfl rfl rfl hlp3)⟩
       ·cases h
      ·cases h
     ·cases h
    ·cases h
    ·cases h
   ·cases h
  ·cases h
 ·cases h
theorem z2J : ∀ (m c : Nat) (caps : List Value), caps.length = m → (∀ i (h : i < caps.length), VR ρ L (getW c i) caps[i]) → AR ρ L (unlist m c) caps
 | 0, c, caps, hl, _ => by
  have : caps = [] := List.eq_nil_of_length_eq_zero hl
  subst this; exact .nil
 | m + 1, c, caps, hl, h => by
  cases caps with
  | nil => simp at hl
  | cons x xs =>
   have e : unlist (m + 1) c = getW c 0 :: unlist m (Nat.shiftRight c 128) := rfl
   rw [e]
   refine .cons _ _ _ _ (h 0 (by simp)) (z2J m _ xs (by simpa using hl) fun i hi => ?_)
   have := h (i + 1) (by simpa using hi)
   have e2 : getW (Nat.shiftRight c 128) i = getW c (i + 1) := by
    rw [z1w, z1w, show Nat.shiftRight c 128 = c >>> 128 from rfl, ← Nat.shiftRight_add, show 128 + 128 * i = 128 * (i + 1) from by omega]
   rw [e2]; simpa using this
theorem AR.append {xs ys : List Nat} {vs us : List Value} (h : AR ρ L xs vs) (h2 : AR ρ L ys us) : AR ρ L (xs ++ ys) (vs ++ us) := by
 induction h with
 | nil => exact h2
 | cons x v xs vs hx _ ih => exact .cons _ _ _ _ hx ih
theorem z5h {fid : Nat} {fn : Func} {args : Array Value} (h : P.funcs[fid]? = some fn) (hb : fn.body.isSome = true) (hn : fn.name ≠ "runtime.NumGoroutine") : (callFunc fid args).run P w = .ok (.enter fid args) w := by
 have : ¬ fn.body = none := by intro h; rw [h] at hb; cases hb
 simp [callFunc, h, hn, this]
def SumS (P : Program) (S : Sums) : Prop :=
 ∀ (base : Nat) (H : Trie) (n : Nat) (ρ : Rho) (L : Look) (w : World) (f : Nat) (args : List Nat) (vs : Array Value) (v : Nat) (H' : Trie) (n' : Nat) (cs : List Frame),
  Ctx base H n ρ L w → AR ρ L args vs.toList → S f args H n = .yes (.ok v H' n') →
  After base H n ρ L w v H' n' (fun x w' => (∃ fn, P.funcs[f]? = some fn ∧ fn.body.isSome = true ∧ fn.name ≠ "runtime.NumGoroutine") ∧ CallsAt P f vs w cs (fun e W => e = .returned x ∧ W = w'))
theorem ze1 (P : Program) {S : Sums} (hS : SumS P S) (fuel d : Nat) (ih : CallB P (callN P S fuel d)) : CallS P (callN P S fuel (d + 1)) := by
  intro base H n ρ L w fw args fv vs v H' n' cfr ccs c hf ha h
  have e : callN P S fuel (d + 1) fw args H n = sel (Nat.beq (tagOf fw) 8) (force (payOf fw) fun f => match S f args H n with | .yes r => r | .no => funE P (callN P S fuel d) fuel f args H n)
    (sel (Nat.beq (tagOf fw) 13) (yieldE P (callN P S fuel d) fuel (payOf fw) args H n)
     (sel (Nat.beq (tagOf fw) 10)
      (match tget H (payOf fw) with
       | some (.box 2 m c) => force (getW c 0) fun f => match S f (args ++ unlist m (Nat.shiftRight c 128)) H n with | .yes r => r | .no => funE P (callN P S fuel d) fuel f (args ++ unlist m (Nat.shiftRight c 128)) H n
       | _ => (.bad 0)) (.bad 0))) := rfl
  rw [e, z8, z8, z8] at h
  simp only [force_eq] at h
  split at h
  ·rename_i h8
   have := hf.zbZ h8
   subst this
   have main : After base H n ρ L w v H' n' (fun x w' => (∃ fn, P.funcs[payOf fw]? = some fn ∧ fn.body.isSome = true ∧ fn.name ≠ "runtime.NumGoroutine") ∧ CallsAt P (payOf fw) vs w (cfr :: ccs) (fun e W => e = .returned x ∧ W = w')) := by
    split at h
    ·rename_i r hr
     subst h
     exact hS _ _ _ _ _ _ _ _ _ _ _ _ _ c ha hr
    ·exact z2o (ih) (cfr :: ccs) c ha h
   refine main.mono ?_
   rintro x w' ⟨⟨fn, hfn, hb, hn⟩, hc⟩
   refine .enter (payOf fw) vs w ?_ (returns_of_calls hc)
   simp [Deferred.ofValue, invoke, z5h hfn hb hn]
  ·split at h
   ·rename_i h13
    obtain ⟨rb, dd, sz, hρ, rfl⟩ := hf.zc0 h13
    refine (z97 (ih) cfr ccs c hρ ha h).mono ?_
    intro x w' hd
    have e2 : (do let d ← Deferred.ofValue (.func (.yield rb) #[] #[]) vs; invoke d.target d.args : Sem Next) = Instr.yield rb vs := by
     simp [Deferred.ofValue, invoke]
    rw [e2]; exact hd
   ·split at h
    ·rename_i h10
     split at h
     ·rename_i m' c' hget
      obtain ⟨m, cc, caps, hL, hsz, hcaps, rfl⟩ := hf.z7F h10 ⟨_, _, c.agree.2 _ _ hget⟩
      have := c.agree.2 _ _ hget
      rw [hL] at this
      injection this with this; injection this with _ e1 e2
      subst e1; subst e2
      have hcap : AR ρ L (unlist m (Nat.shiftRight cc 128)) caps.toList := z2J m _ _ (by simpa using hsz) fun i hi => by
       have := hcaps i (by simpa using hi)
       have e2 : getW (Nat.shiftRight cc 128) i = getW cc (i + 1) := by
        rw [z1w, z1w, show Nat.shiftRight cc 128 = cc >>> 128 from rfl, ← Nat.shiftRight_add, show 128 + 128 * i = 128 * (i + 1) from by omega]
       rw [e2]; simpa using this
      have hall : AR ρ L (args ++ unlist m (Nat.shiftRight cc 128)) (vs ++ caps).toList := by rw [Array.toList_append]; exact ha.append hcap
      have main : After base H n ρ L w v H' n' (fun x w' => (∃ fn, P.funcs[getW cc 0]? = some fn ∧ fn.body.isSome = true ∧ fn.name ≠ "runtime.NumGoroutine") ∧ CallsAt P (getW cc 0) (vs ++ caps) w (cfr :: ccs) (fun e W => e = .returned x ∧ W = w')) := by
       split at h
       ·rename_i r hr
        subst h
        exact hS _ _ _ _ _ _ _ _ _ _ _ _ _ c hall hr
       ·exact z2o (ih) (cfr :: ccs) c hall h
      refine main.mono ?_
      rintro x w' ⟨⟨fn, hfn, hb, hn⟩, hc⟩
      refine .enter (getW cc 0) (vs ++ caps) w ?_ (returns_of_calls hc)
      simp [Deferred.ofValue, invoke, z5h hfn hb hn]
     ·cases h
    ·cases h
theorem z4F {fid : Nat} {fn : Func} {args : Array Value} (h : P.funcs[fid]? = some fn) (hb : fn.body.isSome = true) (hn : fn.name ≠ "runtime.NumGoroutine") (w : World) : Tame P (callFunc fid args) w := by
 unfold callFunc
 refine Tame.bind (zl.tame w) fun p w1 hp => ?_
 have hp' : p = P ∧ w1 = w := by
  simp only [program, Sem.run] at hp
  injection hp with h1 h2; exact ⟨h1.symm, h2.symm⟩
 obtain ⟨rfl, rfl⟩ := hp'
 rw [h]
 dsimp only
 have h1 : (fn.name == "runtime.NumGoroutine") = false := by simpa using hn
 have h2 : fn.body.isNone = false := by cases hx : fn.body with | none => rw [hx] at hb; cases hb | some b => rfl
 rw [h1, h2]
 exact (zb _).tame _
theorem ze2 (P : Program) {S : Sums} (hS : SumS P S) (fuel d : Nat) (ih : CallB P (callN P S fuel d)) : CallT P (callN P S fuel (d + 1)) := by
 intro base H n ρ L w fw args fv vs v H' n' c hf ha h
 have e : callN P S fuel (d + 1) fw args H n = sel (Nat.beq (tagOf fw) 8) (force (payOf fw) fun f => match S f args H n with | .yes r => r | .no => funE P (callN P S fuel d) fuel f args H n)
   (sel (Nat.beq (tagOf fw) 13) (yieldE P (callN P S fuel d) fuel (payOf fw) args H n)
    (sel (Nat.beq (tagOf fw) 10)
     (match tget H (payOf fw) with
      | some (.box 2 m c) => force (getW c 0) fun f => match S f (args ++ unlist m (Nat.shiftRight c 128)) H n with | .yes r => r | .no => funE P (callN P S fuel d) fuel f (args ++ unlist m (Nat.shiftRight c 128)) H n
      | _ => (.bad 0)) (.bad 0))) := rfl
 rw [e, z8, z8, z8] at h
 simp only [force_eq] at h
 split at h
 ·rename_i h8
  have := hf.zbZ h8
  subst this
  have main : ∃ fn, P.funcs[payOf fw]? = some fn ∧ fn.body.isSome = true ∧ fn.name ≠ "runtime.NumGoroutine" := by
   split at h
   ·rename_i r hr
    subst h
    obtain ⟨_, _, _, _, _, _, _, _, _, _, hx, _⟩ := hS _ _ _ _ _ _ _ _ _ _ _ _ [] c ha hr
    exact hx
   ·obtain ⟨_, _, _, _, _, _, _, _, _, _, hx, _⟩ := z2o ih [] c ha h
    exact hx
  obtain ⟨fn, hfn, hb, hn⟩ := main
  refine (z4F (args := vs) hfn hb hn w).of_run ?_
  simp [Deferred.ofValue, invoke]
 ·split at h
  ·rename_i h13
   obtain ⟨rb, dd, sz, hρ, rfl⟩ := hf.zc0 h13
   refine ((z2s (P := P) rb vs).tame w).of_run ?_
   simp [Deferred.ofValue, invoke]
  ·split at h
   ·rename_i h10
    split at h
    ·rename_i m' c' hget
     obtain ⟨m, cc, caps, hL, hsz, hcaps, rfl⟩ := hf.z7F h10 ⟨_, _, c.agree.2 _ _ hget⟩
     have := c.agree.2 _ _ hget
     rw [hL] at this
     injection this with this; injection this with _ e1 e2
     subst e1; subst e2
     have hcap : AR ρ L (unlist m (Nat.shiftRight cc 128)) caps.toList := z2J m _ _ (by simpa using hsz) fun i hi => by
      have := hcaps i (by simpa using hi)
      have e2 : getW (Nat.shiftRight cc 128) i = getW cc (i + 1) := by
       rw [z1w, z1w, show Nat.shiftRight cc 128 = cc >>> 128 from rfl, ← Nat.shiftRight_add, show 128 + 128 * i = 128 * (i + 1) from by omega]
      rw [e2]; simpa using this
     have hall : AR ρ L (args ++ unlist m (Nat.shiftRight cc 128)) (vs ++ caps).toList := by rw [Array.toList_append]; exact ha.append hcap
     have main : ∃ fn, P.funcs[getW cc 0]? = some fn ∧ fn.body.isSome = true ∧ fn.name ≠ "runtime.NumGoroutine" := by
      split at h
      ·rename_i r hr
       subst h
       obtain ⟨_, _, _, _, _, _, _, _, _, _, hx, _⟩ := hS _ _ _ _ _ _ _ _ _ _ _ _ [] c hall hr
       exact hx
      ·obtain ⟨_, _, _, _, _, _, _, _, _, _, hx, _⟩ := z2o ih [] c hall h
       exact hx
     obtain ⟨fn, hfn, hb, hn⟩ := main
     refine (z4F (args := vs ++ caps) hfn hb hn w).of_run ?_
     simp [Deferred.ofValue, invoke]
    ·cases h
   ·cases h
theorem z2x (P : Program) {S : Sums} (hS : SumS P S) (fuel : Nat) : ∀ d, CallB P (callN P S fuel d)
 | 0 => by
  constructor
  ·intro base H n ρ L w fw args fv vs v H' n' cfr ccs _ _ _ h
   cases h
  ·intro base H n ρ L w fw args fv vs v H' n' _ _ _ h
   cases h
 | d + 1 => ⟨ze1 P hS fuel d (z2x P hS fuel d), ze2 P hS fuel d (z2x P hS fuel d)⟩
end
end Go.Eng
