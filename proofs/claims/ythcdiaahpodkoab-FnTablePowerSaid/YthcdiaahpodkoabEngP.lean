/- Ranges over functions; all code; calls. -/
import Derived.Test.YthcdiaahpodkoabEngO
namespace Go.Eng
set_option linter.unusedSectionVars false
set_option linter.unusedSimpArgs false
set_option linter.unusedVariables false
open Go Go.RowKit
variable [E : Env]

section
variable {P : Program} {base nt m n n1 ro fuel : Nat} {ρ ρ1 : Rho} {L L1 : Look} {w w1 w' : World} {f : FFix} {call : Nat → List Nat → Trie → Nat → OR} {tmps : Array Value} {ds : List Deferred} {k : List Item} {cs : List Frame}

theorem loopNoRow (T nt : Nat) (ps : List Nat) (a b : Code) (st pd df : Nat) : NoRow (.loop T nt ps a b st pd df) := trivial

/-- A loop's block told anew. -/
theorem Sim.setLoop {l T nt0 st pd df st' pd' : Nat} {ps : List Nat} {a b : Code} {r : Nat × Nat × Nat} {lp : Loop} (hs : Sim base ρ L w) (hl : ρ l = some r) (hL : L l = some (.loop T nt0 ps a b st pd df))
    (hlp : w.heap[r.1]? = some (.loop lp)) {lp' : Loop} (hp : lp' = { lp with state := stOf st', pending := pendOf pd' }) (hw : w'.heap = w.heap.setIfInBounds r.1 (.loop lp')) :
    Sim base ρ (upd L l (.loop T nt0 ps a b st' pd' df)) w' ∧ Ext ρ L ρ (upd L l (.loop T nt0 ps a b st' pd' df)) := by
  have ne : ∀ j (k : Blk), L j = some k → (∀ T nt0 ps a b st pd df, k ≠ .loop T nt0 ps a b st pd df) → j ≠ l := fun j k hj hk hjl => by
    subst hjl; rw [hL] at hj; injection hj with hj; exact hk _ _ _ _ _ _ _ _ hj.symm
  have e : Ext ρ L ρ (upd L l (.loop T nt0 ps a b st' pd' df)) := by
    refine ⟨⟨fun _ _ h => h, fun j kd m c hj => ?_, fun j p q s d lo hi hj => ?_, fun j hj => ?_⟩, fun j hj => ?_⟩
    · rw [upd_ne _ _ (ne j _ hj (by intros; simp))]; exact hj
    · rw [upd_ne _ _ (ne j _ hj (by intros; simp))]; exact hj
    · rcases hj with hj | hj
      · left; rw [upd_ne _ _ (ne j _ hj (by intros; simp))]; exact hj
      · right; rw [upd_ne _ _ (ne j _ hj (by intros; simp))]; exact hj
    · rw [upd_ne _ _ (ne j _ hj (by intros; simp))]; exact hj
  obtain ⟨k0, hk0, hbr⟩ := hs.blk l r hl
  rw [hL] at hk0; injection hk0 with hk0; subst hk0
  have hlive := (loopNoRow T nt0 ps a b st pd df).live hL
  obtain ⟨lp0, b1, b2, b3, b4, b5, b6, b7, q, b8, b9, b10⟩ := hbr hlive
  rw [hlp] at b1; injection b1 with b1; injection b1 with b1; subst b1
  have hlt : r.1 < w.heap.size := hs.bnd l r hl
  refine ⟨hs.swap hl hL (loopNoRow _ _ _ _ _ _ _ _) (loopNoRow _ _ _ _ _ _ _ _) e.toExt0 (fun x hx => ?_) (by rw [hw]; simp) ?_, e⟩
  · rw [hw, Array.getElem?_setIfInBounds, if_neg (by omega)]
  · subst hp
    exact ⟨{ lp with state := stOf st', pending := pendOf pd' }, by rw [hw]; simp [hlt], rfl, rfl, b4, b5, b6, b7.mono e, q, b8, b9, e.isdf _ b10⟩

theorem run_getLoop {l : Nat} {lp : Loop} (h : w.heap[l]? = some (.loop lp)) : (Instr.getLoop l).run P w = .ok lp w := by simp [Instr.getLoop, getObj, Sem.run, h]
theorem run_setObj_loop {l : Nat} {lp : Loop} {o : Obj} (h : w.heap[l]? = some (.loop lp)) : (setObj l o).run P w = .ok () { w with heap := w.heap.setIfInBounds l o } := by
  simp [setObj, Sem.run, h]

theorem below_set {r : Nat} {o : Obj} (hb : base ≤ r) : Below base w { w with heap := w.heap.setIfInBounds r o } :=
  ⟨rfl, rfl, rfl, by simp, fun j hj => by rw [Array.getElem?_setIfInBounds, if_neg (by omega)]⟩
theorem below_push {o : Obj} (hb : base ≤ w.heap.size) : Below base w { w with heap := w.heap.push o } :=
  ⟨rfl, rfl, rfl, by simp, fun j hj => by rw [Array.getElem?_push, if_neg (by omega)]⟩

/-- the call that a range over a function makes -/
def rangeCall (g : Operand) (l : Nat) : Call := { callee := .value g, args := #[.const (.func (.yield l) #[] #[])], argTypes := #[] }

theorem st_range {g : Operand} {ps : Array Tmp} {assign body : Code} {l : Nat} {mark : List Deferred} {x : Value}
    (he : (Instr.enterLoop f.fn tmps ps assign body f.ro).run P w = .ok (l, mark) w1)
    (hd : Does P (do let d ← Deferred.ofValue (evT tmps g) #[.func (.yield l) #[] #[]]; invoke d.target d.args) w1 x w' (mkF f tmps (mark ++ ds) (.inRangeFunc l :: k)) cs) :
    Steps P (lone (mkF f tmps ds (.code (.rangeFunc g ps assign body) :: k)) cs w) (lone (mkF f tmps (mark ++ ds) (.endRangeFunc l :: k)) cs w') := by
  have hev := mkF_eval f tmps ds (.code (.rangeFunc g ps assign body) :: k)
  have h := st_apply (f := f) (tmps := tmps) (ds := mark ++ ds) (k := k) (cs := cs) (it := .inRangeFunc l) (fr0 := mkF f tmps ds (.code (.rangeFunc g ps assign body) :: k)) (w0 := w) hd (by intros; simp) ?_
  · exact h
  · simp only [mkF] at hev
    simp only [stepG, stepG.exec, mkF, Sem.runT_eq, he, GStep.bare_after]
    have : ({ fn := f.fn, tmps := tmps, todo := Item.inRangeFunc l :: k, defers := mark ++ ds, mode := FrameMode.run, kind := f.kind, roundOf := f.ro } : Frame).eval = evT tmps := mkF_eval f tmps (mark ++ ds) (.inRangeFunc l :: k)
    rw [this]
    have hres : resolve (evT tmps) { callee := .value g, args := #[.const (.func (.yield l) #[] #[])], argTypes := #[] } 0 = Deferred.ofValue (evT tmps g) #[.func (.yield l) #[] #[]] := by simp [resolve, evT]
    rw [hres]

theorem st_endRange {l : Nat} {lp : Loop} (hl : w.heap[l]? = some (.loop lp)) (hb : lp.state ≠ .busy) :
    Steps P (lone (mkF f tmps ds (.endRangeFunc l :: k)) cs w)
      (lone (mkF f tmps ds ((lp.pending.map Item.code).toList ++ k)) cs { w with heap := w.heap.setIfInBounds l (.loop { lp with state := .exhausted }) }) := by
  have hrun : (Instr.endLoop l).run P w = .ok lp.pending { w with heap := w.heap.setIfInBounds l (.loop { lp with state := .exhausted }) } := by
    simp [Instr.endLoop, run_getLoop hl, hb, run_setObj_loop hl]
  refine .one (step_lone_go ?_)
  simp only [stepG, stepG.exec, mkF, Sem.runT_eq, hrun, GStep.bare_after]
  rfl

theorem Ext.bare {L2 : Look} {ρ2 : Rho} (h : Ext ρ L ρ2 L2) : Ext0 ρ L ρ2 L2 := h.toExt0

theorem sound_range (hcall : CallS P call) {g : Operand} {ps : Array Tmp} {assign body : Code} : Sound P base nt m ro f (.rangeFunc g ps assign body) fun s => rangeE P call nt ro g ps.toList assign body s := by
  intro s tmps ds ρ L w k cs c ht hd hro hm
  dsimp only
  unfold rangeE
  rw [sel_beq]
  split
  · exact trivial
  · rename_i hg
    have hgv := ev_sound ht g hg
    -- the second half: the new loop's block, the call, the end
    have half : ∀ (ρ1 : Rho) (L1 : Look) (w1 : World) (H1 : Trie) (l df : Nat) (D : List Nat) (mark : List Deferred) (q : Nat × Nat × Nat), Ctx base H1 l ρ1 L1 w1 → Ext ρ L ρ1 L1 → Below base w w1 → Loc s.H s.n ρ L ρ1 L1 → s.n ≤ l →
        ρ1 df = some q → IsDf (L1 df) → DR ρ1 L1 m D (mark ++ ds) →
        (∀ w2 : World, w2.heap = w1.heap.push (.loop { state := .ready, pending := none, fn := f.fn, tmps := tmps, params := ps, assign := assign, body := body, defers := q.1 }) → w2.os = w1.os → w2.tape = w1.tape → w2.output = w1.output → w2.drawn = w1.drawn →
          (Instr.enterLoop f.fn tmps ps assign body f.ro).run P w = .ok (w1.heap.size, mark) w2) →
        Out P base nt m s.n ρ L w (lone (mkF f tmps ds (.code (.rangeFunc g ps assign body) :: k)) cs w) f k cs
          (sel (ltb l maxBlk)
            (match call (ev s.T g) [mk 13 l] (hset H1 l (.loop s.T nt ps.toList assign body 0 0 df)) (Nat.succ l) with
             | .ok _ H' n' =>
               (match tget H' l with
                | some (.loop T0 nt0 ps0 a0 b0 st pend df0) =>
                  sel (Nat.beq st 1) (.bad 0)
                    (sel (Nat.beq pend 0) (.norm ⟨s.T, hset H' l (.loop T0 nt0 ps0 a0 b0 3 pend df0), n', D⟩) (sel (Nat.beq pend 1) (.ret ⟨s.T, hset H' l (.loop T0 nt0 ps0 a0 b0 3 pend df0), n', D⟩) (.exit (Nat.sub pend 2) ⟨s.T, hset H' l (.loop T0 nt0 ps0 a0 b0 3 pend df0), n', D⟩)))
                | _ => (.bad 0))
             | .bad q => .bad q) (.bad 0)) := by
      intro ρ1 L1 w1 H1 l df D mark q c1 e1 b1 lc1 hnl hdf hisdf hDR henter
      rw [sel_ltb]
      split
      · rename_i hl
        -- the loop's block
        have hlp : ∃ w2 : World, w2 = { w1 with heap := w1.heap.push (.loop { state := .ready, pending := none, fn := f.fn, tmps := tmps, params := ps, assign := assign, body := body, defers := q.1 }) } := ⟨_, rfl⟩
        obtain ⟨w2, hw2⟩ := hlp
        have hheap2 : w2.heap = w1.heap.push (.loop { state := .ready, pending := none, fn := f.fn, tmps := tmps, params := ps, assign := assign, body := body, defers := q.1 }) := by rw [hw2]
        have e2 : Ext ρ1 L1 (updR ρ1 l (w1.heap.size, 0, 0)) (upd L1 l (.loop s.T nt ps.toList assign body 0 0 df)) := .fresh c1.fresh _ _
        have hhead : w2.heap[w1.heap.size]? = some (.loop { state := .ready, pending := none, fn := f.fn, tmps := tmps, params := ps, assign := assign, body := body, defers := q.1 }) := by rw [hheap2]; simp
        have hb2 : BR (updR ρ1 l (w1.heap.size, 0, 0)) (upd L1 l (.loop s.T nt ps.toList assign body 0 0 df)) w2 (w1.heap.size, 0, 0) (.loop s.T nt ps.toList assign body 0 0 df) :=
          ⟨_, hhead, rfl, rfl, rfl, rfl, rfl, (ht.mono e1).mono e2, q, e2.place _ _ hdf, rfl, e2.isdf _ hisdf⟩
        have c2 : Ctx base (hset H1 l (.loop s.T nt ps.toList assign body 0 0 df)) (l + 1) (updR ρ1 l (w1.heap.size, 0, 0)) (upd L1 l (.loop s.T nt ps.toList assign body 0 0 df)) w2 :=
          ⟨c1.sim.fresh c1.fresh hheap2 (by exact trivial) hb2, c1.agree.hset hl _, c1.fresh.upd _ _⟩
        have b2 : Below base w1 w2 := by rw [hw2]; exact below_push c1.sim.bs
        have hen := henter w2 hheap2 (by rw [hw2]) (by rw [hw2]) (by rw [hw2]) (by rw [hw2])
        split
        · rename_i v H' n' hcal
          have hfv := (hgv.mono e1).mono e2
          obtain ⟨ρ3, L3, w3, x, c3, e3, b3, l3, hn3, hv, hdo⟩ := hcall _ _ _ _ _ _ _ _ _ #[.func (.yield w1.heap.size) #[] #[]] _ _ _ (mkF f tmps (mark ++ ds) (.inRangeFunc w1.heap.size :: k)) cs c2 hfv (.cons _ _ _ _ (.yld l w1.heap.size 0 0 (updR_same _ _ _)) .nil) hcal
          split
          · rename_i T0 nt0 ps0 a0 b0 st pend df0 hget
            rw [sel_beq]
            split
            · exact trivial
            · rename_i hst
              have hρ3 : ρ3 l = some (w1.heap.size, 0, 0) := e3.place _ _ (updR_same _ _ _)
              have hL3 := c3.agree.2 _ _ hget
              have hl3 := c3.agree.lt hget
              obtain ⟨k0, hk0, hbr⟩ := c3.sim.blk l _ hρ3
              rw [hL3] at hk0; injection hk0 with hk0; subst hk0
              obtain ⟨lp, p1, p2, p3, p4, p5, p6, p7, q', p8, p9, p10⟩ := hbr ((loopNoRow _ _ _ _ _ _ _ _).live hL3)
              have hnb : lp.state ≠ .busy := by
                rw [p2]
                match st, hst with
                | 0, _ => simp [stOf]
                | 2, _ => simp [stOf]
                | (x + 3), _ => simp [stOf]
              have hbase : base ≤ w1.heap.size := c1.sim.bs
              obtain ⟨s4, e4⟩ := c3.sim.setLoop (w' := { w3 with heap := w3.heap.setIfInBounds w1.heap.size (.loop { lp with state := .exhausted }) }) (st' := 3) (pd' := pend) hρ3 hL3 p1 (lp' := { lp with state := .exhausted }) (by rw [← p3]; rfl) rfl
              have c4 : Ctx base (hset H' l (.loop T0 nt0 ps0 a0 b0 3 pend df0)) n' ρ3 (upd L3 l (.loop T0 nt0 ps0 a0 b0 3 pend df0)) { w3 with heap := w3.heap.setIfInBounds w1.heap.size (.loop { lp with state := .exhausted }) } :=
                ⟨s4, c3.agree.hset hl3 _, fun j hj => ⟨by rw [upd_ne _ _ (by have := c3.fresh.ltL hL3; omega)]; exact (c3.fresh j hj).1, (c3.fresh j hj).2⟩⟩
              have eall : Ext ρ1 L1 ρ3 (upd L3 l (.loop T0 nt0 ps0 a0 b0 3 pend df0)) := (e2.trans e3).trans e4
              have ball : Below base w { w3 with heap := w3.heap.setIfInBounds w1.heap.size (.loop { lp with state := .exhausted }) } := (b1.trans (b2.trans b3)).trans (below_set hbase)
              have hst1 : Steps P (lone (mkF f tmps ds (.code (.rangeFunc g ps assign body) :: k)) cs w) (lone (mkF f tmps (mark ++ ds) ((lp.pending.map Item.code).toList ++ k)) cs { w3 with heap := w3.heap.setIfInBounds w1.heap.size (.loop { lp with state := .exhausted }) }) :=
                (st_range hen hdo).trans (st_endRange p1 hnb)
              have lall : Loc (hset H' l (.loop T0 nt0 ps0 a0 b0 3 pend df0)) s.n ρ L ρ3 (upd L3 l (.loop T0 nt0 ps0 a0 b0 3 pend df0)) := by
                have l12 : Loc s.H s.n ρ L ρ3 L3 := (lc1.trans hnl (.fresh (H := s.H) (w1.heap.size, 0, 0) (.loop s.T nt ps.toList assign body 0 0 df))).trans (Nat.le_trans hnl (Nat.le_succ l)) l3
                exact ⟨fun b hb hbn => ⟨by rw [upd_ne _ _ (Nat.ne_of_lt (Nat.lt_of_lt_of_le hb hnl))]; exact (l12.bare b hb hbn).1, (l12.bare b hb hbn).2⟩⟩
              have mid : ∀ R : World → Array Value → List Deferred → Prop, R { w3 with heap := w3.heap.setIfInBounds w1.heap.size (.loop { lp with state := .exhausted }) } tmps (mark ++ ds) →
                  Mid base nt m s.n ρ L w ⟨s.T, hset H' l (.loop T0 nt0 ps0 a0 b0 3 pend df0), n', D⟩ R := fun R hR =>
                ⟨ρ3, _, _, tmps, mark ++ ds, c4, ((ht.mono e1).mono eall), hDR.mono eall, e1.trans eall, ball, lall, by show s.n ≤ n'; omega, hR⟩
              rw [sel_beq, sel_beq]
              split
              · rename_i hp0
                subst hp0
                refine mid _ ?_
                have h9 := hst1
                rw [show (lp.pending.map Item.code).toList ++ k = k from by rw [p3]; rfl] at h9
                exact h9
              · split
                · rename_i hp1
                  subst hp1
                  refine mid _ ?_
                  have h9 := hst1
                  rw [show (lp.pending.map Item.code).toList ++ k = Item.code .ret :: k from by rw [p3]; rfl] at h9
                  exact ⟨k, h9⟩
                · rename_i hp0 hp1
                  obtain ⟨i, rfl⟩ : ∃ i, pend = i + 2 := ⟨pend - 2, by omega⟩
                  refine mid _ ?_
                  have h9 := hst1
                  rw [show (lp.pending.map Item.code).toList ++ k = Item.code (.exit i) :: k from by rw [p3]; rfl] at h9
                  exact ⟨k, rfl, h9⟩
          · exact trivial
        · exact trivial
      · exact trivial
    dsimp only
    rw [sel_beq]
    split
    · -- a function's own frame
      rename_i hro0
      rw [sel_ltb]
      split
      · rename_i hn
        have hfro : f.ro = none := by
          rcases hro with ⟨_, h⟩ | ⟨l, r, h, _⟩
          · exact h
          · omega
        have hw1 : ∃ w1 : World, w1 = { w with heap := w.heap.push (.deferred (some [])) } := ⟨_, rfl⟩
        obtain ⟨w1, hw1⟩ := hw1
        have hheap : w1.heap = w.heap.push (.deferred (some [])) := by rw [hw1]
        have e1 : Ext ρ L (updR ρ s.n (w.heap.size, 0, 0)) (upd L s.n .defr) := .fresh c.fresh _ _
        have hb1 : BR (updR ρ s.n (w.heap.size, 0, 0)) (upd L s.n .defr) w1 (w.heap.size, 0, 0) .defr := by show w1.heap[w.heap.size]? = _; rw [hheap]; simp
        have c1 : Ctx base (hset s.H s.n .defr) (s.n + 1) (updR ρ s.n (w.heap.size, 0, 0)) (upd L s.n .defr) w1 :=
          ⟨c.sim.fresh c.fresh hheap (by exact trivial) hb1, c.agree.hset hn _, c.fresh.upd _ _⟩
        have hsz1 : w1.heap.size = w.heap.size + 1 := by rw [hheap]; simp
        refine half _ _ w1 _ (s.n + 1) s.n (s.n :: s.D) [{ target := .collected w.heap.size, args := #[] }] (w.heap.size, 0, 0) c1 e1 (by rw [hw1]; exact below_push c.sim.bs) (.fresh _ _) (Nat.le_succ _) (updR_same _ _ _) (.inl (upd_same _ _ _)) ?_ ?_
        · refine .cons s.n (w.heap.size, 0, 0) s.D ds (updR_same _ _ _) (upd_same _ _ _) hm (fun hmem => ?_) hn (hd.mono e1)
          have := hd.lt c.fresh s.n hmem; omega
        · intro w2 h2 ho hta hou hdr
          have hw2 : w2 = { w1 with heap := w1.heap.push (.loop { state := .ready, pending := none, fn := f.fn, tmps := tmps, params := ps, assign := assign, body := body, defers := w.heap.size }) } := by
            cases w2; cases w1; simp_all
          rw [hfro, hw2, hw1]
          rfl
      · exact trivial
    · -- in a round
      rename_i hro0
      obtain ⟨lr, rr, hlr, hρlr, hfr⟩ : ∃ l r, ro = l + 1 ∧ ρ l = some r ∧ f.ro = some r.1 := by
        rcases hro with ⟨h, _⟩ | h
        · exact absurd h hro0
        · exact h
      unfold lpDf
      split
      · rename_i T0 nt0 ps0 a0 b0 st0 pd0 df hget
        rw [hlr, show Nat.pred (lr + 1) = lr from rfl] at hget
        have hL := c.agree.2 _ _ hget
        obtain ⟨k0, hk0, hbr⟩ := c.sim.blk lr _ hρlr
        rw [hL] at hk0; injection hk0 with hk0; subst hk0
        obtain ⟨lp, p1, p2, p3, p4, p5, p6, p7, q, p8, p9, p10⟩ := hbr ((loopNoRow _ _ _ _ _ _ _ _).live hL)
        refine half ρ L w s.H s.n df s.D [] q c (.refl _ _) (Below.refl _ _) (.refl _ _ _ _) (Nat.le_refl _) p8 p10 hd ?_
        intro w2 h2 ho hta hou hdr
        have hw2 : w2 = { w with heap := w.heap.push (.loop { state := .ready, pending := none, fn := f.fn, tmps := tmps, params := ps, assign := assign, body := body, defers := q.1 }) } := by
          cases w2; cases w; simp_all
        rw [hfr, hw2]
        simp [Instr.enterLoop, run_getLoop p1, p9]
      · exact trivial

/-- ALL CODE. -/
theorem execE_sound (hcall : CallS P call) (c : Code) : Sound P base nt m ro f c (execE P call nt ro fuel c) := by
  induction c with
  | skip => exact fun s tmps ds ρ L w k cs c ht hd hro hm => Mid.here c ht hd st_skip
  | region id ops draw =>
    cases draw with
    | false => exact sound_region hcall
    | true => exact sound_draw hcall
  | seq a b iha ihb => exact sound_seq iha ihb
  | cond q a b iha ihb => exact sound_cond iha ihb
  | block id b ih => exact sound_block ih
  | loop b ih => exact sound_loop ih
  | rangeFunc g ps assign body _ _ => exact sound_range hcall
  | exit id => exact fun s tmps ds ρ L w k cs c ht hd hro hm => Mid.here c ht hd ⟨k, rfl, Steps.refl _ _⟩
  | scope b ih => exact sound_scope ih
  | label l => exact fun s tmps ds ρ L w k cs c ht hd hro hm => Mid.here c ht hd st_label
  | goto l => exact fun s tmps ds ρ L w k cs c ht hd hro hm => trivial
  | ret => exact fun s tmps ds ρ L w k cs c ht hd hro hm => Mid.here c ht hd ⟨k, Steps.refl _ _⟩
  | refuse why => exact fun s tmps ds ρ L w k cs c ht hd hro hm => trivial
end
end Go.Eng
