/- Calls of every kind; the evaluator is sound. -/
import Derived.Test.YthcdiaahpodkoabEngQ
namespace Go.Eng
set_option linter.unusedSectionVars false
set_option linter.unusedSimpArgs false
set_option linter.unusedVariables false
open Go Go.RowKit
variable [E : Env]

section
variable {P : Program} {base nt m n n1 n' ro fuel v : Nat} {H H' : Trie} {ρ ρ1 : Rho} {L L1 : Look} {w w1 w' : World} {f : FFix} {call : Nat → List Nat → Trie → Nat → OR} {tmps : Array Value} {ds : List Deferred} {k : List Item} {cs : List Frame}

theorem returns_of_calls {fid : Nat} {vs : Array Value} {x : Value} {c : Frame} (h : CallsAt P fid vs w (c :: cs) (fun e W => e = .returned x ∧ W = w')) : Returns P (Frame.enter P fid vs .normal) w x w' c cs := by
  obtain ⟨e, W, fr, ⟨he, hW⟩, hst, hfn, hleave⟩ := h
  subst he; subst hW
  exact Steps.trans hst (.one (step_leave_returned hleave))

theorem setPs_nil_nil (nt T : Nat) : setPs nt [] [] T = .some T := rfl
theorem setPs_sound : ∀ (ps args : List Nat) (vs : List Value) (T T1 : Nat) (tmps : Array Value), TR ρ L nt T tmps → AR ρ L args vs → setPs nt ps args T = .some T1 →
    ps.length = vs.length ∧ TR ρ L nt T1 ((ps.zip vs).foldl (fun t p => t.setIfInBounds p.1 p.2) tmps)
  | [], args, vs, T, T1, tmps, ht, ha, h => by
    cases ha with
    | nil => have e : setPs nt [] [] T = .some T := rfl
             rw [e] at h; injection h with h; subst h; exact ⟨rfl, ht⟩
    | cons x v xs vs' _ _ => have e : setPs nt [] (x :: xs) T = .none := rfl
                             rw [e] at h; cases h
  | p :: ps, args, vs, T, T1, tmps, ht, ha, h => by
    cases ha with
    | nil => have e : setPs nt (p :: ps) [] T = .none := rfl
             rw [e] at h; cases h
    | cons x v xs vs' hx ha' =>
      have e : setPs nt (p :: ps) (x :: xs) T = sel (ltb p nt) (sel (ltb x 340282366920938463463374607431768211456) (setPs nt ps xs (setW T p x)) .none) .none := rfl
      rw [e, sel_ltb] at h
      split at h
      · rename_i hp
        rw [sel_ltb] at h
        split at h
        · rename_i hxl
          obtain ⟨h1, h2⟩ := setPs_sound ps xs vs' _ T1 _ (ht.set hp hxl hx) ha' h
          exact ⟨by simp [h1], h2⟩
        · cases h
      · cases h

theorem zip_fold (params : Array Tmp) (args : Array Value) (tmps : Array Value) :
    (params.zip args).foldl (fun tmps (x : Tmp × Value) => tmps.setIfInBounds x.1 x.2) tmps = (params.toList.zip args.toList).foldl (fun t p => t.setIfInBounds p.1 p.2) tmps := by
  rw [← Array.foldl_toList, Array.toList_zip]

theorem run_beginRound {why : String} {l : Nat} {lp : Loop} (h : w.heap[l]? = some (.loop lp)) (hs : lp.state = .ready) :
    (do (some l).elim (stuck why) Instr.beginRound; pure Next.skip : Sem Next).run P w = .ok .skip { w with heap := w.heap.setIfInBounds l (.loop { lp with state := .busy }) } := by
  simp [Instr.beginRound, run_getLoop h, run_setObj_loop h, hs]

theorem st_beginRound {l : Nat} {lp : Loop} (hf : f.ro = some l) (h : w.heap[l]? = some (.loop lp)) (hs : lp.state = .ready) :
    Steps P (lone (mkF f tmps ds (.beginRound :: k)) cs w) (lone (mkF f tmps ds k) cs { w with heap := w.heap.setIfInBounds l (.loop { lp with state := .busy }) }) := by
  refine .one (step_lone_go ?_)
  simp only [stepG, stepG.exec, mkF, hf, stepG.apply, Sem.runT_eq, run_beginRound h hs, if_true, GStep.bare_after]
  rfl

theorem run_endRound {l : Nat} {lp : Loop} (h : w.heap[l]? = some (.loop lp)) (jump : Option Code) :
    (Instr.endRound l jump).run P w = .ok (.bool jump.isNone) { w with heap := w.heap.setIfInBounds l (.loop { lp with state := if jump.isNone then .ready else .done, pending := jump }) } := by
  simp [Instr.endRound, run_getLoop h, run_setObj_loop h]

theorem st_endRound0 {l : Nat} {lp : Loop} {c : Frame} (hf : f.ro = some l) (hk : f.kind = .normal) (h : w.heap[l]? = some (.loop lp)) :
    Steps P (lone (mkF f tmps [] []) (c :: cs) w) (lone (c.finish (.bool true)) cs { w with heap := w.heap.setIfInBounds l (.loop { lp with state := .ready, pending := none }) }) := by
  refine .one (step_lone_go ?_)
  simp only [stepG, stepG.exec, mkF, hf, hk, Sem.runT_eq, run_endRound h none, GStep.bare_after, doReturn]
  rfl
theorem st_endRoundRet {l : Nat} {lp : Loop} {c : Frame} (hf : f.ro = some l) (hk : f.kind = .normal) (h : w.heap[l]? = some (.loop lp)) :
    Steps P (lone (mkF f tmps [] (.code .ret :: k)) (c :: cs) w) (lone (c.finish (.bool false)) cs { w with heap := w.heap.setIfInBounds l (.loop { lp with state := .done, pending := some .ret }) }) := by
  refine .one (step_lone_go ?_)
  simp only [stepG, stepG.exec, mkF, hf, hk, Sem.runT_eq, run_endRound h (some .ret), GStep.bare_after, doReturn]
  rfl
theorem st_endRoundExit {l i : Nat} {lp : Loop} {c : Frame} (hf : f.ro = some l) (hk : f.kind = .normal) (h : w.heap[l]? = some (.loop lp)) (he : exitTo i k = none) :
    Steps P (lone (mkF f tmps [] (.code (.exit i) :: k)) (c :: cs) w) (lone (c.finish (.bool false)) cs { w with heap := w.heap.setIfInBounds l (.loop { lp with state := .done, pending := some (.exit i) }) }) := by
  refine .one (step_lone_go ?_)
  simp only [stepG, stepG.exec, mkF, hf, hk, he, Option.elim, Sem.runT_eq, run_endRound h (some (.exit i)), GStep.bare_after, doReturn]
  rfl

theorem yieldE_sound (hcall : CallS P call) (cc : Frame) (cs : List Frame) {l : Nat} {r : Nat × Nat × Nat} {args : List Nat} {vs : Array Value} (c : Ctx base H n ρ L w) (hl : ρ l = some r) (ha : AR ρ L args vs.toList) (h : yieldE P call fuel l args H n = .ok v H' n') :
    After base H n ρ L w v H' n' (fun x w' => Does P (Instr.yield r.1 vs) w x w' cc cs) := by
  unfold yieldE at h
  split at h
  · rename_i T nt ps assign body st0 pd0 df0 hget
    rw [sel_eq] at h
    split at h
    · have hL := c.agree.2 _ _ hget
      obtain ⟨k0, hk0, hbr⟩ := c.sim.blk l r hl
      rw [hL] at hk0; injection hk0 with hk0; subst hk0
      obtain ⟨lp, p1, p2, p3, p4, p5, p6, p7, q, p8, p9, p10⟩ := hbr ((loopNoRow _ _ _ _ _ _ _ _).live hL)
      split at h
      · rename_i T1 hps
        obtain ⟨hlen, ht1⟩ := setPs_sound (nt := nt) ps args vs.toList T T1 lp.tmps p7 ha hps
        split at h
        · rename_i s hr1
          have hex1 := execE_sound (base := base) (nt := nt) (m := n) (ro := l + 1) (fuel := fuel) (f := ⟨lp.fn, .normal, some r.1⟩) hcall assign ⟨T1, H, n, []⟩ _ [] ρ L w [.beginRound, .code body] (cc :: cs) c ht1 .nil (.inr ⟨l, r, rfl, hl, rfl⟩) (Nat.le_refl _)
          have hr1' : execE P call nt (l + 1) fuel assign ⟨T1, H, n, []⟩ = .norm s := hr1
          rw [hr1'] at hex1
          obtain ⟨ρ1, L1, w1, t1, d1, c1, htt1, hd1, e1, b1, lc1, hn1, hst1⟩ := hex1
          split at h
          · rename_i T2 nt2 ps2 a2 bb2 st2 pd2 df2 hget2
            rw [sel_beq] at h
            split at h
            · rename_i hst0
              subst hst0
              have hl1 := e1.place _ _ hl
              have hL1 := c1.agree.2 _ _ hget2
              have hlt1 := c1.agree.lt hget2
              obtain ⟨k1, hk1, hbr1⟩ := c1.sim.blk l r hl1
              rw [hL1] at hk1; injection hk1 with hk1; subst hk1
              obtain ⟨lp1, q1, q2, q3, q4, q5, q6, q7, qq, q8, q9, q10⟩ := hbr1 ((loopNoRow _ _ _ _ _ _ _ _).live hL1)
              have hbase : base ≤ r.1 := c1.sim.rw l r hl1 (by rw [(loopNoRow _ _ _ _ _ _ _ _).grp hL1]; omega)
              obtain ⟨s2, e2⟩ := c1.sim.setLoop (w' := { w1 with heap := w1.heap.setIfInBounds r.1 (.loop { lp1 with state := .busy }) }) (st' := 1) (pd' := pd2) hl1 hL1 q1 (lp' := { lp1 with state := .busy }) (by rw [← q3]; rfl) rfl
              have c2 : Ctx base (hset s.H l (.loop T2 nt2 ps2 a2 bb2 1 pd2 df2)) s.n ρ1 (upd L1 l (.loop T2 nt2 ps2 a2 bb2 1 pd2 df2)) { w1 with heap := w1.heap.setIfInBounds r.1 (.loop { lp1 with state := .busy }) } :=
                ⟨s2, c1.agree.hset hlt1 _, fun j hj => ⟨by rw [upd_ne _ _ (by have := c1.fresh.ltL hL1; omega)]; exact (c1.fresh j hj).1, (c1.fresh j hj).2⟩⟩
              have hex2 := execE_sound (base := base) (nt := nt) (m := n) (ro := l + 1) (fuel := fuel) (f := ⟨lp.fn, .normal, some r.1⟩) hcall body ⟨s.T, hset s.H l (.loop T2 nt2 ps2 a2 bb2 1 pd2 df2), s.n, s.D⟩ t1 d1 ρ1 _ _ [] (cc :: cs) c2 (htt1.mono e2) (hd1.mono e2)
                (.inr ⟨l, r, rfl, hl1, rfl⟩) hn1
              have hround : Steps P (lone (Frame.round r.1 lp.fn ((ps.zip vs.toList).foldl (fun t p => t.setIfInBounds p.1 p.2) lp.tmps) assign body .normal) (cc :: cs) w)
                  (lone (mkF ⟨lp.fn, .normal, some r.1⟩ t1 d1 [.code body]) (cc :: cs) { w1 with heap := w1.heap.setIfInBounds r.1 (.loop { lp1 with state := .busy }) }) := by
                have e0 : Frame.round r.1 lp.fn ((ps.zip vs.toList).foldl (fun t p => t.setIfInBounds p.1 p.2) lp.tmps) assign body .normal =
                    mkF ⟨lp.fn, .normal, some r.1⟩ ((ps.zip vs.toList).foldl (fun t p => t.setIfInBounds p.1 p.2) lp.tmps) [] [.code assign, .beginRound, .code body] := rfl
                rw [e0]
                exact hst1.trans (st_beginRound rfl q1 q2)
              have hyield : (Instr.yield r.1 vs).run P w = .ok (.round r.1 lp.fn ((ps.zip vs.toList).foldl (fun t p => t.setIfInBounds p.1 p.2) lp.tmps) assign body) w := by
                have hsz : ¬ (vs.size ≠ lp.params.size) := by
                  have : lp.params.size = ps.length := by rw [← p4]; simp
                  rw [this, hlen]; simp
                have hz := zip_fold lp.params vs lp.tmps
                rw [p4] at hz
                simp only [Instr.yield, Sem.run_bind, run_getLoop p1, Result.andThen_ok]
                rw [Sem.run_ite, if_neg hsz]
                simp only [Sem.run_pure, p5, p6]
                rw [← hz]
              have l12 : Loc H n ρ L ρ1 (upd L1 l (.loop T2 nt2 ps2 a2 bb2 1 pd2 df2)) := ⟨fun b hb hbn => by
                obtain ⟨x1, x2⟩ := lc1.bare b hb hbn
                refine ⟨?_, x2⟩
                rw [upd_ne _ _ (fun hh => by subst hh; rw [hl1] at x2; cases x2)]; exact x1⟩
              -- the end, whichever way
              have fin : ∀ (s' : St) (st' pend' : Nat) (b : Bool), (b = true ∧ st' = 0 ∧ pend' = 0 ∨ b = false ∧ st' = 2 ∧ pend' ≠ 0) →
                  Mid base nt n s.n ρ1 (upd L1 l (.loop T2 nt2 ps2 a2 bb2 1 pd2 df2)) { w1 with heap := w1.heap.setIfInBounds r.1 (.loop { lp1 with state := .busy }) } s' (fun w' t d => d = [] →
                    ∀ lp3, w'.heap[r.1]? = some (.loop lp3) → Steps P (lone (mkF ⟨lp.fn, .normal, some r.1⟩ t1 d1 [.code body]) (cc :: cs) { w1 with heap := w1.heap.setIfInBounds r.1 (.loop { lp1 with state := .busy }) })
                      (lone (cc.finish (.bool b)) cs { w' with heap := w'.heap.setIfInBounds r.1 (.loop { lp3 with state := stOf st', pending := pendOf pend' }) })) →
                  yieldE.finE l s' st' pend' (wB b) = .ok v H' n' → After base H n ρ L w v H' n' (fun x w' => Does P (Instr.yield r.1 vs) w x w' cc cs) := by
                rintro s' st' pend' b _ ⟨ρ3, L3, w3, t3, d3, c3, ht3, hd3, e3, b3, lc3, hn3, hst3⟩ hfin
                unfold yieldE.finE at hfin
                split at hfin
                · rename_i hD
                  rw [hD] at hd3
                  cases hd3
                  split at hfin
                  · rename_i T4 nt4 ps4 a4 bb4 st4 pd4 df4 hget4
                    injection hfin with f1 f2 f3
                    subst f1; subst f2; subst f3
                    have hl3 := e3.place _ _ hl1
                    have hL3 := c3.agree.2 _ _ hget4
                    have hlt3 := c3.agree.lt hget4
                    obtain ⟨k3, hk3, hbr3⟩ := c3.sim.blk l r hl3
                    rw [hL3] at hk3; injection hk3 with hk3; subst hk3
                    obtain ⟨lp3, u1, _⟩ := hbr3 ((loopNoRow _ _ _ _ _ _ _ _).live hL3)
                    obtain ⟨s4, e4⟩ := c3.sim.setLoop (w' := { w3 with heap := w3.heap.setIfInBounds r.1 (.loop { lp3 with state := stOf st', pending := pendOf pend' }) }) (st' := st') (pd' := pend') hl3 hL3 u1 rfl rfl
                    refine ⟨ρ3, _, _, .bool b, ⟨s4, c3.agree.hset hlt3 _, fun j hj => ⟨by rw [upd_ne _ _ (by have := c3.fresh.ltL hL3; omega)]; exact (c3.fresh j hj).1, (c3.fresh j hj).2⟩⟩, ((e1.trans e2).trans e3).trans e4,
                      ((b1.trans (below_set hbase)).trans b3).trans (below_set hbase), ?_, Nat.le_trans hn1 hn3, .bool b, ?_⟩
                    · have l3 := l12.trans hn1 lc3
                      refine ⟨fun x hx hxn => ?_⟩
                      obtain ⟨y1, y2⟩ := l3.bare x hx hxn
                      exact ⟨by rw [upd_ne _ _ (fun hh => by subst hh; rw [hl3] at y2; cases y2)]; exact y1, y2⟩
                    · exact .round _ _ _ _ _ _ hyield (hround.trans (hst3 rfl lp3 u1))
                  · cases hfin
                · cases hfin
              split at h
              · rename_i s' hr2
                have hr2' : execE P call nt (l + 1) fuel body ⟨s.T, hset s.H l (.loop T2 nt2 ps2 a2 bb2 1 pd2 df2), s.n, s.D⟩ = .norm s' := hr2
                rw [hr2'] at hex2
                refine fin s' 0 0 true (.inl ⟨rfl, rfl, rfl⟩) (Mid.mono hex2 ?_) h
                intro w' t d hs hd0 lp3 hlp3
                subst hd0
                exact hs.trans (st_endRound0 rfl rfl hlp3)
              · rename_i i s' hr2
                have hr2' : execE P call nt (l + 1) fuel body ⟨s.T, hset s.H l (.loop T2 nt2 ps2 a2 bb2 1 pd2 df2), s.n, s.D⟩ = .exit i s' := hr2
                rw [hr2'] at hex2
                refine fin s' 2 (i + 2) false (.inr ⟨rfl, rfl, by omega⟩) (Mid.mono hex2 ?_) h
                intro w' t d hs hd0 lp3 hlp3
                subst hd0
                obtain ⟨k', h1, h2⟩ := hs
                exact h2.trans (st_endRoundExit rfl rfl hlp3 h1)
              · rename_i s' hr2
                have hr2' : execE P call nt (l + 1) fuel body ⟨s.T, hset s.H l (.loop T2 nt2 ps2 a2 bb2 1 pd2 df2), s.n, s.D⟩ = .ret s' := hr2
                rw [hr2'] at hex2
                refine fin s' 2 1 false (.inr ⟨rfl, rfl, by omega⟩) (Mid.mono hex2 ?_) h
                intro w' t d hs hd0 lp3 hlp3
                subst hd0
                obtain ⟨k', h2⟩ := hs
                exact h2.trans (st_endRoundRet rfl rfl hlp3)
              · cases h
            · cases h
          · cases h
        · cases h
        · cases h
      · cases h
    · cases h
  · cases h

theorem unlist_sound : ∀ (m c : Nat) (caps : List Value), caps.length = m → (∀ i (h : i < caps.length), VR ρ L (getW c i) caps[i]) → AR ρ L (unlist m c) caps
  | 0, c, caps, hl, _ => by
    have : caps = [] := List.eq_nil_of_length_eq_zero hl
    subst this; exact .nil
  | m + 1, c, caps, hl, h => by
    cases caps with
    | nil => simp at hl
    | cons x xs =>
      have e : unlist (m + 1) c = getW c 0 :: unlist m (Nat.shiftRight c 128) := rfl
      rw [e]
      refine .cons _ _ _ _ (h 0 (by simp)) (unlist_sound m _ xs (by simpa using hl) fun i hi => ?_)
      have := h (i + 1) (by simpa using hi)
      have e2 : getW (Nat.shiftRight c 128) i = getW c (i + 1) := by
        rw [getW_eq, getW_eq, show Nat.shiftRight c 128 = c >>> 128 from rfl, ← Nat.shiftRight_add, show 128 + 128 * i = 128 * (i + 1) from by omega]
      rw [e2]; simpa using this

theorem AR.append {xs ys : List Nat} {vs us : List Value} (h : AR ρ L xs vs) (h2 : AR ρ L ys us) : AR ρ L (xs ++ ys) (vs ++ us) := by
  induction h with
  | nil => exact h2
  | cons x v xs vs hx _ ih => exact .cons _ _ _ _ hx ih

theorem run_callFunc {fid : Nat} {fn : Func} {args : Array Value} (h : P.funcs[fid]? = some fn) (hb : fn.body.isSome = true) (hn : fn.name ≠ "runtime.NumGoroutine") : (callFunc fid args).run P w = .ok (.enter fid args) w := by
  have : ¬ fn.body = none := by intro h; rw [h] at hb; cases hb
  simp [callFunc, h, hn, this]

/-- What is known beforehand is so. -/
def SumS (P : Program) (S : Sums) : Prop :=
  ∀ (base : Nat) (H : Trie) (n : Nat) (ρ : Rho) (L : Look) (w : World) (f : Nat) (args : List Nat) (vs : Array Value) (v : Nat) (H' : Trie) (n' : Nat) (cs : List Frame),
    Ctx base H n ρ L w → AR ρ L args vs.toList → S f args H n = .yes (.ok v H' n') →
    After base H n ρ L w v H' n' (fun x w' => (∃ fn, P.funcs[f]? = some fn ∧ fn.body.isSome = true ∧ fn.name ≠ "runtime.NumGoroutine") ∧ CallsAt P f vs w cs (fun e W => e = .returned x ∧ W = w'))

/-- ██ Calls, d deep: the evaluator is sound. -/
theorem callN_sound (P : Program) {S : Sums} (hS : SumS P S) (fuel : Nat) : ∀ d, CallS P (callN P S fuel d)
  | 0 => fun _ _ _ _ _ _ _ _ _ _ _ _ _ _ _ _ _ _ h => by cases h
  | d + 1 => by
    intro base H n ρ L w fw args fv vs v H' n' cfr ccs c hf ha h
    have e : callN P S fuel (d + 1) fw args H n = sel (Nat.beq (tagOf fw) 8) (force (payOf fw) fun f => match S f args H n with | .yes r => r | .no => funE P (callN P S fuel d) fuel f args H n)
        (sel (Nat.beq (tagOf fw) 13) (yieldE P (callN P S fuel d) fuel (payOf fw) args H n)
          (sel (Nat.beq (tagOf fw) 10)
            (match tget H (payOf fw) with
             | some (.box 2 m c) => force (getW c 0) fun f => match S f (args ++ unlist m (Nat.shiftRight c 128)) H n with | .yes r => r | .no => funE P (callN P S fuel d) fuel f (args ++ unlist m (Nat.shiftRight c 128)) H n
             | _ => (.bad 0)) (.bad 0))) := rfl
    rw [e, sel_beq, sel_beq, sel_beq] at h
    simp only [force_eq] at h
    split at h
    · rename_i h8
      have := hf.fn_inv h8
      subst this
      have main : After base H n ρ L w v H' n' (fun x w' => (∃ fn, P.funcs[payOf fw]? = some fn ∧ fn.body.isSome = true ∧ fn.name ≠ "runtime.NumGoroutine") ∧ CallsAt P (payOf fw) vs w (cfr :: ccs) (fun e W => e = .returned x ∧ W = w')) := by
        split at h
        · rename_i r hr
          subst h
          exact hS _ _ _ _ _ _ _ _ _ _ _ _ _ c ha hr
        · exact funE_sound (callN_sound P hS fuel d) (cfr :: ccs) c ha h
      refine main.mono ?_
      rintro x w' ⟨⟨fn, hfn, hb, hn⟩, hc⟩
      refine .enter (payOf fw) vs w ?_ (returns_of_calls hc)
      simp [Deferred.ofValue, invoke, run_callFunc hfn hb hn]
    · split at h
      · rename_i h13
        obtain ⟨rb, dd, sz, hρ, rfl⟩ := hf.yld_inv h13
        refine (yieldE_sound (callN_sound P hS fuel d) cfr ccs c hρ ha h).mono ?_
        intro x w' hd
        have e2 : (do let d ← Deferred.ofValue (.func (.yield rb) #[] #[]) vs; invoke d.target d.args : Sem Next) = Instr.yield rb vs := by
          simp [Deferred.ofValue, invoke]
        rw [e2]; exact hd
      · split at h
        · rename_i h10
          obtain ⟨m, cc, caps, hL, hsz, hcaps, rfl⟩ := hf.clo_inv h10
          split at h
          · rename_i m' c' hget
            have := c.agree.2 _ _ hget
            rw [hL] at this
            injection this with this; injection this with _ e1 e2
            subst e1; subst e2
            have hcap : AR ρ L (unlist m (Nat.shiftRight cc 128)) caps.toList := unlist_sound m _ _ (by simpa using hsz) fun i hi => by
              have := hcaps i (by simpa using hi)
              have e2 : getW (Nat.shiftRight cc 128) i = getW cc (i + 1) := by
                rw [getW_eq, getW_eq, show Nat.shiftRight cc 128 = cc >>> 128 from rfl, ← Nat.shiftRight_add, show 128 + 128 * i = 128 * (i + 1) from by omega]
              rw [e2]; simpa using this
            have hall : AR ρ L (args ++ unlist m (Nat.shiftRight cc 128)) (vs ++ caps).toList := by rw [Array.toList_append]; exact ha.append hcap
            have main : After base H n ρ L w v H' n' (fun x w' => (∃ fn, P.funcs[getW cc 0]? = some fn ∧ fn.body.isSome = true ∧ fn.name ≠ "runtime.NumGoroutine") ∧ CallsAt P (getW cc 0) (vs ++ caps) w (cfr :: ccs) (fun e W => e = .returned x ∧ W = w')) := by
              split at h
              · rename_i r hr
                subst h
                exact hS _ _ _ _ _ _ _ _ _ _ _ _ _ c hall hr
              · exact funE_sound (callN_sound P hS fuel d) (cfr :: ccs) c hall h
            refine main.mono ?_
            rintro x w' ⟨⟨fn, hfn, hb, hn⟩, hc⟩
            refine .enter (getW cc 0) (vs ++ caps) w ?_ (returns_of_calls hc)
            simp [Deferred.ofValue, invoke, run_callFunc hfn hb hn]
          · cases h
        · cases h
end
end Go.Eng
