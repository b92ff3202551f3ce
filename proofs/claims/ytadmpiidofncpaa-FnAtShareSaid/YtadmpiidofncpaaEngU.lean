/- Part of the evaluator: Q R S T U. -/
import Derived.Test.YtadmpiidofncpaaEngP

/- Calls. -/
namespace Go.Eng
set_option linter.unusedSectionVars false
set_option linter.unusedSimpArgs false
set_option linter.unusedVariables false
open Go Go.RowKit
variable [E : Env]

def mkR (f : FFix) (tmps : Array Value) (ds : List Deferred) (todo : List Item) : Frame :=
  { fn := f.fn, tmps := tmps, todo := todo, defers := ds, mode := .returning, kind := f.kind, roundOf := f.ro }

section
variable {P : Program} {base nt m n n1 n' ro fuel v : Nat} {H H' : Trie} {ρ ρ1 : Rho} {L L1 : Look} {w w1 w' : World} {f : FFix} {call : Nat → List Nat → Trie → Nat → OR} {tmps : Array Value} {ds : List Deferred} {k : List Item} {cs : List Frame}

theorem st_leave0 (hf : f.ro = none) : Steps P (lone (mkF f tmps ds []) cs w) (lone (mkR f tmps ds []) cs w) := .one (step_lone_go (by simp [stepG, stepG.exec, mkF, mkR, hf]))
theorem st_leaveRet (hf : f.ro = none) : Steps P (lone (mkF f tmps ds (.code .ret :: k)) cs w) (lone (mkR f tmps ds (.code .ret :: k)) cs w) := .one (step_lone_go (by simp [stepG, stepG.exec, mkF, mkR, hf]))

theorem run_take {r : Nat} (h : w.heap[r]? = some (.deferred (some []))) : (Instr.takeDeferred r).run P w = .ok [] { w with heap := w.heap.setIfInBounds r (.deferred none) } := by
  simp [Instr.takeDeferred, getObj, setObj, Sem.run, h]

theorem st_unwind {r : Nat} (h : w.heap[r]? = some (.deferred (some []))) :
    Steps P (lone (mkR f tmps ({ target := .collected r, args := #[] } :: ds) k) cs w) (lone (mkR f tmps ds k) cs { w with heap := w.heap.setIfInBounds r (.deferred none) }) := by
  refine .one (step_lone_go ?_)
  simp only [stepG, unwind, mkR, Sem.runT_eq, run_take h, GStep.bare_after]
  rfl

theorem goneE_cons (d : Nat) (D : List Nat) (H : Trie) : goneE (d :: D) H = goneE D (hset H d .gone) := rfl

/-- The marks of a function go at its end. -/
theorem unwind_all (ds0 : List Nat) (ds : List Deferred) : ∀ (H : Trie) (n : Nat) (L : Look) (w : World), DR ρ L m ds0 ds → Ctx base H n ρ L w → (∀ d ∈ ds0, d < 16384) →
    ∃ L' w', Ctx base (goneE ds0 H) n ρ L' w' ∧ Ext0 ρ L ρ L' ∧ Below base w w' ∧ (∀ b, b < m → L' b = L b) ∧ ∀ f tmps k cs, Steps P (lone (mkR f tmps ds k) cs w) (lone (mkR f tmps [] k) cs w') := by
  induction ds0 generalizing ds with
  | nil =>
    intro H n L w hd c _
    cases hd
    exact ⟨L, w, c, .refl _ _, Below.refl _ _, fun _ _ => rfl, fun _ _ _ _ => Steps.refl _ _⟩
  | cons d D ih =>
    intro H n L w hd c hlt
    cases hd with
    | cons _ r _ ds' h1 h2 h3 h4 h55 h5 =>
      obtain ⟨k0, hk0, hbr⟩ := c.sim.blk d r h1
      rw [h2] at hk0; injection hk0 with hk0; subst hk0
      have hheap : w.heap[r.1]? = some (.deferred (some [])) := hbr (NoRow.live (k := .defr) trivial h2)
      have hsize : r.1 < w.heap.size := c.sim.bnd d r h1
      have ne : ∀ j (k : Blk), L j = some k → k ≠ .defr → j ≠ d := fun j k hj hk hjd => by subst hjd; rw [h2] at hj; injection hj with hj; exact hk hj.symm
      have e : Ext0 ρ L ρ (upd L d .gone) := by
        refine ⟨fun _ _ h => h, fun j kd mm cc hj => ?_, fun j p q s d lo hi hj => ?_, fun j hj => ?_⟩
        · rw [upd_ne _ _ (ne j _ hj (by simp))]; exact hj
        · rw [upd_ne _ _ (ne j _ hj (by simp))]; exact hj
        · by_cases hjd : j = d
          · subst hjd; right; exact upd_same _ _ _
          · unfold IsDf; rw [upd_ne _ _ hjd]; exact hj
      have s1 := c.sim.swap (w' := { w with heap := w.heap.setIfInBounds r.1 (.deferred none) }) h1 h2 (k' := .gone) trivial trivial e
        (fun x hx => by simp only; rw [Array.getElem?_setIfInBounds, if_neg (by omega)]) (by simp) trivial
      have hbase : base ≤ r.1 := c.sim.rw d r h1 (by rw [NoRow.grp (k := .defr) trivial h2]; omega)
      have c1 : Ctx base (hset H d .gone) n ρ (upd L d .gone) { w with heap := w.heap.setIfInBounds r.1 (.deferred none) } :=
        ⟨s1, c.agree.hset (hlt d (by simp)) _, fun j hj => ⟨by rw [upd_ne _ _ (by have := c.fresh.lt h1; omega)]; exact (c.fresh j hj).1, (c.fresh j hj).2⟩⟩
      have h5' : DR ρ (upd L d .gone) m D ds' := by
        clear ih hlt c c1 s1 e ne hbr
        induction h5 with
        | nil => exact .nil
        | cons x q D' ds'' g1 g2 g3 g4 g5 _ ih2 =>
          have hne : x ≠ d := fun hx => h4 (by subst hx; simp)
          exact .cons x q D' ds'' g1 (by rw [upd_ne _ _ hne]; exact g2) g3 g4 g5 (ih2 (fun hh => h4 (by simp [hh])))
      obtain ⟨L', w', c2, e2, b2, hm2, st2⟩ := ih ds' (hset H d .gone) n (upd L d .gone) _ h5' c1 (fun x hx => hlt x (by simp [hx]))
      exact ⟨L', w', by rw [goneE_cons]; exact c2, e.trans e2, (below_set hbase).trans b2, fun b hb => by rw [hm2 b hb, upd_ne _ _ (by omega)], fun f tmps k cs => (st_unwind hheap).trans (st2 f tmps k cs)⟩

theorem resB_sound : ∀ (rs : List ResultVar) (H : Trie) (n : Nat) (L : Look) (k : List Nat → Trie → Nat → OR) (r : OR) (T : Nat), Ctx base H n ρ L w → TR ρ L nt T tmps → resB P T rs H n k = r → (∀ q, r ≠ .bad q) →
    ∃ vs ws H1 n1 L1, Ctx base H1 n1 ρ L1 w ∧ Ext ρ L ρ L1 ∧ (∀ b, b < n → L1 b = L b) ∧ n ≤ n1 ∧ k ws H1 n1 = r ∧ AR ρ L1 ws vs ∧
      (rs.mapM (fun | .tmp t => pure (tmps.getD t Go.undef) | .cell a t => do loadVar t (← asAddr (tmps.getD a Go.undef)) : ResultVar → Sem Value)).run P w = .ok vs w
  | [], H, n, L, k, r, T, c, ht, h, hr => ⟨[], [], H, n, L, c, .refl _ _, fun _ _ => rfl, Nat.le_refl _, h, .nil, rfl⟩
  | .tmp t :: rs, H, n, L, k, r, T, c, ht, h, hr => by
    have e : resB P T (.tmp t :: rs) H n k = resB P T rs H n (fun ws => k (getW T t :: ws)) := rfl
    rw [e] at h
    obtain ⟨vs, ws, H1, n1, L1, c1, e1, f1, hn, hk, ha, hrun⟩ := resB_sound rs H n L _ r T c ht h hr
    exact ⟨_, _, H1, n1, L1, c1, e1, f1, hn, hk, .cons _ _ _ _ ((ht.2 t).mono e1) ha, by rw [List.mapM_cons]; simp only [Sem.run_bind, Sem.run_pure, Result.andThen_ok, hrun]⟩
  | .cell a t :: rs, H, n, L, k, r, T, c, ht, h, hr => by
    have e : resB P T (.cell a t :: rs) H n k = sel (plain P t)
          (sel (Nat.beq (tagOf (getW T a)) 3) (sel (Nat.beq (pBlk (payOf (getW T a))) 0) (.bad 0)
            (sel (Nat.beq (tagOf (rd H (Nat.pred (pBlk (payOf (getW T a)))) (pOff (payOf (getW T a))))) 15) (.bad 0) (resB P T rs H n (fun ws => k (rd H (Nat.pred (pBlk (payOf (getW T a)))) (pOff (payOf (getW T a))) :: ws))))) (.bad 0))
          (match loadA P t (getW T a) H n with | .ok v H' n' => resB P T rs H' n' (fun ws => k (v :: ws)) | .bad q => .bad q) := rfl
    rw [e, sel_eq] at h
    split at h
    · rename_i hp
      rw [sel_beq] at h
      split at h
      · rename_i h3
        rw [sel_beq] at h
        split at h
        · exact absurd h.symm (hr _)
        · rename_i hz
          rw [sel_beq] at h
          split at h
          · exact absurd h.symm (hr _)
          · rename_i hnb
            rcases (ht.2 a).ptr_inv h3 with ⟨h4, _⟩ | ⟨b, off, rb, d, sz, hb', hof, hw, hv⟩
            · rw [h4] at hz; exact absurd rfl hz
            · obtain ⟨_, p2, p3⟩ := p_parts b off hof
              rw [hw, p2, p3, Nat.pred_succ] at h hnb
              obtain ⟨u, hcell, hu⟩ := rd_sound c hb' hnb
              obtain ⟨vs, ws, H1, n1, L1, c1, e1, f1, hn, hk, ha, hrun⟩ := resB_sound rs H n L _ r T c ht h hr
              refine ⟨_, _, H1, n1, L1, c1, e1, f1, hn, hk, .cons _ _ _ _ (hu.mono e1) ha, ?_⟩
              have hld : (do loadVar t (← asAddr (tmps.getD a Go.undef)) : Sem Value).run P w = .ok u w := by rw [hv]; simp [asAddr, loadVar, run_isAgg_plain hp, hcell]
              rw [List.mapM_cons, Sem.run_bind]
              refine Eq.trans (congrArg (Result.andThen · _) hld) ?_
              simp only [Result.andThen_ok, Sem.run_bind, hrun, Sem.run_pure]
      · exact absurd h.symm (hr _)
    · split at h
      · rename_i v0 H0 n0 hl
        have hptr : ∃ p, tmps.getD a Go.undef = .pointer (some p) := by
          unfold loadA at hl
          rw [sel_eq] at hl
          split at hl
          · rw [sel_beq] at hl
            split at hl
            · rename_i h3
              rw [sel_beq] at hl
              split at hl
              · cases hl
              · rename_i hz
                rcases (ht.2 a).ptr_inv h3 with ⟨h4, _⟩ | ⟨b, off, rb, d, sz, hb', hof, hw, hv⟩
                · rw [h4] at hz; exact absurd rfl hz
                · exact ⟨_, hv⟩
            · cases hl
          · cases hl
        obtain ⟨p, hp⟩ := hptr
        obtain ⟨x, hcx, hrunx⟩ := loadA_calm c (ht.2 a) hl
        have step : ∃ L0, Ctx base H0 n0 ρ L0 w ∧ Ext ρ L ρ L0 ∧ (∀ b, b < n → L0 b = L b) ∧ n ≤ n0 ∧ VR ρ L0 v0 x := by
          rcases hcx with ⟨rfl, rfl, hv⟩ | ⟨kb, hkb, rfl, rfl, hn, rfl, hv⟩
          · exact ⟨L, c, .refl _ _, fun _ _ => rfl, Nat.le_refl _, hv⟩
          · have e : Ext ρ L ρ (upd L n kb) := .freshL c.fresh _
            exact ⟨upd L n kb, ⟨c.sim.boxB c.fresh hkb, c.agree.hset hn _, c.fresh.updL _⟩, e, fun b hb => upd_ne _ _ (by omega), Nat.le_succ _, hv ρ _ n e.toExt0 (upd_same _ _ _)⟩
        obtain ⟨L0, c0, e0, f0, hn0, hv0⟩ := step
        obtain ⟨vs, ws, H1, n1, L1, c1, e1, f1, hn, hk, ha, hrun⟩ := resB_sound rs H0 n0 L0 _ r T c0 (ht.mono e0) h hr
        refine ⟨_, _, H1, n1, L1, c1, e0.trans e1, fun b hb => (f1 b (by omega)).trans (f0 b hb), Nat.le_trans hn0 hn, hk, .cons _ _ _ _ (hv0.mono e1) ha, ?_⟩
        have hld : (do loadVar t (← asAddr (tmps.getD a Go.undef)) : Sem Value).run P w = .ok x w := by
          rw [hp] at hrunx ⊢
          simpa [asAddr, Instr.loadAt, Instr.sureAddr] using hrunx
        rw [List.mapM_cons, Sem.run_bind]
        refine Eq.trans (congrArg (Result.andThen · _) hld) ?_
        simp only [Result.andThen_ok, Sem.run_bind, hrun, Sem.run_pure]
      · exact absurd h.symm (hr _)

theorem tupE_sound (c : Ctx base H n ρ L w) {ws : List Nat} {vs : List Value} (ha : AR ρ L ws vs) (h : tupE ws H n = .ok v H' n') :
    ∃ L' x, Ctx base H' n' ρ L' w ∧ Ext ρ L ρ L' ∧ (∀ b, b < n → L' b = L b) ∧ n ≤ n' ∧ VR ρ L' v x ∧ x = (if h : vs.toArray.size = 1 then vs.toArray[0] else .tuple vs.toArray) := by
  unfold tupE at h
  rw [sel_eq] at h
  split at h
  · rename_i hnb
    rcases ws with _ | ⟨w0, _ | ⟨w1, ws⟩⟩
    · cases ha
      injection h with h1 h2 h3
      subst h1; subst h2; subst h3
      exact ⟨L, _, c, .refl _ _, fun _ _ => rfl, Nat.le_refl _, .undef, rfl⟩
    · cases ha with
      | cons _ x _ _ hx ha' =>
        cases ha'
        injection h with h1 h2 h3
        subst h1; subst h2; subst h3
        exact ⟨L, x, c, .refl _ _, fun _ _ => rfl, Nat.le_refl _, hx, rfl⟩
    · dsimp only at h
      rw [sel_eq] at h
      split at h
      · rename_i hsl
        unfold newBox at h
        rw [sel_ltb] at h
        split at h
        · rename_i hn
          injection h with h1 h2 h3
          subst h1; subst h2; subst h3
          have e : Ext ρ L ρ (upd L n (.box 1 (w0 :: w1 :: ws).length (listW (w0 :: w1 :: ws)))) := .freshL c.fresh _
          have hsz : vs.toArray.size ≠ 1 := by
            have h2 := ha.length
            simp at h2
            simp [h2]
          refine ⟨_, .tuple vs.toArray, ⟨c.sim.box c.fresh _ _ _, c.agree.hset hn _, c.fresh.updL _⟩, e, fun b hb => upd_ne _ _ (by omega), Nat.le_succ _, ?_, by rw [dif_neg hsz]⟩
          refine .tup n _ _ _ (upd_same _ _ _) (by simp [ha.length]) fun i hi => ?_
          rw [getW_listW _ hsl]
          have hi' : i < vs.length := by simpa using hi
          simpa using (ha.get i hi').mono e
        · cases h
      · cases h
  · cases h

def CallsAt (P : Program) (f : FuncId) (args : Array Value) (w : World) (cs : List Frame) (R : Ending → World → Prop) : Prop :=
  ∃ e w' fr, R e w' ∧ Comes P (lone (Frame.enter P f args .normal) cs w) (lone fr cs w') e ∧ fr.fn = f ∧ fr.leaving P w' e

/-- A call of a function of the program. -/
theorem funE_sound (hcall : CallS P call) (cs : List Frame) {fid : Nat} {args : List Nat} {vs : Array Value} (c : Ctx base H n ρ L w) (ha : AR ρ L args vs.toList) (h : funE P call fuel fid args H n = .ok v H' n') :
    After base H n ρ L w v H' n' (fun x w' => (∃ fn, P.funcs[fid]? = some fn ∧ fn.body.isSome = true ∧ fn.name ≠ "runtime.NumGoroutine") ∧ CallsAt P fid vs w cs (fun e W => e = .returned x ∧ W = w')) := by
  unfold funE at h
  split at h
  · rename_i fn hfn
    split at h
    · rename_i body hbody
      rw [sel_beq] at h
      split at h
      · cases h
      · rename_i hname
        have hname' : fn.name ≠ "runtime.NumGoroutine" := by
          intro hh; apply hname; unfold funE.bne'; rw [if_pos hh]
        rw [sel_ble] at h
        split at h
        · rename_i hle
          rw [sel_eq] at h
          split at h
          · rw [sel_eq] at h
            split at h
            · rename_i hnb hsl
              have hlen : vs.size = args.length := by have := ha.length; simpa using this
              have ht : TR ρ L fn.ntmps (listW args) (vs ++ Array.replicate (fn.ntmps - vs.size) Go.undef) := by
                refine ⟨by simp; omega, fun t => ?_⟩
                rw [getW_listW _ hsl]
                by_cases htl : t < vs.size
                · have h1 := ha.get t (by simpa using htl)
                  have e : (vs ++ Array.replicate (fn.ntmps - vs.size) Go.undef).getD t Go.undef = vs.toList[t]'(by simpa using htl) := by
                    simp [Array.getD_eq_getD_getElem?, Array.getElem?_append, htl]
                  rw [e]; exact h1
                · have e1 : args.getD t 0 = 0 := by simp [List.getD_eq_getElem?_getD, List.getElem?_eq_none (show args.length ≤ t by omega)]
                  have e2 : (vs ++ Array.replicate (fn.ntmps - vs.size) Go.undef).getD t Go.undef = Go.undef := by
                    simp only [Array.getD_eq_getD_getElem?, Array.getElem?_append, if_neg htl, Array.getElem?_replicate]
                    split <;> rfl
                  rw [e1, e2]; exact .undef
              have hex := execE_sound (base := base) (nt := fn.ntmps) (m := n) (ro := 0) (fuel := fuel) (f := ⟨fid, .normal, none⟩) hcall body ⟨listW args, H, n, []⟩ _ [] ρ L w [] cs c ht .nil (.inl ⟨rfl, rfl⟩) (Nat.le_refl _)
              have henter : Frame.enter P fid vs .normal = mkF ⟨fid, .normal, none⟩ (vs ++ Array.replicate (fn.ntmps - vs.size) Go.undef) [] [.code body] := by
                simp [Frame.enter, hfn, hbody, mkF]
              -- the end, whichever way it came
              have fin : ∀ (s : St), (Mid base fn.ntmps n n ρ L w s fun w' tmps' ds' => ∃ td, Steps P (lone (Frame.enter P fid vs .normal) cs w) (lone (mkR ⟨fid, .normal, none⟩ tmps' ds' td) cs w')) →
                  resB P s.T fn.results.toList (goneE s.D s.H) s.n tupE = .ok v H' n' →
                  After base H n ρ L w v H' n' (fun x w' => (∃ fn, P.funcs[fid]? = some fn ∧ fn.body.isSome = true ∧ fn.name ≠ "runtime.NumGoroutine") ∧ CallsAt P fid vs w cs (fun e W => e = .returned x ∧ W = w')) := by
                rintro s ⟨ρ1, L1, w1, t1, d1, c1, ht1, hd1, e1, b1, lc1, hn1, hst⟩ heq
                · obtain ⟨L2, w2, c2, e2, b2, hm2, st2⟩ := unwind_all (P := P) s.D d1 s.H s.n L1 w1 hd1 c1 hd1.small
                  obtain ⟨rv, ws, H5, n5, L5, c5, e5, hm5, hn5, heq, har, hrun⟩ := resB_sound fn.results.toList _ _ _ _ _ _ c2 (ht1.mono0 e2) heq (by simp)
                  obtain ⟨L3, x, c3, e3', hm3', hn3', hv, hx⟩ := tupE_sound c5 har heq
                  have e3 : Ext ρ1 L2 ρ1 L3 := e5.trans e3'
                  have hm3 : ∀ b, b < s.n → L3 b = L2 b := fun b hb => (hm3' b (by omega)).trans (hm5 b hb)
                  have hn3 : s.n ≤ n' := Nat.le_trans hn5 hn3'
                  have eall : Ext ρ L ρ1 L3 := by
                    have e12 := (e1.toExt0.trans e2).trans e3.toExt0
                    refine ⟨e12, fun b hb => ?_⟩
                    have hbn := c.fresh.ltL hb
                    rw [hm3 b (by omega), hm2 b hbn]; exact e1.defr b hb
                  refine ⟨ρ1, L3, w2, x, c3, eall, b1.trans b2, ⟨fun b hb hbn => ⟨by rw [hm3 b (by omega), hm2 b hb]; exact (lc1.bare b hb hbn).1, (lc1.bare b hb hbn).2⟩⟩, by omega, hv, ⟨fn, hfn, by rw [hbody]; rfl, hname'⟩, ?_⟩
                  obtain ⟨td, h1⟩ := hst
                  refine ⟨.returned x, w2, mkR ⟨fid, .normal, none⟩ t1 [] td, ⟨rfl, rfl⟩, h1.trans (st2 _ _ _ _), rfl, rfl, rfl, rfl, fn, hfn, ?_⟩
                  show (results fn t1).run P w2 = .ok x w2
                  unfold results
                  rw [Array.mapM_eq_mapM_toList]
                  simp only [Sem.run_bind, Sem.run_map, Sem.run_pure]
                  refine Eq.trans (congrArg (fun q => Result.andThen (Result.andThen q _) _) hrun) ?_
                  rw [hx]; rfl
              split at h
              · rename_i s hr
                rw [hr] at hex
                refine fin s (Mid.mono hex ?_) h
                intro w' t d hs
                rw [← henter] at hs
                exact ⟨_, hs.trans (st_leave0 rfl)⟩
              · rename_i s hr
                rw [hr] at hex
                refine fin s (Mid.mono hex ?_) h
                intro w' t d ⟨k', h1⟩
                rw [← henter] at h1
                exact ⟨_, h1.trans (st_leaveRet rfl)⟩
              · cases h
              · cases h
            · cases h
          · cases h
        · cases h
    · cases h
  · cases h
end
end Go.Eng

/- Calls of every kind; the evaluator is sound. -/
namespace Go.Eng
set_option linter.unusedSectionVars false
set_option linter.unusedSimpArgs false
set_option linter.unusedVariables false
open Go Go.RowKit
variable [E : Env]

section
variable {P : Program} {base nt m n n1 n' ro fuel v : Nat} {H H' : Trie} {ρ ρ1 : Rho} {L L1 : Look} {w w1 w' : World} {f : FFix} {call : Nat → List Nat → Trie → Nat → OR} {tmps : Array Value} {ds : List Deferred} {k : List Item} {cs : List Frame}

theorem returns_of_calls {fid : Nat} {vs : Array Value} {x : Value} {c : Frame} (h : CallsAt P fid vs w (c :: cs) (fun e W => e = .returned x ∧ W = w')) : Returns P (Frame.enter P fid vs .normal) w x w' c cs := by
  obtain ⟨e, W, fr, ⟨he, hW⟩, hst, hfn, hleave⟩ := h
  subst he; subst hW
  exact Steps.trans hst (.one (step_leave_returned hleave))

theorem setPs_nil_nil (nt T : Nat) : setPs nt [] [] T = .some T := rfl
theorem setPs_sound : ∀ (ps args : List Nat) (vs : List Value) (T T1 : Nat) (tmps : Array Value), TR ρ L nt T tmps → AR ρ L args vs → setPs nt ps args T = .some T1 →
    ps.length = vs.length ∧ TR ρ L nt T1 ((ps.zip vs).foldl (fun t p => t.setIfInBounds p.1 p.2) tmps)
  | [], args, vs, T, T1, tmps, ht, ha, h => by
    cases ha with
    | nil => have e : setPs nt [] [] T = .some T := rfl
             rw [e] at h; injection h with h; subst h; exact ⟨rfl, ht⟩
    | cons x v xs vs' _ _ => have e : setPs nt [] (x :: xs) T = .none := rfl
                             rw [e] at h; cases h
  | p :: ps, args, vs, T, T1, tmps, ht, ha, h => by
    cases ha with
    | nil => have e : setPs nt (p :: ps) [] T = .none := rfl
             rw [e] at h; cases h
    | cons x v xs vs' hx ha' =>
      have e : setPs nt (p :: ps) (x :: xs) T = sel (ltb p nt) (sel (ltb x 340282366920938463463374607431768211456) (setPs nt ps xs (setW T p x)) .none) .none := rfl
      rw [e, sel_ltb] at h
      split at h
      · rename_i hp
        rw [sel_ltb] at h
        split at h
        · rename_i hxl
          obtain ⟨h1, h2⟩ := setPs_sound ps xs vs' _ T1 _ (ht.set hp hxl hx) ha' h
          exact ⟨by simp [h1], h2⟩
        · cases h
      · cases h

theorem zip_fold (params : Array Tmp) (args : Array Value) (tmps : Array Value) :
    (params.zip args).foldl (fun tmps (x : Tmp × Value) => tmps.setIfInBounds x.1 x.2) tmps = (params.toList.zip args.toList).foldl (fun t p => t.setIfInBounds p.1 p.2) tmps := by
  rw [← Array.foldl_toList, Array.toList_zip]

theorem run_beginRound {why : String} {l : Nat} {lp : Loop} (h : w.heap[l]? = some (.loop lp)) (hs : lp.state = .ready) :
    (do (some l).elim (stuck why) Instr.beginRound; pure Next.skip : Sem Next).run P w = .ok .skip { w with heap := w.heap.setIfInBounds l (.loop { lp with state := .busy }) } := by
  simp [Instr.beginRound, run_getLoop h, run_setObj_loop h, hs]

theorem st_beginRound {l : Nat} {lp : Loop} (hf : f.ro = some l) (h : w.heap[l]? = some (.loop lp)) (hs : lp.state = .ready) :
    Steps P (lone (mkF f tmps ds (.beginRound :: k)) cs w) (lone (mkF f tmps ds k) cs { w with heap := w.heap.setIfInBounds l (.loop { lp with state := .busy }) }) := by
  refine .one (step_lone_go ?_)
  simp only [stepG, stepG.exec, mkF, hf, stepG.apply, Sem.runT_eq, run_beginRound h hs, if_true, GStep.bare_after]
  rfl

theorem run_endRound {l : Nat} {lp : Loop} (h : w.heap[l]? = some (.loop lp)) (jump : Option Code) :
    (Instr.endRound l jump).run P w = .ok (.bool jump.isNone) { w with heap := w.heap.setIfInBounds l (.loop { lp with state := if jump.isNone then .ready else .done, pending := jump }) } := by
  simp [Instr.endRound, run_getLoop h, run_setObj_loop h]

theorem st_endRound0 {l : Nat} {lp : Loop} {c : Frame} (hf : f.ro = some l) (hk : f.kind = .normal) (h : w.heap[l]? = some (.loop lp)) :
    Steps P (lone (mkF f tmps [] []) (c :: cs) w) (lone (c.finish (.bool true)) cs { w with heap := w.heap.setIfInBounds l (.loop { lp with state := .ready, pending := none }) }) := by
  refine .one (step_lone_go ?_)
  simp only [stepG, stepG.exec, mkF, hf, hk, Sem.runT_eq, run_endRound h none, GStep.bare_after, doReturn]
  rfl
theorem st_endRoundRet {l : Nat} {lp : Loop} {c : Frame} (hf : f.ro = some l) (hk : f.kind = .normal) (h : w.heap[l]? = some (.loop lp)) :
    Steps P (lone (mkF f tmps [] (.code .ret :: k)) (c :: cs) w) (lone (c.finish (.bool false)) cs { w with heap := w.heap.setIfInBounds l (.loop { lp with state := .done, pending := some .ret }) }) := by
  refine .one (step_lone_go ?_)
  simp only [stepG, stepG.exec, mkF, hf, hk, Sem.runT_eq, run_endRound h (some .ret), GStep.bare_after, doReturn]
  rfl
theorem st_endRoundExit {l i : Nat} {lp : Loop} {c : Frame} (hf : f.ro = some l) (hk : f.kind = .normal) (h : w.heap[l]? = some (.loop lp)) (he : exitTo i k = none) :
    Steps P (lone (mkF f tmps [] (.code (.exit i) :: k)) (c :: cs) w) (lone (c.finish (.bool false)) cs { w with heap := w.heap.setIfInBounds l (.loop { lp with state := .done, pending := some (.exit i) }) }) := by
  refine .one (step_lone_go ?_)
  simp only [stepG, stepG.exec, mkF, hf, hk, he, Option.elim, Sem.runT_eq, run_endRound h (some (.exit i)), GStep.bare_after, doReturn]
  rfl

theorem yieldE_sound (hcall : CallS P call) (cc : Frame) (cs : List Frame) {l : Nat} {r : Nat × Nat × Nat} {args : List Nat} {vs : Array Value} (c : Ctx base H n ρ L w) (hl : ρ l = some r) (ha : AR ρ L args vs.toList) (h : yieldE P call fuel l args H n = .ok v H' n') :
    After base H n ρ L w v H' n' (fun x w' => Does P (Instr.yield r.1 vs) w x w' cc cs) := by
  unfold yieldE at h
  split at h
  · rename_i T nt ps assign body st0 pd0 df0 hget
    rw [sel_eq] at h
    split at h
    · have hL := c.agree.2 _ _ hget
      obtain ⟨k0, hk0, hbr⟩ := c.sim.blk l r hl
      rw [hL] at hk0; injection hk0 with hk0; subst hk0
      obtain ⟨lp, p1, p2, p3, p4, p5, p6, p7, q, p8, p9, p10⟩ := hbr ((loopNoRow _ _ _ _ _ _ _ _).live hL)
      split at h
      · rename_i T1 hps
        obtain ⟨hlen, ht1⟩ := setPs_sound (nt := nt) ps args vs.toList T T1 lp.tmps p7 ha hps
        split at h
        · rename_i s hr1
          have hex1 := execE_sound (base := base) (nt := nt) (m := n) (ro := l + 1) (fuel := fuel) (f := ⟨lp.fn, .normal, some r.1⟩) hcall assign ⟨T1, H, n, []⟩ _ [] ρ L w [.beginRound, .code body] (cc :: cs) c ht1 .nil (.inr ⟨l, r, rfl, hl, rfl⟩) (Nat.le_refl _)
          have hr1' : execE P call nt (l + 1) fuel assign ⟨T1, H, n, []⟩ = .norm s := hr1
          rw [hr1'] at hex1
          obtain ⟨ρ1, L1, w1, t1, d1, c1, htt1, hd1, e1, b1, lc1, hn1, hst1⟩ := hex1
          split at h
          · rename_i T2 nt2 ps2 a2 bb2 st2 pd2 df2 hget2
            rw [sel_beq] at h
            split at h
            · rename_i hst0
              subst hst0
              have hl1 := e1.place _ _ hl
              have hL1 := c1.agree.2 _ _ hget2
              have hlt1 := c1.agree.lt hget2
              obtain ⟨k1, hk1, hbr1⟩ := c1.sim.blk l r hl1
              rw [hL1] at hk1; injection hk1 with hk1; subst hk1
              obtain ⟨lp1, q1, q2, q3, q4, q5, q6, q7, qq, q8, q9, q10⟩ := hbr1 ((loopNoRow _ _ _ _ _ _ _ _).live hL1)
              have hbase : base ≤ r.1 := c1.sim.rw l r hl1 (by rw [(loopNoRow _ _ _ _ _ _ _ _).grp hL1]; omega)
              obtain ⟨s2, e2⟩ := c1.sim.setLoop (w' := { w1 with heap := w1.heap.setIfInBounds r.1 (.loop { lp1 with state := .busy }) }) (st' := 1) (pd' := pd2) hl1 hL1 q1 (lp' := { lp1 with state := .busy }) (by rw [← q3]; rfl) rfl
              have c2 : Ctx base (hset s.H l (.loop T2 nt2 ps2 a2 bb2 1 pd2 df2)) s.n ρ1 (upd L1 l (.loop T2 nt2 ps2 a2 bb2 1 pd2 df2)) { w1 with heap := w1.heap.setIfInBounds r.1 (.loop { lp1 with state := .busy }) } :=
                ⟨s2, c1.agree.hset hlt1 _, fun j hj => ⟨by rw [upd_ne _ _ (by have := c1.fresh.ltL hL1; omega)]; exact (c1.fresh j hj).1, (c1.fresh j hj).2⟩⟩
              have hex2 := execE_sound (base := base) (nt := nt) (m := n) (ro := l + 1) (fuel := fuel) (f := ⟨lp.fn, .normal, some r.1⟩) hcall body ⟨s.T, hset s.H l (.loop T2 nt2 ps2 a2 bb2 1 pd2 df2), s.n, s.D⟩ t1 d1 ρ1 _ _ [] (cc :: cs) c2 (htt1.mono e2) (hd1.mono e2)
                (.inr ⟨l, r, rfl, hl1, rfl⟩) hn1
              have hround : Steps P (lone (Frame.round r.1 lp.fn ((ps.zip vs.toList).foldl (fun t p => t.setIfInBounds p.1 p.2) lp.tmps) assign body .normal) (cc :: cs) w)
                  (lone (mkF ⟨lp.fn, .normal, some r.1⟩ t1 d1 [.code body]) (cc :: cs) { w1 with heap := w1.heap.setIfInBounds r.1 (.loop { lp1 with state := .busy }) }) := by
                have e0 : Frame.round r.1 lp.fn ((ps.zip vs.toList).foldl (fun t p => t.setIfInBounds p.1 p.2) lp.tmps) assign body .normal =
                    mkF ⟨lp.fn, .normal, some r.1⟩ ((ps.zip vs.toList).foldl (fun t p => t.setIfInBounds p.1 p.2) lp.tmps) [] [.code assign, .beginRound, .code body] := rfl
                rw [e0]
                exact hst1.trans (st_beginRound rfl q1 q2)
              have hyield : (Instr.yield r.1 vs).run P w = .ok (.round r.1 lp.fn ((ps.zip vs.toList).foldl (fun t p => t.setIfInBounds p.1 p.2) lp.tmps) assign body) w := by
                have hsz : ¬ (vs.size ≠ lp.params.size) := by
                  have : lp.params.size = ps.length := by rw [← p4]; simp
                  rw [this, hlen]; simp
                have hz := zip_fold lp.params vs lp.tmps
                rw [p4] at hz
                simp only [Instr.yield, Sem.run_bind, run_getLoop p1, Result.andThen_ok]
                rw [Sem.run_ite, if_neg hsz]
                simp only [Sem.run_pure, p5, p6]
                rw [← hz]
              have l12 : Loc H n ρ L ρ1 (upd L1 l (.loop T2 nt2 ps2 a2 bb2 1 pd2 df2)) := ⟨fun b hb hbn => by
                obtain ⟨x1, x2⟩ := lc1.bare b hb hbn
                refine ⟨?_, x2⟩
                rw [upd_ne _ _ (fun hh => by subst hh; rw [hl1] at x2; cases x2)]; exact x1⟩
              -- the end, whichever way
              have fin : ∀ (s' : St) (st' pend' : Nat) (b : Bool), (b = true ∧ st' = 0 ∧ pend' = 0 ∨ b = false ∧ st' = 2 ∧ pend' ≠ 0) →
                  Mid base nt n s.n ρ1 (upd L1 l (.loop T2 nt2 ps2 a2 bb2 1 pd2 df2)) { w1 with heap := w1.heap.setIfInBounds r.1 (.loop { lp1 with state := .busy }) } s' (fun w' t d => d = [] →
                    ∀ lp3, w'.heap[r.1]? = some (.loop lp3) → Steps P (lone (mkF ⟨lp.fn, .normal, some r.1⟩ t1 d1 [.code body]) (cc :: cs) { w1 with heap := w1.heap.setIfInBounds r.1 (.loop { lp1 with state := .busy }) })
                      (lone (cc.finish (.bool b)) cs { w' with heap := w'.heap.setIfInBounds r.1 (.loop { lp3 with state := stOf st', pending := pendOf pend' }) })) →
                  yieldE.finE l s' st' pend' (wB b) = .ok v H' n' → After base H n ρ L w v H' n' (fun x w' => Does P (Instr.yield r.1 vs) w x w' cc cs) := by
                rintro s' st' pend' b _ ⟨ρ3, L3, w3, t3, d3, c3, ht3, hd3, e3, b3, lc3, hn3, hst3⟩ hfin
                unfold yieldE.finE at hfin
                split at hfin
                · rename_i hD
                  rw [hD] at hd3
                  cases hd3
                  split at hfin
                  · rename_i T4 nt4 ps4 a4 bb4 st4 pd4 df4 hget4
                    injection hfin with f1 f2 f3
                    subst f1; subst f2; subst f3
                    have hl3 := e3.place _ _ hl1
                    have hL3 := c3.agree.2 _ _ hget4
                    have hlt3 := c3.agree.lt hget4
                    obtain ⟨k3, hk3, hbr3⟩ := c3.sim.blk l r hl3
                    rw [hL3] at hk3; injection hk3 with hk3; subst hk3
                    obtain ⟨lp3, u1, _⟩ := hbr3 ((loopNoRow _ _ _ _ _ _ _ _).live hL3)
                    obtain ⟨s4, e4⟩ := c3.sim.setLoop (w' := { w3 with heap := w3.heap.setIfInBounds r.1 (.loop { lp3 with state := stOf st', pending := pendOf pend' }) }) (st' := st') (pd' := pend') hl3 hL3 u1 rfl rfl
                    refine ⟨ρ3, _, _, .bool b, ⟨s4, c3.agree.hset hlt3 _, fun j hj => ⟨by rw [upd_ne _ _ (by have := c3.fresh.ltL hL3; omega)]; exact (c3.fresh j hj).1, (c3.fresh j hj).2⟩⟩, ((e1.trans e2).trans e3).trans e4,
                      ((b1.trans (below_set hbase)).trans b3).trans (below_set hbase), ?_, Nat.le_trans hn1 hn3, .bool b, ?_⟩
                    · have l3 := l12.trans hn1 lc3
                      refine ⟨fun x hx hxn => ?_⟩
                      obtain ⟨y1, y2⟩ := l3.bare x hx hxn
                      exact ⟨by rw [upd_ne _ _ (fun hh => by subst hh; rw [hl3] at y2; cases y2)]; exact y1, y2⟩
                    · exact .round _ _ _ _ _ _ hyield (hround.trans (hst3 rfl lp3 u1))
                  · cases hfin
                · cases hfin
              split at h
              · rename_i s' hr2
                have hr2' : execE P call nt (l + 1) fuel body ⟨s.T, hset s.H l (.loop T2 nt2 ps2 a2 bb2 1 pd2 df2), s.n, s.D⟩ = .norm s' := hr2
                rw [hr2'] at hex2
                refine fin s' 0 0 true (.inl ⟨rfl, rfl, rfl⟩) (Mid.mono hex2 ?_) h
                intro w' t d hs hd0 lp3 hlp3
                subst hd0
                exact hs.trans (st_endRound0 rfl rfl hlp3)
              · rename_i i s' hr2
                have hr2' : execE P call nt (l + 1) fuel body ⟨s.T, hset s.H l (.loop T2 nt2 ps2 a2 bb2 1 pd2 df2), s.n, s.D⟩ = .exit i s' := hr2
                rw [hr2'] at hex2
                refine fin s' 2 (i + 2) false (.inr ⟨rfl, rfl, by omega⟩) (Mid.mono hex2 ?_) h
                intro w' t d hs hd0 lp3 hlp3
                subst hd0
                obtain ⟨k', h1, h2⟩ := hs
                exact h2.trans (st_endRoundExit rfl rfl hlp3 h1)
              · rename_i s' hr2
                have hr2' : execE P call nt (l + 1) fuel body ⟨s.T, hset s.H l (.loop T2 nt2 ps2 a2 bb2 1 pd2 df2), s.n, s.D⟩ = .ret s' := hr2
                rw [hr2'] at hex2
                refine fin s' 2 1 false (.inr ⟨rfl, rfl, by omega⟩) (Mid.mono hex2 ?_) h
                intro w' t d hs hd0 lp3 hlp3
                subst hd0
                obtain ⟨k', h2⟩ := hs
                exact h2.trans (st_endRoundRet rfl rfl hlp3)
              · cases h
            · cases h
          · cases h
        · cases h
        · cases h
      · cases h
    · cases h
  · cases h

theorem unlist_sound : ∀ (m c : Nat) (caps : List Value), caps.length = m → (∀ i (h : i < caps.length), VR ρ L (getW c i) caps[i]) → AR ρ L (unlist m c) caps
  | 0, c, caps, hl, _ => by
    have : caps = [] := List.eq_nil_of_length_eq_zero hl
    subst this; exact .nil
  | m + 1, c, caps, hl, h => by
    cases caps with
    | nil => simp at hl
    | cons x xs =>
      have e : unlist (m + 1) c = getW c 0 :: unlist m (Nat.shiftRight c 128) := rfl
      rw [e]
      refine .cons _ _ _ _ (h 0 (by simp)) (unlist_sound m _ xs (by simpa using hl) fun i hi => ?_)
      have := h (i + 1) (by simpa using hi)
      have e2 : getW (Nat.shiftRight c 128) i = getW c (i + 1) := by
        rw [getW_eq, getW_eq, show Nat.shiftRight c 128 = c >>> 128 from rfl, ← Nat.shiftRight_add, show 128 + 128 * i = 128 * (i + 1) from by omega]
      rw [e2]; simpa using this

theorem AR.append {xs ys : List Nat} {vs us : List Value} (h : AR ρ L xs vs) (h2 : AR ρ L ys us) : AR ρ L (xs ++ ys) (vs ++ us) := by
  induction h with
  | nil => exact h2
  | cons x v xs vs hx _ ih => exact .cons _ _ _ _ hx ih

theorem run_callFunc {fid : Nat} {fn : Func} {args : Array Value} (h : P.funcs[fid]? = some fn) (hb : fn.body.isSome = true) (hn : fn.name ≠ "runtime.NumGoroutine") : (callFunc fid args).run P w = .ok (.enter fid args) w := by
  have : ¬ fn.body = none := by intro h; rw [h] at hb; cases hb
  simp [callFunc, h, hn, this]

/-- What is known beforehand is so. -/
def SumS (P : Program) (S : Sums) : Prop :=
  ∀ (base : Nat) (H : Trie) (n : Nat) (ρ : Rho) (L : Look) (w : World) (f : Nat) (args : List Nat) (vs : Array Value) (v : Nat) (H' : Trie) (n' : Nat) (cs : List Frame),
    Ctx base H n ρ L w → AR ρ L args vs.toList → S f args H n = .yes (.ok v H' n') →
    After base H n ρ L w v H' n' (fun x w' => (∃ fn, P.funcs[f]? = some fn ∧ fn.body.isSome = true ∧ fn.name ≠ "runtime.NumGoroutine") ∧ CallsAt P f vs w cs (fun e W => e = .returned x ∧ W = w'))

/-- ██ Calls, d deep: the evaluator is sound. -/
theorem callN_sound (P : Program) {S : Sums} (hS : SumS P S) (fuel : Nat) : ∀ d, CallS P (callN P S fuel d)
  | 0 => fun _ _ _ _ _ _ _ _ _ _ _ _ _ _ _ _ _ _ h => by cases h
  | d + 1 => by
    intro base H n ρ L w fw args fv vs v H' n' cfr ccs c hf ha h
    have e : callN P S fuel (d + 1) fw args H n = sel (Nat.beq (tagOf fw) 8) (force (payOf fw) fun f => match S f args H n with | .yes r => r | .no => funE P (callN P S fuel d) fuel f args H n)
        (sel (Nat.beq (tagOf fw) 13) (yieldE P (callN P S fuel d) fuel (payOf fw) args H n)
          (sel (Nat.beq (tagOf fw) 10)
            (match tget H (payOf fw) with
             | some (.box 2 m c) => force (getW c 0) fun f => match S f (args ++ unlist m (Nat.shiftRight c 128)) H n with | .yes r => r | .no => funE P (callN P S fuel d) fuel f (args ++ unlist m (Nat.shiftRight c 128)) H n
             | _ => (.bad 0)) (.bad 0))) := rfl
    rw [e, sel_beq, sel_beq, sel_beq] at h
    simp only [force_eq] at h
    split at h
    · rename_i h8
      have := hf.fn_inv h8
      subst this
      have main : After base H n ρ L w v H' n' (fun x w' => (∃ fn, P.funcs[payOf fw]? = some fn ∧ fn.body.isSome = true ∧ fn.name ≠ "runtime.NumGoroutine") ∧ CallsAt P (payOf fw) vs w (cfr :: ccs) (fun e W => e = .returned x ∧ W = w')) := by
        split at h
        · rename_i r hr
          subst h
          exact hS _ _ _ _ _ _ _ _ _ _ _ _ _ c ha hr
        · exact funE_sound (callN_sound P hS fuel d) (cfr :: ccs) c ha h
      refine main.mono ?_
      rintro x w' ⟨⟨fn, hfn, hb, hn⟩, hc⟩
      refine .enter (payOf fw) vs w ?_ (returns_of_calls hc)
      simp [Deferred.ofValue, invoke, run_callFunc hfn hb hn]
    · split at h
      · rename_i h13
        obtain ⟨rb, dd, sz, hρ, rfl⟩ := hf.yld_inv h13
        refine (yieldE_sound (callN_sound P hS fuel d) cfr ccs c hρ ha h).mono ?_
        intro x w' hd
        have e2 : (do let d ← Deferred.ofValue (.func (.yield rb) #[] #[]) vs; invoke d.target d.args : Sem Next) = Instr.yield rb vs := by
          simp [Deferred.ofValue, invoke]
        rw [e2]; exact hd
      · split at h
        · rename_i h10
          split at h
          · rename_i m' c' hget
            obtain ⟨m, cc, caps, hL, hsz, hcaps, rfl⟩ := hf.clo_inv h10 ⟨_, _, c.agree.2 _ _ hget⟩
            have := c.agree.2 _ _ hget
            rw [hL] at this
            injection this with this; injection this with _ e1 e2
            subst e1; subst e2
            have hcap : AR ρ L (unlist m (Nat.shiftRight cc 128)) caps.toList := unlist_sound m _ _ (by simpa using hsz) fun i hi => by
              have := hcaps i (by simpa using hi)
              have e2 : getW (Nat.shiftRight cc 128) i = getW cc (i + 1) := by
                rw [getW_eq, getW_eq, show Nat.shiftRight cc 128 = cc >>> 128 from rfl, ← Nat.shiftRight_add, show 128 + 128 * i = 128 * (i + 1) from by omega]
              rw [e2]; simpa using this
            have hall : AR ρ L (args ++ unlist m (Nat.shiftRight cc 128)) (vs ++ caps).toList := by rw [Array.toList_append]; exact ha.append hcap
            have main : After base H n ρ L w v H' n' (fun x w' => (∃ fn, P.funcs[getW cc 0]? = some fn ∧ fn.body.isSome = true ∧ fn.name ≠ "runtime.NumGoroutine") ∧ CallsAt P (getW cc 0) (vs ++ caps) w (cfr :: ccs) (fun e W => e = .returned x ∧ W = w')) := by
              split at h
              · rename_i r hr
                subst h
                exact hS _ _ _ _ _ _ _ _ _ _ _ _ _ c hall hr
              · exact funE_sound (callN_sound P hS fuel d) (cfr :: ccs) c hall h
            refine main.mono ?_
            rintro x w' ⟨⟨fn, hfn, hb, hn⟩, hc⟩
            refine .enter (getW cc 0) (vs ++ caps) w ?_ (returns_of_calls hc)
            simp [Deferred.ofValue, invoke, run_callFunc hfn hb hn]
          · cases h
        · cases h
end
end Go.Eng

/- From the evaluator to a function's calls. -/
namespace Go.Eng
set_option linter.unusedSectionVars false
set_option linter.unusedSimpArgs false
set_option linter.unusedVariables false
open Go Go.RowKit
variable [E : Env]

noncomputable def isTrue (r : OR) : Bool := match r with | .ok v _ _ => Nat.beq v 18 | .bad _ => false

theorem Ctx.start (w : World) (hk : ∀ k o, E.kept k = some o → w.heap[k]? = some o := by intro _ _ h; first | cases h | exact absurd (show (none : Option Obj) = some _ from h) (by simp)) : Ctx w.heap.size .nil 0 (fun _ => none) (fun _ => none) w := by
  refine ⟨⟨?_, ?_, ?_, ?_, ?_, ?_, ?_, Nat.le_refl _, ?_, ?_, fun _ _ _ _ _ _ _ h => (by cases h), fun _ _ h => (by cases h), hk⟩, ⟨?_, ?_⟩, fun b _ => ⟨rfl, rfl⟩⟩
  · intro b r h; cases h
  · intro b b' r r' h; cases h
  · intro b b' r r' h; cases h
  · intro b r n c g k s m h; cases h
  · intro b r h; cases h
  · intro b r h; cases h
  · intro b r h; cases h
  · intro b r h; cases h
  · intro b n c g k s m h; cases h
  · exact trivial
  · intro b k h
    cases h

theorem VR.small {ρ : Rho} {L : Look} (p : Nat) (h : p < 9223372036854775808) : VR ρ L (wI p) (.int .i64 (p : Int)) := by
  have e : sInt p = (p : Int) := by unfold sInt; rw [if_pos h]
  rw [← e]; exact .int p (by omega)

/-- Nothing is known beforehand. -/
def noSums : Sums := fun _ _ _ _ => .no
theorem noSums_ok (P : Program) : SumS P noSums := fun _ _ _ _ _ _ _ _ _ _ _ _ _ _ _ h => by cases h

theorem run_true {P : Program} {fuel d f base n : Nat} {args : List Nat} {vs : Array Value} {H : Trie} {ρ : Rho} {L : Look} {w : World}
    {S : Sums} (hS : SumS P S) (c : Ctx base H n ρ L w) (ha : AR ρ L args vs.toList) (h : isTrue (funE P (callN P S fuel d) fuel f args H n) = true) :
    Calls P f vs w fun e w' => e = .returned (.bool true) ∧ Below base w w' := by
  intro cs
  cases hr : funE P (callN P S fuel d) fuel f args H n with
  | bad => rw [hr] at h; cases h
  | ok v H' n' =>
    rw [hr] at h
    have hv : v = 18 := Nat.eq_of_beq_eq_true h
    subst hv
    obtain ⟨ρ', L', w', x, _, _, hb, _, _, hx, _, hc⟩ := funE_sound (callN_sound P hS fuel d) cs c ha hr
    obtain ⟨b, hb1, hb2⟩ := hx.bool_inv (by rfl)
    have hbt : b = true := by
      cases b with
      | true => rfl
      | false => cases hb1
    subst hbt
    subst hb2
    obtain ⟨e, W, fr, ⟨h1, h2⟩, h3⟩ := hc
    subst h2
    exact ⟨e, W, fr, ⟨h1, hb⟩, h3⟩
end Go.Eng

/- Arguments: rows that were there. -/
namespace Go.Eng
set_option linter.unusedSectionVars false
set_option linter.unusedSimpArgs false
set_option linter.unusedVariables false
open Go Go.RowKit
variable [E : Env]

theorem Ctx.argB {base n rb d sz : Nat} {k : Blk} {H : Trie} {ρ : Rho} {L : Look} {w : World} (c : Ctx base H n ρ L w) (hn : n < 16384) {cs : Array Value} {ty : TypeId} {fz : Nat × Nat}
    (hh : w.heap[rb]? = some (.cells cs ty fz)) (hrb : rb < base ∨ ∃ o, E.kept rb = some o) (hk0 : grp (upd L n k) n = 0) (hkc : ∀ a b g x y z, k = .cells a b g x y z → g = 0)
    (hbr : BR ρ L w (rb, d, sz) k) :
    Ctx base (hset H n k) (n + 1) (updR ρ n (rb, d, sz)) (upd L n k) w := by
  have hf := c.fresh
  have hs := c.sim
  have e : Ext ρ L (updR ρ n (rb, d, sz)) (upd L n k) := .fresh hf _ _
  have old : ∀ b r, updR ρ n (rb, d, sz) b = some r → b ≠ n → ρ b = some r := fun b r h hne => by rw [updR_ne _ _ hne] at h; exact h
  have gold : ∀ b, b ≠ n → grp (upd L n k) b = grp L b := fun b hb => grp_upd_ne hb
  have gn : grp (upd L n k) n = 0 := hk0
  have ldne : ∀ b r, ρ b = some r → grp L b = 0 ∨ grp L b - 1 ≠ n := fun b r h => by
    by_cases h0 : grp L b = 0
    · exact .inl h0
    · obtain ⟨⟨q, hq⟩, _⟩ := hs.ld b r h h0
      have := hf.lt hq
      exact .inr (by omega)
  have lold : ∀ b r, ρ b = some r → b ≠ n → (live (upd L n k) b ↔ live L b) := fun b r h hne => live_upd_ne hne (ldne b r h)
  have gne : ∀ b, grp (upd L n k) b ≠ 0 → b ≠ n := fun b h hb => h (by rw [hb]; exact gn)
  refine ⟨⟨?_, ?_, ?_, ?_, ?_, ?_, ?_, hs.bs, ?_, ?_, ?_, ?_, hs.kp⟩, c.agree.hset hn _, hf.upd _ _⟩
  · intro b r h
    by_cases hne : b = n
    · subst hne
      rw [updR_same] at h; injection h with h; subst h
      exact ⟨_, upd_same _ _ _, fun _ => hbr.mono e rfl⟩
    · have h' := old b r h hne
      obtain ⟨kk, k1, k2⟩ := hs.blk b r h'
      exact ⟨kk, by rw [upd_ne _ _ hne]; exact k1, fun hl => (k2 ((lold b r h' hne).1 hl)).mono e rfl⟩
  · intro b b' r r' h h' hl hl' hg hg' hgg
    have hne := gne b hg
    have hne' := gne b' hg'
    rw [gold b hne] at hg hgg
    rw [gold b' hne'] at hg' hgg
    exact hs.sep b b' r r' (old b r h hne) (old b' r' h' hne') ((lold b r (old b r h hne) hne).1 hl) ((lold b' r' (old b' r' h' hne') hne').1 hl') hg hg' hgg
  · intro b b' r r' h h' hl hl' hg hgg hrr
    have hne := gne b hg
    have hne' := gne b' (by rw [← hgg]; exact hg)
    rw [gold b hne] at hg hgg
    rw [gold b' hne'] at hgg
    exact hs.same b b' r r' (old b r h hne) (old b' r' h' hne') ((lold b r (old b r h hne) hne).1 hl) ((lold b' r' (old b' r' h' hne') hne').1 hl') hg hgg hrr
  · intro b r m' c' g kk s mm h hl hL hg
    have hne : b ≠ n := by
      rintro rfl
      rw [upd_same] at hL; injection hL with hL; exact hg (hkc _ _ _ _ _ _ hL)
    rw [upd_ne _ _ hne] at hL
    have hg0 : grp L b = g := grp_of hL
    have h' := old b r h hne
    have hi : info (upd L n k) (g - 1) = info L (g - 1) := info_upd_ne (by have := (ldne b r h').resolve_left (by rw [hg0]; exact hg); rw [hg0] at this; exact this)
    rw [hi]
    exact hs.mx b r m' c' g kk s mm h' ((lold b r h' hne).1 hl) hL hg
  · intro b r h hg
    have hne := gne b hg
    rw [gold b hne] at hg; exact hs.rw b r (old b r h hne) hg
  · intro b r h hg
    by_cases hne : b = n
    · subst hne
      rw [updR_same] at h; injection h with h; subst h; exact hrb
    · rw [gold b hne] at hg; exact hs.ro b r (old b r h hne) hg
  · intro b r h
    by_cases hne : b = n
    · subst hne
      rw [updR_same] at h; injection h with h; subst h
      exact (Array.getElem?_eq_some_iff.1 hh).1
    · exact hs.bnd b r (old b r h hne)
  · intro b r h hg
    have hne := gne b hg
    rw [gold b hne] at hg ⊢
    obtain ⟨⟨q, hq⟩, h2⟩ := hs.ld b r (old b r h hne) hg
    have hqn : grp L b - 1 ≠ n := by have := hf.lt hq; omega
    exact ⟨⟨q, by rw [updR_ne _ _ hqn]; exact hq⟩, by rw [gold _ hqn]; exact h2⟩
  · intro b m' c' g kk s mm hL hg
    by_cases hne : b = n
    · subst hne; rw [upd_same] at hL; injection hL with hL; exact absurd (hkc _ _ _ _ _ _ hL) hg
    · rw [upd_ne _ _ hne] at hL
      obtain ⟨a1, a2, a3, a4, a5, a6⟩ := hs.kind b m' c' g kk s mm hL hg
      exact ⟨a1, a2, a3, a4, a5, by rw [upd_ne _ _ (by have := hf.ltL a6; omega)]; exact a6⟩
  · intro b p q s d' lo hi hLb h64
    by_cases hne : b = n
    · subst hne; rw [upd_same] at hLb; injection hLb with hLb; subst hLb; exact (hbr : False).elim
    · rw [upd_ne _ _ hne] at hLb; exact hs.pol b p q s d' lo hi hLb h64
  · intro b r h hg
    have hne := gne b hg
    rw [gold b hne] at hg; exact hs.rk b r (old b r h hne) hg

theorem Ctx.arg {base n rb d sz nb ch : Nat} {H : Trie} {ρ : Rho} {L : Look} {w : World} (c : Ctx base H n ρ L w) (hn : n < 16384) {cs : Array Value} {ty : TypeId} {fz : Nat × Nat}
    (hh : w.heap[rb]? = some (.cells cs ty fz)) (hrb : rb < base) (h1 : d + sz ≤ cs.size) (h2 : nb ≤ sz)
    (h3 : ∀ i, i < nb → ∃ v, cs[d + i]? = some v ∧ VR ρ L (getW ch i) v ∧ storable (getW ch i) = true) :
    Ctx base (hset H n (.cells nb ch 0 0 0 0)) (n + 1) (updR ρ n (rb, d, sz)) (upd L n (.cells nb ch 0 0 0 0)) w :=
  c.argB hn hh (.inl hrb) (grp_of (upd_same _ _ _)) (fun _ _ _ _ _ _ h => by injection h with _ _ h; exact h.symm) ⟨cs, ty, fz, hh, h1, h2, fun h0 => absurd rfl h0, h3⟩

theorem Ctx.argK {base n rb d sz nb ch : Nat} {H : Trie} {ρ : Rho} {L : Look} {w : World} (c : Ctx base H n ρ L w) (hn : n < 16384) {cs : Array Value} {ty : TypeId} {fz : Nat × Nat}
    (hh : w.heap[rb]? = some (.cells cs ty fz)) (hrb : rb < base ∨ ∃ o, E.kept rb = some o) (h1 : d + sz ≤ cs.size) (h2 : nb ≤ sz)
    (h3 : ∀ i, i < nb → ∃ v, cs[d + i]? = some v ∧ VR ρ L (getW ch i) v ∧ storable (getW ch i) = true) :
    Ctx base (hset H n (.cells nb ch 0 0 0 0)) (n + 1) (updR ρ n (rb, d, sz)) (upd L n (.cells nb ch 0 0 0 0)) w :=
  c.argB hn hh hrb (grp_of (upd_same _ _ _)) (fun _ _ _ _ _ _ h => by injection h with _ _ h; exact h.symm) ⟨cs, ty, fz, hh, h1, h2, fun h0 => absurd rfl h0, h3⟩

/-- A slice that came in whose elements are not known. -/
theorem Ctx.opq {base n rb d sz j : Nat} {H : Trie} {ρ : Rho} {L : Look} {w : World} (c : Ctx base H n ρ L w) (hn : n < 16384) {cs : Array Value} {ty : TypeId} {fz : Nat × Nat}
    (hh : w.heap[rb]? = some (.cells cs ty fz)) (hrb : rb < base) (h1 : d + sz ≤ cs.size) (h2 : (E.lst j).length ≤ sz) (h3 : ∀ i, i < (E.lst j).length → cs[d + i]? = (E.lst j)[i]?) :
    Ctx base (hset H n (.opq j 1)) (n + 1) (updR ρ n (rb, d, sz)) (upd L n (.opq j 1)) w :=
  c.argB hn hh (.inl hrb) (by simp [grp, upd_same]) (fun _ _ _ _ _ _ h => by cases h) ⟨cs, ty, fz, hh, h1, h2, fun h0 => absurd h0 (by decide), h3⟩

/-- A row of ints as the shells of the laws tell it. -/
def RowAt (w : World) (x : Addr) (cap : Nat) (zs : List Int) : Prop := zs.length = cap ∧ ∀ i, i < zs.length → w.cell? (x.add i) = some (.int .i64 (zs.getD i 0))

theorem RowAt.block {w : World} {x : Addr} {cap : Nat} {zs : List Int} (h : RowAt w x cap zs) (hc : 0 < cap) :
    x.spot = none ∧ ∃ cs ty fz, w.heap[x.block]? = some (.cells cs ty fz) ∧ x.off + cap ≤ cs.size ∧ ∀ i, i < cap → cs[x.off + i]? = some (.int .i64 (zs.getD i 0)) := by
  obtain ⟨hl, hcell⟩ := h
  have h0 := hcell 0 (by omega)
  have e0 : x.add 0 = x := by simp [Addr.add]
  rw [e0] at h0
  unfold World.cell? at h0
  split at h0
  · rename_i cs ty fz hh
    split at h0
    · cases h0
    · rename_i hsp
      have hsp' : x.spot = none := by
        cases hx : x.spot with
        | none => rfl
        | some s => rw [hx] at hsp; exact absurd rfl hsp
      have hall : ∀ i, i < cap → cs[x.off + i]? = some (.int .i64 (zs.getD i 0)) := by
        intro i hi
        have h1 := hcell i (by omega)
        have e1 : x.add i = ⟨x.block, x.off + i, none⟩ := by
          cases i with
          | zero =>
            rw [e0]
            cases x with
            | mk b o s => simp at hsp' ⊢; exact hsp'
          | succ i => simp [Addr.add]
        rw [e1, cell_of_heap hh] at h1
        exact h1
      refine ⟨hsp', cs, ty, fz, hh, ?_, hall⟩
      have := hall (cap - 1) (by omega)
      have := (Array.getElem?_eq_some_iff.1 this).1
      omega
  · cases h0

theorem wI_slot {p : Nat} (h : p < 18446744073709551616) : wI p < 2 ^ 128 := by
  show 16 * p + 1 < _; omega
theorem allSlot_of : ∀ (l : List Nat), (∀ x ∈ l, x < 2 ^ 128) → allSlot l = true
  | [], _ => rfl
  | x :: l, h => by
    have e : allSlot (x :: l) = sel (ltb x 340282366920938463463374607431768211456) (allSlot l) false := rfl
    rw [e, sel_ltb, if_pos (h x List.mem_cons_self)]
    exact allSlot_of l fun y hy => h y (List.mem_cons_of_mem _ hy)

/-- What a slice of ints that came in stands for: the words of its elements. -/
def wordsOf (zs : List Int) : List Nat := zs.map fun z => wI (uInt z)

theorem Ctx.row {base n len cap : Nat} {H : Trie} {ρ : Rho} {L : Look} {w : World} {x : Addr} {zs : List Int} (c : Ctx base H n ρ L w) (hb : base = w.heap.size) (hn : n < 16384)
    (h : RowAt w x cap zs) (hcap : 0 < cap) (hwf : ∀ z ∈ zs, -9223372036854775808 ≤ z ∧ z < 9223372036854775808) (hle : len ≤ cap) (hc : cap < 9223372036854775808) (hlen : len < 1048576) :
    ∃ ρ' L', Ctx base (hset H n (.cells len (listW (wordsOf (zs.take len))) 0 0 0 0)) (n + 1) ρ' L' w ∧ Ext ρ L ρ' L' ∧ VR ρ' L' (wS n 1 0 len 0) (.slice (some x) len cap) := by
  obtain ⟨hsp, cs, ty, fz, hh, h1, h2⟩ := h.block hcap
  have hrb : x.block < base := by rw [hb]; exact (Array.getElem?_eq_some_iff.1 hh).1
  have hlz : len ≤ zs.length := by rw [h.1]; exact hle
  have hsl : allSlot (wordsOf (zs.take len)) = true := allSlot_of _ fun y hy => by
    unfold wordsOf at hy
    obtain ⟨z, _, rfl⟩ := List.mem_map.1 hy
    exact wI_slot (uInt_lt z)
  refine ⟨_, _, c.arg (nb := len) (ch := listW (wordsOf (zs.take len))) hn hh hrb h1 hle ?_, .fresh c.fresh _ _, ?_⟩
  · intro i hi
    refine ⟨_, h2 i (by omega), ?_⟩
    have e : getW (listW (wordsOf (zs.take len))) i = wI (uInt (zs.getD i 0)) := by
      rw [getW_listW _ hsl]
      have hil : i < zs.length := by omega
      simp [wordsOf, List.getD_eq_getElem?_getD, hi, hil]
    rw [e]
    have hm : zs.getD i 0 ∈ zs := by
      have hil : i < zs.length := by omega
      simp [List.getD_eq_getElem?_getD, hil]
    obtain ⟨a1, a2⟩ := hwf _ hm
    refine ⟨?_, ?_⟩
    · have := VR.int (ρ := ρ) (L := L) (uInt (zs.getD i 0)) (uInt_lt _)
      rw [sInt_uInt _ a1 a2] at this
      exact this
    · rw [storable_iff, tag_wI]
      exact ⟨by decide, by decide, by decide, wI_slot (uInt_lt _)⟩
  · have hx : x = ⟨x.block, x.off + 0, none⟩ := by
      cases x with
      | mk b o s => simp at hsp ⊢; exact hsp
    exact .slice n 1 0 len 0 x.block x.off cap cap x (updR_same _ _ _) (by omega) (by omega) hlen (by omega) hle hc (.inl rfl) (.inr ⟨hx, by omega⟩)
end Go.Eng

/- (moved: XEngMb) -/
