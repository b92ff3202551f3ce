/- Calls. -/
import Derived.Test.YthcdiaahpodkoabEngP
namespace Go.Eng
set_option linter.unusedSectionVars false
set_option linter.unusedSimpArgs false
set_option linter.unusedVariables false
open Go Go.RowKit
variable [E : Env]

def mkR (f : FFix) (tmps : Array Value) (ds : List Deferred) (todo : List Item) : Frame :=
  { fn := f.fn, tmps := tmps, todo := todo, defers := ds, mode := .returning, kind := f.kind, roundOf := f.ro }

section
variable {P : Program} {base nt m n n1 n' ro fuel v : Nat} {H H' : Trie} {ρ ρ1 : Rho} {L L1 : Look} {w w1 w' : World} {f : FFix} {call : Nat → List Nat → Trie → Nat → OR} {tmps : Array Value} {ds : List Deferred} {k : List Item} {cs : List Frame}

theorem st_leave0 (hf : f.ro = none) : Steps P (lone (mkF f tmps ds []) cs w) (lone (mkR f tmps ds []) cs w) := .one (step_lone_go (by simp [stepG, stepG.exec, mkF, mkR, hf]))
theorem st_leaveRet (hf : f.ro = none) : Steps P (lone (mkF f tmps ds (.code .ret :: k)) cs w) (lone (mkR f tmps ds (.code .ret :: k)) cs w) := .one (step_lone_go (by simp [stepG, stepG.exec, mkF, mkR, hf]))

theorem run_take {r : Nat} (h : w.heap[r]? = some (.deferred (some []))) : (Instr.takeDeferred r).run P w = .ok [] { w with heap := w.heap.setIfInBounds r (.deferred none) } := by
  simp [Instr.takeDeferred, getObj, setObj, Sem.run, h]

theorem st_unwind {r : Nat} (h : w.heap[r]? = some (.deferred (some []))) :
    Steps P (lone (mkR f tmps ({ target := .collected r, args := #[] } :: ds) k) cs w) (lone (mkR f tmps ds k) cs { w with heap := w.heap.setIfInBounds r (.deferred none) }) := by
  refine .one (step_lone_go ?_)
  simp only [stepG, unwind, mkR, Sem.runT_eq, run_take h, GStep.bare_after]
  rfl

theorem goneE_cons (d : Nat) (D : List Nat) (H : Trie) : goneE (d :: D) H = goneE D (hset H d .gone) := rfl

/-- The marks of a function go at its end. -/
theorem unwind_all (ds0 : List Nat) (ds : List Deferred) : ∀ (H : Trie) (n : Nat) (L : Look) (w : World), DR ρ L m ds0 ds → Ctx base H n ρ L w → (∀ d ∈ ds0, d < 16384) →
    ∃ L' w', Ctx base (goneE ds0 H) n ρ L' w' ∧ Ext0 ρ L ρ L' ∧ Below base w w' ∧ (∀ b, b < m → L' b = L b) ∧ ∀ f tmps k cs, Steps P (lone (mkR f tmps ds k) cs w) (lone (mkR f tmps [] k) cs w') := by
  induction ds0 generalizing ds with
  | nil =>
    intro H n L w hd c _
    cases hd
    exact ⟨L, w, c, .refl _ _, Below.refl _ _, fun _ _ => rfl, fun _ _ _ _ => Steps.refl _ _⟩
  | cons d D ih =>
    intro H n L w hd c hlt
    cases hd with
    | cons _ r _ ds' h1 h2 h3 h4 h55 h5 =>
      obtain ⟨k0, hk0, hbr⟩ := c.sim.blk d r h1
      rw [h2] at hk0; injection hk0 with hk0; subst hk0
      have hheap : w.heap[r.1]? = some (.deferred (some [])) := hbr (NoRow.live (k := .defr) trivial h2)
      have hsize : r.1 < w.heap.size := c.sim.bnd d r h1
      have ne : ∀ j (k : Blk), L j = some k → k ≠ .defr → j ≠ d := fun j k hj hk hjd => by subst hjd; rw [h2] at hj; injection hj with hj; exact hk hj.symm
      have e : Ext0 ρ L ρ (upd L d .gone) := by
        refine ⟨fun _ _ h => h, fun j kd mm cc hj => ?_, fun j p q s d lo hi hj => ?_, fun j hj => ?_⟩
        · rw [upd_ne _ _ (ne j _ hj (by simp))]; exact hj
        · rw [upd_ne _ _ (ne j _ hj (by simp))]; exact hj
        · by_cases hjd : j = d
          · subst hjd; right; exact upd_same _ _ _
          · unfold IsDf; rw [upd_ne _ _ hjd]; exact hj
      have s1 := c.sim.swap (w' := { w with heap := w.heap.setIfInBounds r.1 (.deferred none) }) h1 h2 (k' := .gone) trivial trivial e
        (fun x hx => by simp only; rw [Array.getElem?_setIfInBounds, if_neg (by omega)]) (by simp) trivial
      have hbase : base ≤ r.1 := c.sim.rw d r h1 (by rw [NoRow.grp (k := .defr) trivial h2]; omega)
      have c1 : Ctx base (hset H d .gone) n ρ (upd L d .gone) { w with heap := w.heap.setIfInBounds r.1 (.deferred none) } :=
        ⟨s1, c.agree.hset (hlt d (by simp)) _, fun j hj => ⟨by rw [upd_ne _ _ (by have := c.fresh.lt h1; omega)]; exact (c.fresh j hj).1, (c.fresh j hj).2⟩⟩
      have h5' : DR ρ (upd L d .gone) m D ds' := by
        clear ih hlt c c1 s1 e ne hbr
        induction h5 with
        | nil => exact .nil
        | cons x q D' ds'' g1 g2 g3 g4 g5 _ ih2 =>
          have hne : x ≠ d := fun hx => h4 (by subst hx; simp)
          exact .cons x q D' ds'' g1 (by rw [upd_ne _ _ hne]; exact g2) g3 g4 g5 (ih2 (fun hh => h4 (by simp [hh])))
      obtain ⟨L', w', c2, e2, b2, hm2, st2⟩ := ih ds' (hset H d .gone) n (upd L d .gone) _ h5' c1 (fun x hx => hlt x (by simp [hx]))
      exact ⟨L', w', by rw [goneE_cons]; exact c2, e.trans e2, (below_set hbase).trans b2, fun b hb => by rw [hm2 b hb, upd_ne _ _ (by omega)], fun f tmps k cs => (st_unwind hheap).trans (st2 f tmps k cs)⟩

theorem resB_sound : ∀ (rs : List ResultVar) (H : Trie) (n : Nat) (L : Look) (k : List Nat → Trie → Nat → OR) (r : OR) (T : Nat), Ctx base H n ρ L w → TR ρ L nt T tmps → resB P T rs H n k = r → (∀ q, r ≠ .bad q) →
    ∃ vs ws H1 n1 L1, Ctx base H1 n1 ρ L1 w ∧ Ext ρ L ρ L1 ∧ (∀ b, b < n → L1 b = L b) ∧ n ≤ n1 ∧ k ws H1 n1 = r ∧ AR ρ L1 ws vs ∧
      (rs.mapM (fun | .tmp t => pure (tmps.getD t Go.undef) | .cell a t => do loadVar t (← asAddr (tmps.getD a Go.undef)) : ResultVar → Sem Value)).run P w = .ok vs w
  | [], H, n, L, k, r, T, c, ht, h, hr => ⟨[], [], H, n, L, c, .refl _ _, fun _ _ => rfl, Nat.le_refl _, h, .nil, rfl⟩
  | .tmp t :: rs, H, n, L, k, r, T, c, ht, h, hr => by
    have e : resB P T (.tmp t :: rs) H n k = resB P T rs H n (fun ws => k (getW T t :: ws)) := rfl
    rw [e] at h
    obtain ⟨vs, ws, H1, n1, L1, c1, e1, f1, hn, hk, ha, hrun⟩ := resB_sound rs H n L _ r T c ht h hr
    exact ⟨_, _, H1, n1, L1, c1, e1, f1, hn, hk, .cons _ _ _ _ ((ht.2 t).mono e1) ha, by rw [List.mapM_cons]; simp only [Sem.run_bind, Sem.run_pure, Result.andThen_ok, hrun]⟩
  | .cell a t :: rs, H, n, L, k, r, T, c, ht, h, hr => by
    have e : resB P T (.cell a t :: rs) H n k = sel (plain P t)
          (sel (Nat.beq (tagOf (getW T a)) 3) (sel (Nat.beq (pBlk (payOf (getW T a))) 0) (.bad 0)
            (sel (Nat.beq (tagOf (rd H (Nat.pred (pBlk (payOf (getW T a)))) (pOff (payOf (getW T a))))) 15) (.bad 0) (resB P T rs H n (fun ws => k (rd H (Nat.pred (pBlk (payOf (getW T a)))) (pOff (payOf (getW T a))) :: ws))))) (.bad 0))
          (match loadA P t (getW T a) H n with | .ok v H' n' => resB P T rs H' n' (fun ws => k (v :: ws)) | .bad q => .bad q) := rfl
    rw [e, sel_eq] at h
    split at h
    · rename_i hp
      rw [sel_beq] at h
      split at h
      · rename_i h3
        rw [sel_beq] at h
        split at h
        · exact absurd h.symm (hr _)
        · rename_i hz
          rw [sel_beq] at h
          split at h
          · exact absurd h.symm (hr _)
          · rename_i hnb
            rcases (ht.2 a).ptr_inv h3 with ⟨h4, _⟩ | ⟨b, off, rb, d, sz, hb', hof, hw, hv⟩
            · rw [h4] at hz; exact absurd rfl hz
            · obtain ⟨_, p2, p3⟩ := p_parts b off hof
              rw [hw, p2, p3, Nat.pred_succ] at h hnb
              obtain ⟨u, hcell, hu⟩ := rd_sound c hb' hnb
              obtain ⟨vs, ws, H1, n1, L1, c1, e1, f1, hn, hk, ha, hrun⟩ := resB_sound rs H n L _ r T c ht h hr
              refine ⟨_, _, H1, n1, L1, c1, e1, f1, hn, hk, .cons _ _ _ _ (hu.mono e1) ha, ?_⟩
              have hld : (do loadVar t (← asAddr (tmps.getD a Go.undef)) : Sem Value).run P w = .ok u w := by rw [hv]; simp [asAddr, loadVar, run_isAgg_plain hp, hcell]
              rw [List.mapM_cons, Sem.run_bind]
              refine Eq.trans (congrArg (Result.andThen · _) hld) ?_
              simp only [Result.andThen_ok, Sem.run_bind, hrun, Sem.run_pure]
      · exact absurd h.symm (hr _)
    · split at h
      · rename_i v0 H0 n0 hl
        have hptr : ∃ p, tmps.getD a Go.undef = .pointer (some p) := by
          unfold loadA at hl
          rw [sel_eq] at hl
          split at hl
          · rw [sel_beq] at hl
            split at hl
            · rename_i h3
              rw [sel_beq] at hl
              split at hl
              · cases hl
              · rename_i hz
                rcases (ht.2 a).ptr_inv h3 with ⟨h4, _⟩ | ⟨b, off, rb, d, sz, hb', hof, hw, hv⟩
                · rw [h4] at hz; exact absurd rfl hz
                · exact ⟨_, hv⟩
            · cases hl
          · cases hl
        obtain ⟨p, hp⟩ := hptr
        obtain ⟨x, hcx, hrunx⟩ := loadA_calm c (ht.2 a) hl
        have step : ∃ L0, Ctx base H0 n0 ρ L0 w ∧ Ext ρ L ρ L0 ∧ (∀ b, b < n → L0 b = L b) ∧ n ≤ n0 ∧ VR ρ L0 v0 x := by
          rcases hcx with ⟨rfl, rfl, hv⟩ | ⟨kb, hkb, rfl, rfl, hn, rfl, hv⟩
          · exact ⟨L, c, .refl _ _, fun _ _ => rfl, Nat.le_refl _, hv⟩
          · have e : Ext ρ L ρ (upd L n kb) := .freshL c.fresh _
            exact ⟨upd L n kb, ⟨c.sim.boxB c.fresh hkb, c.agree.hset hn _, c.fresh.updL _⟩, e, fun b hb => upd_ne _ _ (by omega), Nat.le_succ _, hv ρ _ n e.toExt0 (upd_same _ _ _)⟩
        obtain ⟨L0, c0, e0, f0, hn0, hv0⟩ := step
        obtain ⟨vs, ws, H1, n1, L1, c1, e1, f1, hn, hk, ha, hrun⟩ := resB_sound rs H0 n0 L0 _ r T c0 (ht.mono e0) h hr
        refine ⟨_, _, H1, n1, L1, c1, e0.trans e1, fun b hb => (f1 b (by omega)).trans (f0 b hb), Nat.le_trans hn0 hn, hk, .cons _ _ _ _ (hv0.mono e1) ha, ?_⟩
        have hld : (do loadVar t (← asAddr (tmps.getD a Go.undef)) : Sem Value).run P w = .ok x w := by
          rw [hp] at hrunx ⊢
          simpa [asAddr, Instr.loadAt, Instr.sureAddr] using hrunx
        rw [List.mapM_cons, Sem.run_bind]
        refine Eq.trans (congrArg (Result.andThen · _) hld) ?_
        simp only [Result.andThen_ok, Sem.run_bind, hrun, Sem.run_pure]
      · exact absurd h.symm (hr _)

theorem tupE_sound (c : Ctx base H n ρ L w) {ws : List Nat} {vs : List Value} (ha : AR ρ L ws vs) (h : tupE ws H n = .ok v H' n') :
    ∃ L' x, Ctx base H' n' ρ L' w ∧ Ext ρ L ρ L' ∧ (∀ b, b < n → L' b = L b) ∧ n ≤ n' ∧ VR ρ L' v x ∧ x = (if h : vs.toArray.size = 1 then vs.toArray[0] else .tuple vs.toArray) := by
  unfold tupE at h
  rw [sel_eq] at h
  split at h
  · rename_i hnb
    rcases ws with _ | ⟨w0, _ | ⟨w1, ws⟩⟩
    · cases ha
      injection h with h1 h2 h3
      subst h1; subst h2; subst h3
      exact ⟨L, _, c, .refl _ _, fun _ _ => rfl, Nat.le_refl _, .undef, rfl⟩
    · cases ha with
      | cons _ x _ _ hx ha' =>
        cases ha'
        injection h with h1 h2 h3
        subst h1; subst h2; subst h3
        exact ⟨L, x, c, .refl _ _, fun _ _ => rfl, Nat.le_refl _, hx, rfl⟩
    · dsimp only at h
      rw [sel_eq] at h
      split at h
      · rename_i hsl
        unfold newBox at h
        rw [sel_ltb] at h
        split at h
        · rename_i hn
          injection h with h1 h2 h3
          subst h1; subst h2; subst h3
          have e : Ext ρ L ρ (upd L n (.box 1 (w0 :: w1 :: ws).length (listW (w0 :: w1 :: ws)))) := .freshL c.fresh _
          have hsz : vs.toArray.size ≠ 1 := by
            have h2 := ha.length
            simp at h2
            simp [h2]
          refine ⟨_, .tuple vs.toArray, ⟨c.sim.box c.fresh _ _ _, c.agree.hset hn _, c.fresh.updL _⟩, e, fun b hb => upd_ne _ _ (by omega), Nat.le_succ _, ?_, by rw [dif_neg hsz]⟩
          refine .tup n _ _ _ (upd_same _ _ _) (by simp [ha.length]) fun i hi => ?_
          rw [getW_listW _ hsl]
          have hi' : i < vs.length := by simpa using hi
          simpa using (ha.get i hi').mono e
        · cases h
      · cases h
  · cases h

def CallsAt (P : Program) (f : FuncId) (args : Array Value) (w : World) (cs : List Frame) (R : Ending → World → Prop) : Prop :=
  ∃ e w' fr, R e w' ∧ Comes P (lone (Frame.enter P f args .normal) cs w) (lone fr cs w') e ∧ fr.fn = f ∧ fr.leaving P w' e

/-- A call of a function of the program. -/
theorem funE_sound (hcall : CallS P call) (cs : List Frame) {fid : Nat} {args : List Nat} {vs : Array Value} (c : Ctx base H n ρ L w) (ha : AR ρ L args vs.toList) (h : funE P call fuel fid args H n = .ok v H' n') :
    After base H n ρ L w v H' n' (fun x w' => (∃ fn, P.funcs[fid]? = some fn ∧ fn.body.isSome = true ∧ fn.name ≠ "runtime.NumGoroutine") ∧ CallsAt P fid vs w cs (fun e W => e = .returned x ∧ W = w')) := by
  unfold funE at h
  split at h
  · rename_i fn hfn
    split at h
    · rename_i body hbody
      rw [sel_beq] at h
      split at h
      · cases h
      · rename_i hname
        have hname' : fn.name ≠ "runtime.NumGoroutine" := by
          intro hh; apply hname; unfold funE.bne'; rw [if_pos hh]
        rw [sel_ble] at h
        split at h
        · rename_i hle
          rw [sel_eq] at h
          split at h
          · rw [sel_eq] at h
            split at h
            · rename_i hnb hsl
              have hlen : vs.size = args.length := by have := ha.length; simpa using this
              have ht : TR ρ L fn.ntmps (listW args) (vs ++ Array.replicate (fn.ntmps - vs.size) Go.undef) := by
                refine ⟨by simp; omega, fun t => ?_⟩
                rw [getW_listW _ hsl]
                by_cases htl : t < vs.size
                · have h1 := ha.get t (by simpa using htl)
                  have e : (vs ++ Array.replicate (fn.ntmps - vs.size) Go.undef).getD t Go.undef = vs.toList[t]'(by simpa using htl) := by
                    simp [Array.getD_eq_getD_getElem?, Array.getElem?_append, htl]
                  rw [e]; exact h1
                · have e1 : args.getD t 0 = 0 := by simp [List.getD_eq_getElem?_getD, List.getElem?_eq_none (show args.length ≤ t by omega)]
                  have e2 : (vs ++ Array.replicate (fn.ntmps - vs.size) Go.undef).getD t Go.undef = Go.undef := by
                    simp only [Array.getD_eq_getD_getElem?, Array.getElem?_append, if_neg htl, Array.getElem?_replicate]
                    split <;> rfl
                  rw [e1, e2]; exact .undef
              have hex := execE_sound (base := base) (nt := fn.ntmps) (m := n) (ro := 0) (fuel := fuel) (f := ⟨fid, .normal, none⟩) hcall body ⟨listW args, H, n, []⟩ _ [] ρ L w [] cs c ht .nil (.inl ⟨rfl, rfl⟩) (Nat.le_refl _)
              have henter : Frame.enter P fid vs .normal = mkF ⟨fid, .normal, none⟩ (vs ++ Array.replicate (fn.ntmps - vs.size) Go.undef) [] [.code body] := by
                simp [Frame.enter, hfn, hbody, mkF]
              -- the end, whichever way it came
              have fin : ∀ (s : St), (Mid base fn.ntmps n n ρ L w s fun w' tmps' ds' => ∃ td, Steps P (lone (Frame.enter P fid vs .normal) cs w) (lone (mkR ⟨fid, .normal, none⟩ tmps' ds' td) cs w')) →
                  resB P s.T fn.results.toList (goneE s.D s.H) s.n tupE = .ok v H' n' →
                  After base H n ρ L w v H' n' (fun x w' => (∃ fn, P.funcs[fid]? = some fn ∧ fn.body.isSome = true ∧ fn.name ≠ "runtime.NumGoroutine") ∧ CallsAt P fid vs w cs (fun e W => e = .returned x ∧ W = w')) := by
                rintro s ⟨ρ1, L1, w1, t1, d1, c1, ht1, hd1, e1, b1, lc1, hn1, hst⟩ heq
                · obtain ⟨L2, w2, c2, e2, b2, hm2, st2⟩ := unwind_all (P := P) s.D d1 s.H s.n L1 w1 hd1 c1 hd1.small
                  obtain ⟨rv, ws, H5, n5, L5, c5, e5, hm5, hn5, heq, har, hrun⟩ := resB_sound fn.results.toList _ _ _ _ _ _ c2 (ht1.mono0 e2) heq (by simp)
                  obtain ⟨L3, x, c3, e3', hm3', hn3', hv, hx⟩ := tupE_sound c5 har heq
                  have e3 : Ext ρ1 L2 ρ1 L3 := e5.trans e3'
                  have hm3 : ∀ b, b < s.n → L3 b = L2 b := fun b hb => (hm3' b (by omega)).trans (hm5 b hb)
                  have hn3 : s.n ≤ n' := Nat.le_trans hn5 hn3'
                  have eall : Ext ρ L ρ1 L3 := by
                    have e12 := (e1.toExt0.trans e2).trans e3.toExt0
                    refine ⟨e12, fun b hb => ?_⟩
                    have hbn := c.fresh.ltL hb
                    rw [hm3 b (by omega), hm2 b hbn]; exact e1.defr b hb
                  refine ⟨ρ1, L3, w2, x, c3, eall, b1.trans b2, ⟨fun b hb hbn => ⟨by rw [hm3 b (by omega), hm2 b hb]; exact (lc1.bare b hb hbn).1, (lc1.bare b hb hbn).2⟩⟩, by omega, hv, ⟨fn, hfn, by rw [hbody]; rfl, hname'⟩, ?_⟩
                  obtain ⟨td, h1⟩ := hst
                  refine ⟨.returned x, w2, mkR ⟨fid, .normal, none⟩ t1 [] td, ⟨rfl, rfl⟩, h1.trans (st2 _ _ _ _), rfl, rfl, rfl, rfl, fn, hfn, ?_⟩
                  show (results fn t1).run P w2 = .ok x w2
                  unfold results
                  rw [Array.mapM_eq_mapM_toList]
                  simp only [Sem.run_bind, Sem.run_map, Sem.run_pure]
                  refine Eq.trans (congrArg (fun q => Result.andThen (Result.andThen q _) _) hrun) ?_
                  rw [hx]; rfl
              split at h
              · rename_i s hr
                rw [hr] at hex
                refine fin s (Mid.mono hex ?_) h
                intro w' t d hs
                rw [← henter] at hs
                exact ⟨_, hs.trans (st_leave0 rfl)⟩
              · rename_i s hr
                rw [hr] at hex
                refine fin s (Mid.mono hex ?_) h
                intro w' t d ⟨k', h1⟩
                rw [← henter] at h1
                exact ⟨_, h1.trans (st_leaveRet rfl)⟩
              · cases h
              · cases h
            · cases h
          · cases h
        · cases h
    · cases h
  · cases h
end
end Go.Eng
