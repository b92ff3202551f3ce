/- Regions that draw their order: the whole. -/
import Derived.Test.YtgcicmlfalmamaaEngNc
namespace Go.Eng
set_option linter.unusedSectionVars false
set_option linter.unusedSimpArgs false
set_option linter.unusedVariables false
open Go Go.RowKit
variable [E : Env]

theorem lin_cases (ops : Array Oper) (fuel t : Nat) (ls : Array Bool) :
    (Region.ready .any ops ls = [] ∧ Region.linearise.go .any ops (fuel + 1) t ls [] = []) ∨
    ∃ i t', i ∈ Region.ready .any ops ls ∧ Region.linearise.go .any ops (fuel + 1) t ls [] = i :: Region.linearise.go .any ops fuel t' (ls.setIfInBounds i true) [] := by
  simp only [Region.linearise.go]
  change (_ ∧ (match (Region.ready .any ops ls)[t % (Region.ready .any ops ls).length]? with
      | some i => Region.linearise.go .any ops fuel (t / (Region.ready .any ops ls).length) (ls.setIfInBounds i true) [i]
      | none => [].reverse) = _) ∨ ∃ i t', _ ∧ (match (Region.ready .any ops ls)[t % (Region.ready .any ops ls).length]? with
      | some i => Region.linearise.go .any ops fuel (t / (Region.ready .any ops ls).length) (ls.setIfInBounds i true) [i]
      | none => [].reverse) = _
  cases hi : (Region.ready .any ops ls)[t % (Region.ready .any ops ls).length]? with
  | none =>
    left
    refine ⟨?_, rfl⟩
    cases hr : Region.ready .any ops ls with
    | nil => rfl
    | cons x xs =>
      rw [hr] at hi
      have hlt : t % (x :: xs).length < (x :: xs).length := Nat.mod_lt _ (by simp)
      simp at hi
      simp at hlt
      omega
  | some i =>
    right
    refine ⟨i, t / (Region.ready .any ops ls).length, List.mem_of_getElem? hi, ?_⟩
    simp only
    rw [linearise_go_acc, List.reverse_singleton, List.singleton_append]

section
variable {base : Nat} {H' : Trie} {n' nt T' M : Nat} {P : Program} {ops : Array Oper} {call : Nat → List Nat → Trie → Nat → OR}

structure Inv (ops : Array Oper) (M : Nat) (ls : Array Bool) (es xs recs : List Num) : Prop where
  cov : ∀ i o, ops[i]? = some o → dn ls i = false → ((i, o) : Num) ∈ recs ∨ ((i, o) : Num) ∈ es ∨ ((i, o) : Num) ∈ xs
  esI : ∀ x ∈ es, ops[x.1]? = some x.2 ∧ dn ls x.1 = false ∧ quietOp x.2.op = false
  recsI : ∀ x ∈ recs, ops[x.1]? = some x.2 ∧ quietOp x.2.op = true
  xsI : ∀ x ∈ xs, ops[x.1]? = some x.2 ∧ quietOp x.2.op = true ∧ ∃ e es', es = e :: es' ∧ bitE (getW M x.1) e.1 = true
  chain : chainE M es 0 = true

theorem go_sound (hcall : CallS P call) (hs : Stat ops M) (hM : MaskOk ops M) (f : FFix) (ds : List Deferred) (k : List Item) (cs : List Frame) : ∀ (fuel tt : Nat) (ls : Array Bool) (es xs recs : List Num) (T : Nat) (H : Trie) (n Tt : Nat) (tmps : Array Value) (ρ : Rho) (L : Look) (w : World),
    Closed ops ls → cnt ops ls ≤ fuel → Inv ops M ls es xs recs → chkE P call nt ops T H n recs = true → cont P call nt ops M es xs recs T H n = .ok T' H' n' →
    Ctx base H n ρ L w → TR ρ L nt Tt tmps → Agr ops ls Tt T →
    ∃ ρ' L' w' tmps', Ctx base H' n' ρ' L' w' ∧ TR ρ' L' nt T' tmps' ∧ Ext ρ L ρ' L' ∧ Below base w w' ∧ Loc H n ρ L ρ' L' ∧ n ≤ n' ∧
      Steps P (lone (mkF f tmps ds (.inRegion ops (Region.linearise.go .any ops fuel tt ls []) :: k)) cs w) (lone (mkF f tmps' ds (.inRegion ops [] :: k)) cs w') := by
  intro fuel
  have fin : ∀ (ls : Array Bool) (es xs recs : List Num) (T : Nat) (H : Trie) (n Tt : Nat) (tmps : Array Value) (ρ : Rho) (L : Look) (w : World),
      (∀ i, i < ops.size → dn ls i = true) → Inv ops M ls es xs recs → cont P call nt ops M es xs recs T H n = .ok T' H' n' →
      Ctx base H n ρ L w → TR ρ L nt Tt tmps → Agr ops ls Tt T →
      ∃ ρ' L' w' tmps', Ctx base H' n' ρ' L' w' ∧ TR ρ' L' nt T' tmps' ∧ Ext ρ L ρ' L' ∧ Below base w w' ∧ Loc H n ρ L ρ' L' ∧ n ≤ n' ∧
      Steps P (lone (mkF f tmps ds (.inRegion ops [] :: k)) cs w) (lone (mkF f tmps' ds (.inRegion ops [] :: k)) cs w') := by
    intro ls es xs recs T H n Tt tmps ρ L w hd hI hc c ht ha
    cases es with
    | cons e es' =>
      obtain ⟨h1, h2, _⟩ := hI.esI e List.mem_cons_self
      rw [hd e.1 (Array.getElem?_eq_some_iff.1 h1).1] at h2
      cases h2
    | nil =>
      have hc' : RR.ok T H n = .ok T' H' n' := hc
      injection hc' with a1 a2 a3
      subst a1; subst a2; subst a3
      refine ⟨ρ, L, w, tmps, c, ⟨ht.1, fun t => ?_⟩, .refl _ _, Below.refl _ _, .refl _ _ _ _, Nat.le_refl _, Steps.refl _ _⟩
      rw [← ha t fun i o ho hno => by rw [hd i (Array.getElem?_eq_some_iff.1 ho).1] at hno; cases hno]
      exact ht.2 t
  induction fuel with
  | zero =>
    intro tt ls es xs recs T H n Tt tmps ρ L w hcl hcnt hI hch hc c ht ha
    have h0 : Region.linearise.go .any ops 0 tt ls [] = [] := rfl
    rw [h0]
    exact fin ls es xs recs T H n Tt tmps ρ L w (cnt_zero hcnt) hI hc c ht ha
  | succ fuel ih =>
    intro tt ls es xs recs T H n Tt tmps ρ L w hcl hcnt hI hch hc c ht ha
    rcases lin_cases ops fuel tt ls with ⟨hr, hg⟩ | ⟨j, tt', hj, hg⟩
    · rw [hg]
      exact fin ls es xs recs T H n Tt tmps ρ L w (all_done hs hcl hr) hI hc c ht ha
    · obtain ⟨hjd, o, ho, hpre⟩ := (ready_iff hcl j).1 hj
      have hbit : ∀ i, bitE (getW M j) i = true → dn ls i = true := fun i hb => hM ls hcl j o ho hpre i hb
      have hopd : ∀ d, (d ∈ tmpsOf o.op.operands.toList ∨ d ∈ guardT ops o) → getW Tt d = getW T d := fun d hd => ha d fun i o' ho' hno hdst => by
        have := hbit i (hs.reads j o d i o' ho hd ho' hdst)
        rw [hno] at this; cases this
      have hw : wantedE ops Tt o = wantedE ops T o := wantedE_congr fun d hd => hopd d (.inr hd)
      have hop : opE P call Tt H n o.op = opE P call T H n o.op := opE_congr fun x hx => ev_of_tmps (fun d hd => hopd d (.inl hd)) x (by simpa using hx)
      have hcl' := hcl.set ho hpre
      have hcnt' : cnt ops (ls.setIfInBounds j true) ≤ fuel := by have := cnt_set hcl ho hjd; omega
      have hjs : j < ls.size := by rw [hcl.size]; exact (Array.getElem?_eq_some_iff.1 ho).1
      have hund : ∀ i, dn (ls.setIfInBounds j true) i = false → dn ls i = false ∧ i ≠ j := by
        intro i hi
        rw [dn_set hjs] at hi
        split at hi
        · cases hi
        · exact ⟨hi, by assumption⟩
      have hund' : ∀ i, dn ls i = false → i ≠ j → dn (ls.setIfInBounds j true) i = false := by
        intro i hi hne
        rw [dn_set hjs, if_neg hne]; exact hi
      have agr1 : ∀ t, (∀ i o', ops[i]? = some o' → dn (ls.setIfInBounds j true) i = false → o'.dst ≠ some t) → o.dst ≠ some t → getW Tt t = getW T t := by
        intro t h1 h2
        refine ha t fun i o' ho' hno => ?_
        by_cases hij : i = j
        · subst hij; rw [ho] at ho'; injection ho' with ho'; subst ho'; exact h2
        · exact h1 i o' ho' (hund' i hno hij)
      rw [hg]
      have hxund : ∀ x ∈ xs, dn ls x.1 = false := by
        intro x hx
        obtain ⟨hxo, _, e, es', he, hb⟩ := hI.xsI x hx
        cases hd : dn ls x.1 with
        | false => rfl
        | true =>
          have h1 := hM ls hcl x.1 x.2 hxo (hcl.clo _ _ hxo hd) e.1 hb
          have h2 := (hI.esI e (by rw [he]; exact List.mem_cons_self)).2.1
          rw [h1] at h2; cases h2
      rcases hI.cov j o ho hjd with hin | hin | hin
      · -- an operation that leaves the heap alone
        have hq := (hI.recsI _ hin).2
        have hchk := (allE_iff _ _).1 hch _ hin
        rw [sel_eq] at hchk
        have key : ∃ v, ((wantedE ops Tt o = true ∧ opE P call Tt H n o.op = .ok v H n) ∨ (wantedE ops Tt o = false ∧ v = 0 ∧ H = H ∧ n = n)) ∧ dstIs nt T o.dst v = true := by
          split at hchk
          · rename_i hw1
            split at hchk
            · rename_i v H2 n2 hv
              obtain ⟨rfl, rfl⟩ := quiet_same hq hv
              exact ⟨v, .inl ⟨by rw [hw]; exact hw1, by rw [hop]; exact hv⟩, hchk⟩
            · cases hchk
          · rename_i hw1
            exact ⟨0, .inr ⟨by rw [hw]; simpa using hw1, rfl, rfl, rfl⟩, hchk⟩
        obtain ⟨v, hv, hdst⟩ := key
        have hdi := dstIs_inv hdst
        obtain ⟨ρ1, L1, w1, tmps1, c1, ht1, e1, b1, l1, _, hst⟩ := op_step hcall (Region.linearise.go .any ops fuel tt' (ls.setIfInBounds j true) []) f ds k cs ho c ht hv fun d hd => ⟨(hdi d hd).2.1, (hdi d hd).2.2⟩
        have hI' : Inv ops M (ls.setIfInBounds j true) es xs recs := by
          refine ⟨fun i o' ho' hno => hI.cov i o' ho' (hund i hno).1, fun x hx => ?_, hI.recsI, hI.xsI, hI.chain⟩
          obtain ⟨a1, a2, a3⟩ := hI.esI x hx
          refine ⟨a1, hund' _ a2 ?_, a3⟩
          rintro rfl
          rw [ho] at a1; injection a1 with a1
          rw [← a1] at a3; rw [hq] at a3; cases a3
        have ha' : Agr ops (ls.setIfInBounds j true) (putW Tt o.dst v) T := by
          intro t ht2
          by_cases hdt : o.dst = some t
          · rw [hdt, putW_same (hdi t hdt).2.2]; exact (hdi t hdt).1.symm
          · rw [putW_ne (fun d hd => (hdi d hd).2.2) hdt]; exact agr1 t ht2 hdt
        obtain ⟨ρ2, L2, w2, tmps2, c2, ht2, e2, b2, l2, hn2, hst2⟩ := ih tt' _ es xs recs T H n _ tmps1 ρ1 L1 w1 hcl' hcnt' hI' hch hc c1 ht1 ha'
        exact ⟨ρ2, L2, w2, tmps2, c2, ht2, e1.trans e2, b1.trans b2, l1.trans (Nat.le_refl _) l2, hn2, hst.trans hst2⟩
      · -- the next one that touches it
        cases es with
        | nil => cases hin
        | cons e es' =>
          have hje : ((j, o) : Num) = e := by
            rcases List.mem_cons.1 hin with h | h
            · exact h
            · obtain ⟨z, hz, hb⟩ := chain_mem _ _ _ hI.chain _ h
              have h1 := hbit z.1 hb
              have h2 := (hI.esI z hz).2.1
              rw [h1] at h2; cases h2
          subst hje
          have hqf := (hI.esI _ List.mem_cons_self).2.2
          have go : ∀ (v : Nat) (H1 : Trie) (n1 : Nat), ((wantedE ops Tt o = true ∧ opE P call Tt H n o.op = .ok v H1 n1) ∨ (wantedE ops Tt o = false ∧ v = 0 ∧ H1 = H ∧ n1 = n)) →
              (setD nt T o.dst v fun T2 => drawE P call nt ops M es' xs (filt (fun x => sel (bitE (getW M j) x.1) false true) recs) T2 H1 n1) = .ok T' H' n' →
              ∃ ρ' L' w' tmps', Ctx base H' n' ρ' L' w' ∧ TR ρ' L' nt T' tmps' ∧ Ext ρ L ρ' L' ∧ Below base w w' ∧ Loc H n ρ L ρ' L' ∧ n ≤ n' ∧
                Steps P (lone (mkF f tmps ds (.inRegion ops (j :: Region.linearise.go .any ops fuel tt' (ls.setIfInBounds j true) []) :: k)) cs w) (lone (mkF f tmps' ds (.inRegion ops [] :: k)) cs w') := by
            intro v H1 n1 hv hsd
            obtain ⟨T2, hd1, hd2, hd3⟩ := setD_inv hsd (by simp)
            obtain ⟨ρ1, L1, w1, tmps1, c1, ht1, e1, b1, l1, hn1, hst⟩ := op_step hcall (Region.linearise.go .any ops fuel tt' (ls.setIfInBounds j true) []) f ds k cs ho c ht hv fun d hd => ⟨(hd3 d hd).2.1, (hd3 d hd).2.2⟩
            obtain ⟨T3, xs1, recs1, p1, p2, p3, p4, p5, p6⟩ := phase_inv hd1
            have hI' : Inv ops M (ls.setIfInBounds j true) es' xs1 recs1 := by
              refine ⟨fun i o' ho' hno => ?_, fun x hx => ?_, fun x hx => ?_, fun x hx => ?_, chain_weak _ _ (chain_tail hI.chain)⟩
              · obtain ⟨hno', hne⟩ := hund i hno
                have := hI.cov i o' ho' hno'
                rcases this with h | h | h
                · have hb : bitE (getW M j) i ≠ true := fun hb => by have := hbit i hb; rw [hno'] at this; cases this
                  rcases p3 (i, o') (.inl ((mem_filt _ _ _).2 ⟨h, by simp [hb, sel_false]⟩)) with h | h
                  · exact .inl h
                  · exact .inr (.inr h)
                · rcases List.mem_cons.1 h with h | h
                  · injection h with h1 h2; exact absurd h1 hne
                  · exact .inr (.inl h)
                · rcases p3 (i, o') (.inr h) with h | h
                  · exact .inl h
                  · exact .inr (.inr h)
              · obtain ⟨a1, a2, a3⟩ := hI.esI x (List.mem_cons_of_mem _ hx)
                refine ⟨a1, hund' _ a2 ?_, a3⟩
                intro hxj
                obtain ⟨z, hz, hb⟩ := chain_mem _ _ _ hI.chain _ hx
                rw [hxj] at hb
                have h1 := hbit z.1 hb
                have h2 := (hI.esI z hz).2.1
                rw [h1] at h2; cases h2
              · rcases p4 x hx with h | h
                · exact hI.recsI x ((mem_filt _ _ _).1 h).1
                · exact ⟨(hI.xsI x h).1, (hI.xsI x h).2.1⟩
              · obtain ⟨h1, h2⟩ := p5 x hx
                exact ⟨(hI.xsI x h1).1, (hI.xsI x h1).2.1, h2⟩
            have ha' : Agr ops (ls.setIfInBounds j true) (putW Tt o.dst v) T3 := by
              intro t ht2
              have h3 : getW T3 t = getW T2 t := p6 t fun x hx => by
                refine ht2 x.1 x.2 (hI.xsI x hx).1 (hund' _ (hxund x hx) ?_)
                intro hxj
                have h1 := (hI.xsI x hx).2.1
                have h2 := (hI.xsI x hx).1
                rw [hxj, ho] at h2; injection h2 with h2
                rw [← h2, hqf] at h1; cases h1
              rw [h3]
              by_cases hdt : o.dst = some t
              · rw [hdt, putW_same (hd3 t hdt).2.2]; exact (hd3 t hdt).1.symm
              · rw [putW_ne (fun d hd => (hd3 d hd).2.2) hdt, hd2 t hdt]; exact agr1 t ht2 hdt
            obtain ⟨ρ2, L2, w2, tmps2, c2, ht2, e2, b2, l2, hn2, hst2⟩ := ih tt' _ es' xs1 recs1 T3 H1 n1 _ tmps1 ρ1 L1 w1 hcl' hcnt' hI' p1 p2 c1 ht1 ha'
            exact ⟨ρ2, L2, w2, tmps2, c2, ht2, e1.trans e2, b1.trans b2, l1.trans hn1 l2, Nat.le_trans hn1 hn2, hst.trans hst2⟩
          have hc' : sel (wantedE ops T o)
              (match opE P call T H n o.op with | .ok v H' n' => setD nt T o.dst v fun T2 => drawE P call nt ops M es' xs (filt (fun x => sel (bitE (getW M j) x.1) false true) recs) T2 H' n' | .bad q => .bad q)
              (setD nt T o.dst 0 fun T2 => drawE P call nt ops M es' xs (filt (fun x => sel (bitE (getW M j) x.1) false true) recs) T2 H n) = .ok T' H' n' := hc
          rw [sel_eq] at hc'
          split at hc'
          · rename_i hw1
            split at hc'
            · rename_i v H1 n1 hv
              exact go v H1 n1 (.inl ⟨by rw [hw]; exact hw1, by rw [hop]; exact hv⟩) hc'
            · cases hc'
          · rename_i hw1
            exact go 0 H n (.inr ⟨by rw [hw]; simpa using hw1, rfl, rfl, rfl⟩) hc'
      · obtain ⟨_, _, e, es', he, hb⟩ := hI.xsI _ hin
        have h1 := hbit e.1 hb
        have h2 := (hI.esI e (by rw [he]; exact List.mem_cons_self)).2.1
        rw [h1] at h2; cases h2

theorem st_drawn {f : FFix} {tmps : Array Value} {ds : List Deferred} {k : List Item} {cs : List Frame} {w : World} {id : Nat} (hm : P.follows .mixedOrders = true) :
    Steps P (lone (mkF f tmps ds (.code (.region id ops true) :: k)) cs w)
      (lone (mkF f tmps ds (.inRegion ops (Region.linearise.go .any ops ops.size (w.tape w.drawn (.order f.fn id)) (Array.replicate ops.size false) []) :: k)) cs { w with drawn := w.drawn + 1 }) := by
  refine .one (step_lone_go ?_)
  simp [stepG, stepG.exec, mkF, choose, Sem.run, Question.forced, Question.cut, Region.schedule, hm, Region.linearise]

theorem drawR_sound (hcall : CallS P call) (f : FFix) (ds : List Deferred) (k : List Item) (cs : List Frame) {T n : Nat} {H : Trie} {tmps : Array Value} {ρ : Rho} {L : Look} {w : World} (h : drawR P call nt ops T H n = .ok T' H' n') (c : Ctx base H n ρ L w) (ht : TR ρ L nt T tmps) :
    P.follows .mixedOrders = true ∧ ∀ tt, ∃ ρ' L' w' tmps', Ctx base H' n' ρ' L' w' ∧ TR ρ' L' nt T' tmps' ∧ Ext ρ L ρ' L' ∧ Below base w w' ∧ Loc H n ρ L ρ' L' ∧ n ≤ n' ∧
      Steps P (lone (mkF f tmps ds (.inRegion ops (Region.linearise.go .any ops ops.size tt (Array.replicate ops.size false) []) :: k)) cs w) (lone (mkF f tmps' ds (.inRegion ops [] :: k)) cs w') := by
  unfold drawR at h
  simp only at h
  rw [sel_eq] at h
  split at h
  · rename_i h1
    rw [sel_eq] at h1
    split at h1
    · rename_i hm
      refine ⟨hm, fun tt => ?_⟩
      obtain ⟨hs, hch⟩ := stat_of h1
      obtain ⟨T1, xs1, recs1, p1, p2, p3, p4, p5, p6⟩ := phase_inv h
      have hdn : ∀ i, dn (Array.replicate ops.size false) i = false := by
        intro i
        unfold dn
        by_cases hi : i < ops.size
        · simp [Array.getD, hi]
        · simp [Array.getD, hi]
      have hcl : Closed ops (Array.replicate ops.size false) := ⟨by simp, fun i o ho hd => by rw [hdn] at hd; cases hd⟩
      have hidx : ∀ i o, ((i, o) : Num) ∈ idxE ops.toList 0 ↔ ops[i]? = some o := by
        intro i o
        rw [mem_idxE]
        constructor
        · rintro ⟨j, h1, h2⟩; simp at h1 h2; rw [h2]; exact h1
        · intro h; exact ⟨i, by simpa using h, by simp⟩
      refine go_sound hcall hs (maskOk ops) f ds k cs ops.size tt _ _ xs1 recs1 T1 H n T tmps ρ L w hcl ?_ ?_ p1 p2 c ht ?_
      · unfold cnt; exact Nat.le_trans List.countP_le_length (by simp)
      · refine ⟨fun i o ho _ => ?_, fun x hx => ?_, fun x hx => ?_, fun x hx => ?_, hch⟩
        · cases hq : quietOp o.op with
          | true =>
            rcases p3 (i, o) (.inr ((mem_filt _ _ _).2 ⟨(hidx i o).2 ho, hq⟩)) with h | h
            · exact .inl h
            · exact .inr (.inr h)
          | false => exact .inr (.inl ((mem_filt _ _ _).2 ⟨(hidx i o).2 ho, by simp [hq, sel_false]⟩))
        · obtain ⟨a, b⟩ := (mem_filt _ _ _).1 hx
          refine ⟨(hidx _ _).1 a, hdn _, ?_⟩
          cases hq : quietOp x.2.op with
          | true => rw [hq, sel_true] at b; cases b
          | false => rfl
        · rcases p4 x hx with h | h
          · cases h
          · obtain ⟨a, b⟩ := (mem_filt _ _ _).1 h
            exact ⟨(hidx _ _).1 a, b⟩
        · obtain ⟨h1, h2⟩ := p5 x hx
          obtain ⟨a, b⟩ := (mem_filt _ _ _).1 h1
          exact ⟨(hidx _ _).1 a, b, h2⟩
      · intro t ht2
        exact (p6 t fun x hx => by
          obtain ⟨a, b⟩ := (mem_filt _ _ _).1 hx
          exact ht2 x.1 x.2 ((hidx _ _).1 a) (hdn _)).symm
    · cases h1
  · cases h
end
end Go.Eng
