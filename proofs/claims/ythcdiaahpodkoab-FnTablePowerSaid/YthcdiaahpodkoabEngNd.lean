/- Regions that draw their order: the whole. -/
import Derived.Test.YthcdiaahpodkoabEngNc
namespace Go.Eng
set_option linter.unusedSectionVars false
set_option linter.unusedSimpArgs false
set_option linter.unusedVariables false
open Go Go.RowKit
variable [E : Env]

theorem lin_cases (ops : Array Oper) (fuel t : Nat) (ls : Array Bool) :
    (Region.ready .any ops ls = [] ∧ Region.linearise.go .any ops (fuel + 1) t ls [] = []) ∨
    ∃ i t', i ∈ Region.ready .any ops ls ∧ Region.linearise.go .any ops (fuel + 1) t ls [] = i :: Region.linearise.go .any ops fuel t' (ls.setIfInBounds i true) [] := by
  simp only [Region.linearise.go]
  change (_ ∧ (match (Region.ready .any ops ls)[t % (Region.ready .any ops ls).length]? with
      | some i => Region.linearise.go .any ops fuel (t / (Region.ready .any ops ls).length) (ls.setIfInBounds i true) [i]
      | none => [].reverse) = _) ∨ ∃ i t', _ ∧ (match (Region.ready .any ops ls)[t % (Region.ready .any ops ls).length]? with
      | some i => Region.linearise.go .any ops fuel (t / (Region.ready .any ops ls).length) (ls.setIfInBounds i true) [i]
      | none => [].reverse) = _
  cases hi : (Region.ready .any ops ls)[t % (Region.ready .any ops ls).length]? with
  | none =>
    left
    refine ⟨?_, rfl⟩
    cases hr : Region.ready .any ops ls with
    | nil => rfl
    | cons x xs =>
      rw [hr] at hi
      have hlt : t % (x :: xs).length < (x :: xs).length := Nat.mod_lt _ (by simp)
      simp at hi
      simp at hlt
      omega
  | some i =>
    right
    refine ⟨i, t / (Region.ready .any ops ls).length, List.mem_of_getElem? hi, ?_⟩
    simp only
    rw [linearise_go_acc, List.reverse_singleton, List.singleton_append]

section
variable {base : Nat} {H' : Trie} {n' nt T' M : Nat} {P : Program} {ops : Array Oper} {call : Nat → List Nat → Trie → Nat → OR}

structure Inv (ops : Array Oper) (M R : Nat) (ls : Array Bool) (es xs recs : List Num) : Prop where
  cov : ∀ i o, ops[i]? = some o → dn ls i = false → ((i, o) : Num) ∈ recs ∨ ((i, o) : Num) ∈ es ∨ ((i, o) : Num) ∈ xs
  esI : ∀ x ∈ es, ops[x.1]? = some x.2 ∧ dn ls x.1 = false ∧ softX R x = false
  recsI : ∀ x ∈ recs, ops[x.1]? = some x.2 ∧ softX R x = true
  xsI : ∀ x ∈ xs, ops[x.1]? = some x.2 ∧ softX R x = true ∧ ∃ e es', es = e :: es' ∧ bitE (getW M x.1) e.1 = true
  chain : chainE M es 0 = true
  dis : ∀ x ∈ recs, ∀ y ∈ xs, y.1 ≠ x.1

/-- Rows that the evaluator has made and the machine has not: no place. -/
def Bare (ops : Array Oper) (ls : Array Bool) (T n0 : Nat) (ρ : Rho) (recs : List Num) : Prop :=
  ∀ x ∈ recs, dn ls x.1 = false → allocOp x.2.op = true → wantedE ops T x.2 = true → ρ (idE T x) = none ∧ n0 ≤ idE T x
def Dist (ops : Array Oper) (T : Nat) (recs : List Num) : Prop :=
  ∀ x ∈ recs, ∀ y ∈ recs, allocOp x.2.op = true → wantedE ops T x.2 = true → allocOp y.2.op = true → wantedE ops T y.2 = true → idE T x = idE T y → x.1 = y.1

theorem soft_of {R : Nat} {x : Num} (h : softX R x = true) : Soft x.2.op := by
  unfold softX effX at h
  cases hh : hardE R x with
  | true => rw [hh] at h; cases h
  | false =>
    rw [hh, sel_false] at h
    unfold effOp at h
    cases hq : quietOp x.2.op with
    | true => exact .inl hq
    | false =>
      cases ha : allocOp x.2.op with
      | true => exact .inr ha
      | false => rw [hq, ha] at h; cases h
theorem eff_of {R : Nat} {x : Num} (h : effX R x = true) : softX R x = false := by unfold softX; rw [h]; rfl
theorem alloc_word {op : Op} {T : Nat} {H H1 : Trie} {n n1 v : Nat} (ha : allocOp op = true) (h : opE P call T H n op = .ok v H1 n1) : v ≠ 0 := by
  have tg : ∀ {k : Nat}, tagOf v = k → k ≠ 0 → v ≠ 0 := fun h1 h2 h3 => by rw [h3] at h1; exact h2 h1.symm
  cases op with
  | alloc t =>
    simp only [opE_eq, opX] at h
    rw [sel_eq] at h
    split at h
    · have h := sel_ok h
      obtain ⟨hn, hk⟩ := fresh_info h (by simp)
      injection hk with h1 h2 h3
      exact tg (k := 3) (by rw [← h1]; exact tag_wP _ _) (by decide)
    · obtain ⟨_, _, _, _, _, h1⟩ := allocA_shape h
      exact tg (k := 3) (by rw [h1]; exact tag_wP _ _) (by decide)
  | box t x =>
    simp only [opE_eq, opX] at h
    rw [sel_eq] at h
    split at h
    · obtain ⟨hn, hk⟩ := fresh_info h (by simp)
      injection hk with h1 h2 h3
      exact tg (k := 3) (by rw [← h1]; exact tag_wP _ _) (by decide)
    · obtain ⟨_, _, _, _, _, h1⟩ := boxA_shape h
      exact tg (k := 3) (by rw [h1]; exact tag_wP _ _) (by decide)
  | buildSlice t len ps =>
    simp only [opE_eq, opX] at h
    obtain ⟨e, hu, _, h⟩ := telem_inv h rfl (by simp)
    rw [sel_eq] at h
    split at h
    · have h := sel_ok (sel_ok h)
      split at h
      · obtain ⟨hn, hk⟩ := fresh_info h (by simp)
        injection hk with h1 h2 h3
        exact tg (k := 4) (by rw [← h1]; exact tag_wS _ _ _ _ _) (by decide)
      · cases h
    · obtain ⟨_, _, _, _, _, h1⟩ := buildSliceA_shape h
      exact tg (k := 4) (by rw [h1]; exact tag_wS _ _ _ _ _) (by decide)
  | makeSlice t l c =>
    simp only [opE_eq, opX] at h
    obtain ⟨e, hu, _, h⟩ := telem_inv h rfl (by simp)
    have h := sel_ok (sel_ok h)
    obtain ⟨_, h⟩ := isI_inv h (by simp)
    obtain ⟨_, h⟩ := isI_inv h (by simp)
    have h := sel_ok (sel_ok (sel_ok h))
    obtain ⟨hn, hk⟩ := fresh_info h (by simp)
    injection hk with h1 h2 h3
    exact tg (k := 4) (by rw [← h1]; exact tag_wS _ _ _ _ _) (by decide)
  | _ => cases ha

theorem sameBlk_inv {a b : Option Blk} {n c g k s m : Nat} (h : sameBlk a b = true) (ha : a = some (.cells n c g k s m)) : b = some (.cells n c g k s m) := by
  subst ha
  unfold sameBlk at h
  split at h
  · rename_i n1 c1 g1 k1 s1 m1 n2 c2 g2 k2 s2 m2 e1
    injection e1 with e1; injection e1 with e1 e2 e3 e4 e5 e6
    subst e1; subst e2; subst e3; subst e4; subst e5; subst e6
    rw [sel_beq, sel_beq, sel_beq, sel_beq, sel_beq] at h
    split at h
    · rename_i q1
      split at h
      · rename_i q2
        split at h
        · rename_i q3
          split at h
          · rename_i q4
            split at h
            · rename_i q5
              have q6 := Nat.eq_of_beq_eq_true h
              subst q1; subst q2; subst q3; subst q4; subst q5; subst q6
              rfl
            · cases h
          · cases h
        · cases h
      · cases h
    · cases h
  · cases h

/-- What the check of a row shows. -/
theorem chkA_inv {T : Nat} {H : Trie} {x : Num} (ha : allocOp x.2.op = true) (hd16 : Dep 14 H) (h : chkA P call nt T H x = true) :
    ∃ d H1 n1 len ch, x.2.dst = some d ∧ d < nt ∧ idE T x = blkOf (getW T d) ∧ opE P call T H (idE T x) x.2.op = .ok (getW T d) H1 n1 ∧ H1 = hset H (idE T x) (.cells len ch (idE T x + 1) (idE T x) (idE T x) len) ∧
      tget H (idE T x) = some (.cells len ch (idE T x + 1) (idE T x) (idE T x) len) ∧ getW T d ≠ 0 := by
  unfold chkA at h
  cases hdst : x.2.dst with
  | none => rw [hdst] at h; cases h
  | some d =>
    have hid : idE T x = blkOf (getW T d) := by unfold idE; rw [hdst]
    rw [hdst] at h
    simp only at h
    rw [sel_ltb] at h
    split at h
    · rename_i hdn
      rw [← hid] at h
      split at h
      · rename_i w H1 n1 hop
        rw [sel_beq] at h
        split at h
        · rename_i hw
          subst hw
          obtain ⟨len, ch, h1, h2, h3⟩ := alloc_shape ha hop
          refine ⟨d, H1, n1, len, ch, rfl, hdn, hid, hop, h1, ?_, ?_⟩
          · refine sameBlk_inv h ?_
            rw [h1, tget_hset hd16 h3, if_pos rfl]
          · intro hz
            rw [hz] at hop
            have := alloc_word ha hop
            exact this rfl
        · cases h
      · cases h
    · cases h

theorem go_sound {R : Nat} (hcall : CallS P call) (hs : Stat ops M R) (hM : MaskOk ops M) (f : FFix) (ds : List Deferred) (k : List Item) (cs : List Frame) (n0 : Nat) : ∀ (fuel tt : Nat) (ls : Array Bool) (es xs recs : List Num) (T : Nat) (H : Trie) (n Tt : Nat) (tmps : Array Value) (ρ : Rho) (L : Look) (w : World),
    Closed ops ls → cnt ops ls ≤ fuel → Inv ops M R ls es xs recs → chkE P call nt ops T H n recs = true → Dist ops T recs → Bare ops ls T n0 ρ recs → n0 ≤ n → cont P call nt ops M es xs recs T H n = .ok T' H' n' →
    Ctx base H n ρ L w → TR ρ L nt Tt tmps → Agr ops R ls Tt T →
    ∃ ρ' L' w' tmps', Ctx base H' n' ρ' L' w' ∧ TR ρ' L' nt T' tmps' ∧ Ext ρ L ρ' L' ∧ Below base w w' ∧ Loc H n0 ρ L ρ' L' ∧ n ≤ n' ∧
      Steps P (lone (mkF f tmps ds (.inRegion ops (Region.linearise.go .any ops fuel tt ls []) :: k)) cs w) (lone (mkF f tmps' ds (.inRegion ops [] :: k)) cs w') := by
  intro fuel
  have fin : ∀ (ls : Array Bool) (es xs recs : List Num) (T : Nat) (H : Trie) (n Tt : Nat) (tmps : Array Value) (ρ : Rho) (L : Look) (w : World),
      (∀ i, i < ops.size → dn ls i = true) → Inv ops M R ls es xs recs → cont P call nt ops M es xs recs T H n = .ok T' H' n' →
      Ctx base H n ρ L w → TR ρ L nt Tt tmps → Agr ops R ls Tt T →
      ∃ ρ' L' w' tmps', Ctx base H' n' ρ' L' w' ∧ TR ρ' L' nt T' tmps' ∧ Ext ρ L ρ' L' ∧ Below base w w' ∧ Loc H n0 ρ L ρ' L' ∧ n ≤ n' ∧
      Steps P (lone (mkF f tmps ds (.inRegion ops [] :: k)) cs w) (lone (mkF f tmps' ds (.inRegion ops [] :: k)) cs w') := by
    intro ls es xs recs T H n Tt tmps ρ L w hd hI hc c ht ha
    cases es with
    | cons e es' =>
      obtain ⟨h1, h2, _⟩ := hI.esI e List.mem_cons_self
      rw [hd e.1 (Array.getElem?_eq_some_iff.1 h1).1] at h2
      cases h2
    | nil =>
      have hc' : RR.ok T H n = .ok T' H' n' := hc
      injection hc' with a1 a2 a3
      subst a1; subst a2; subst a3
      refine ⟨ρ, L, w, tmps, c, ⟨ht.1, fun t => ?_⟩, .refl _ _, Below.refl _ _, .refl _ _ _ _, Nat.le_refl _, Steps.refl _ _⟩
      rw [← ha t fun i o ho hno _ => by rw [hd i (Array.getElem?_eq_some_iff.1 ho).1] at hno; cases hno]
      exact ht.2 t
  induction fuel with
  | zero =>
    intro tt ls es xs recs T H n Tt tmps ρ L w hcl hcnt hI hch hdist hbare hn0 hc c ht ha
    have h0 : Region.linearise.go .any ops 0 tt ls [] = [] := rfl
    rw [h0]
    exact fin ls es xs recs T H n Tt tmps ρ L w (cnt_zero hcnt) hI hc c ht ha
  | succ fuel ih =>
    intro tt ls es xs recs T H n Tt tmps ρ L w hcl hcnt hI hch hdist hbare hn0 hc c ht ha
    rcases lin_cases ops fuel tt ls with ⟨hr, hg⟩ | ⟨j, tt', hj, hg⟩
    · rw [hg]
      exact fin ls es xs recs T H n Tt tmps ρ L w (all_done hs hcl hr) hI hc c ht ha
    · obtain ⟨hjd, o, ho, hpre⟩ := (ready_iff hcl j).1 hj
      have hbit : ∀ i, bitE (getW M j) i = true → dn ls i = true := fun i hb => hM ls hcl j o ho hpre i hb
      have hopd : ∀ d, (d ∈ tmpsOf o.op.operands.toList ∨ d ∈ guardT ops o) → getW Tt d = getW T d := fun d hd => ha d fun i o' ho' hno hso hdst => by
        have := hbit i (hs.reads j o d i o' ho hd ho' hso hdst)
        rw [hno] at this; cases this
      have hw : wantedE ops Tt o = wantedE ops T o := wantedE_congr fun d hd => hopd d (.inr hd)
      have hop : opE P call Tt H n o.op = opE P call T H n o.op := opE_congr fun x hx => ev_of_tmps (fun d hd => hopd d (.inl hd)) x (by simpa using hx)
      have hcl' := hcl.set ho hpre
      have hcnt' : cnt ops (ls.setIfInBounds j true) ≤ fuel := by have := cnt_set hcl ho hjd; omega
      have hjs : j < ls.size := by rw [hcl.size]; exact (Array.getElem?_eq_some_iff.1 ho).1
      have hund : ∀ i, dn (ls.setIfInBounds j true) i = false → dn ls i = false ∧ i ≠ j := by
        intro i hi
        rw [dn_set hjs] at hi
        split at hi
        · cases hi
        · exact ⟨hi, by assumption⟩
      have hund' : ∀ i, dn ls i = false → i ≠ j → dn (ls.setIfInBounds j true) i = false := by
        intro i hi hne
        rw [dn_set hjs, if_neg hne]; exact hi
      have agr1 : ∀ t, (∀ i o', ops[i]? = some o' → dn (ls.setIfInBounds j true) i = false → softX R (i, o') = true → o'.dst ≠ some t) → o.dst ≠ some t → getW Tt t = getW T t := by
        intro t h1 h2
        refine ha t fun i o' ho' hno hso => ?_
        by_cases hij : i = j
        · subst hij; rw [ho] at ho'; injection ho' with ho'; subst ho'; exact h2
        · exact h1 i o' ho' (hund' i hno hij) hso
      rw [hg]
      have hxund : ∀ x ∈ xs, dn ls x.1 = false := by
        intro x hx
        obtain ⟨hxo, _, e, es', he, hb⟩ := hI.xsI x hx
        cases hd : dn ls x.1 with
        | false => rfl
        | true =>
          have h1 := hM ls hcl x.1 x.2 hxo (hcl.clo _ _ hxo hd) e.1 hb
          have h2 := (hI.esI e (by rw [he]; exact List.mem_cons_self)).2.1
          rw [h1] at h2; cases h2
      rcases hI.cov j o ho hjd with hin | hin | hin
      · -- an operation that leaves the heap alone, or one that makes a row
        have hsx := (hI.recsI _ hin).2
        have hsoft : Soft o.op := soft_of hsx
        have hchk := (allE_iff _ _).1 hch _ hin
        have hI' : Inv ops M R (ls.setIfInBounds j true) es xs recs := by
          refine ⟨fun i o' ho' hno => hI.cov i o' ho' (hund i hno).1, fun x hx => ?_, hI.recsI, hI.xsI, hI.chain, hI.dis⟩
          obtain ⟨a1, a2, a3⟩ := hI.esI x hx
          refine ⟨a1, hund' _ a2 ?_, a3⟩
          intro hxj
          rw [hxj, ho] at a1; injection a1 with a1
          have : x = (j, o) := by rw [a1, ← hxj]
          rw [this] at a3; rw [hsx] at a3; cases a3
        rw [sel_eq] at hchk
        -- a step that leaves the evaluator's side alone
        have quiet : ∀ v : Nat, ((wantedE ops Tt o = true ∧ opE P call Tt H n o.op = .ok v H n) ∨ (wantedE ops Tt o = false ∧ v = 0 ∧ H = H ∧ n = n)) → dstIs nt T o.dst v = true →
            ∃ ρ' L' w' tmps', Ctx base H' n' ρ' L' w' ∧ TR ρ' L' nt T' tmps' ∧ Ext ρ L ρ' L' ∧ Below base w w' ∧ Loc H n0 ρ L ρ' L' ∧ n ≤ n' ∧
              Steps P (lone (mkF f tmps ds (.inRegion ops (j :: Region.linearise.go .any ops fuel tt' (ls.setIfInBounds j true) []) :: k)) cs w) (lone (mkF f tmps' ds (.inRegion ops [] :: k)) cs w') := by
          intro v hv hdst
          have hdi := dstIs_inv hdst
          obtain ⟨ρ1, L1, w1, tmps1, c1, ht1, e1, b1, l1, _, hst⟩ := op_step hcall (Region.linearise.go .any ops fuel tt' (ls.setIfInBounds j true) []) f ds k cs ho c ht hv fun d hd => ⟨(hdi d hd).2.1, (hdi d hd).2.2⟩
          have ha' : Agr ops R (ls.setIfInBounds j true) (putW Tt o.dst v) T := by
            intro t ht2
            by_cases hdt : o.dst = some t
            · rw [hdt, putW_same (hdi t hdt).2.2]; exact (hdi t hdt).1.symm
            · rw [putW_ne (fun d hd => (hdi d hd).2.2) hdt]; exact agr1 t ht2 hdt
          have hbare1 : Bare ops (ls.setIfInBounds j true) T n0 ρ1 recs := fun x hx hdx hax hwx => by
            obtain ⟨a1, a2⟩ := hbare x hx (hund _ hdx).1 hax hwx
            have hcx := (allE_iff _ _).1 hch _ hx
            rw [hwx, sel_true, hax, sel_true] at hcx
            obtain ⟨_, _, _, _, _, _, _, _, _, _, hg, _⟩ := chkA_inv hax c.agree.1 hcx
            exact ⟨(l1.bare _ (c.fresh.ltL (c.agree.2 _ _ hg)) a1).2, a2⟩
          obtain ⟨ρ2, L2, w2, tmps2, c2, ht2, e2, b2, l2, hn2, hst2⟩ := ih tt' _ es xs recs T H n _ tmps1 ρ1 L1 w1 hcl' hcnt' hI' hch hdist hbare1 hn0 hc c1 ht1 ha'
          exact ⟨ρ2, L2, w2, tmps2, c2, ht2, e1.trans e2, b1.trans b2, Loc.trans (⟨fun b hb hbn => l1.bare b (Nat.lt_of_lt_of_le hb hn0) hbn⟩ : Loc H n0 ρ L ρ1 L1) (Nat.le_refl _) l2, hn2, hst.trans hst2⟩
        split at hchk
        · rename_i hw1
          rw [sel_eq] at hchk
          split at hchk
          · -- a row is made now
            rename_i hal
            obtain ⟨d, H1, n1, len, ch, hd, hdn, hid, hopT, hH1, hget, hv0⟩ := chkA_inv hal c.agree.1 hchk
            have hid' : idE T (j, o) = blkOf (getW T d) := hid
            have hop' : opE P call Tt H (idE T (j, o)) o.op = .ok (getW T d) H1 n1 := by
              rw [show opE P call Tt H (idE T (j, o)) o.op = opE P call T H (idE T (j, o)) o.op from opE_congr fun x hx => ev_of_tmps (fun d hd => hopd d (.inl hd)) x (by simpa using hx)]
              exact hopT
            obtain ⟨len', ch', cells, ty, X, hm1, hm2, hm3, hm4, hm5, hm6, hm7⟩ := makes c ht hal hop'
            generalize hgi : idE T (j, o) = i at *
            have hLi : L i = some (.cells len ch (i + 1) i i len) := c.agree.2 _ _ hget
            have hsame : len' = len ∧ ch' = ch := by
              have h1 : tget H1 i = some (.cells len ch (i + 1) i i len) := by rw [hH1, tget_hset c.agree.1 hm3, if_pos rfl]
              rw [hm1, tget_hset c.agree.1 hm3, if_pos rfl] at h1
              injection h1 with h1; injection h1 with h1 h2
              exact ⟨h1, h2⟩
            obtain ⟨rfl, rfl⟩ := hsame
            have hlt : i < n := c.fresh.ltL hLi
            obtain ⟨hρ, hn0i⟩ := hbare _ hin hjd hal hw1
            rw [hgi] at hρ hn0i
            obtain ⟨c1, e1⟩ := c.made (w' := { w with heap := w.heap.push (.cells cells ty) }) hlt hρ hLi rfl hm4 hm5
            have hbs := c.sim.bs
            have hv128 : getW T d < 2 ^ 128 := getW_lt _ _
            have ht1 : TR (updR ρ i (w.heap.size, 0, cells.size)) L nt (putW Tt o.dst (getW T d)) (putT tmps o.dst (X w.heap.size)) :=
              (ht.mono e1).put (fun d' hd' => by rw [hd] at hd'; injection hd' with hd'; subst hd'; exact ⟨hdn, hv128⟩) (hm7 _ _ _ (updR_same _ _ _))
            have ha' : Agr ops R (ls.setIfInBounds j true) (putW Tt o.dst (getW T d)) T := by
              intro t ht2
              by_cases hdt : o.dst = some t
              · have : d = t := by have h5 := hd; simp only at h5; rw [hdt] at h5; injection h5 with h5; exact h5.symm
                subst this
                rw [hdt, putW_same hv128]
              · rw [putW_ne (fun _ _ => hv128) hdt]; exact agr1 t ht2 hdt
            have hbare1 : Bare ops (ls.setIfInBounds j true) T n0 (updR ρ i (w.heap.size, 0, cells.size)) recs := fun x hx hdx hax hwx => by
              obtain ⟨hdx1, hdx2⟩ := hund _ hdx
              obtain ⟨a1, a2⟩ := hbare x hx hdx1 hax hwx
              refine ⟨?_, a2⟩
              rw [updR_ne _ _ ?_]
              · exact a1
              · intro heq
                exact hdx2 (hdist x hx (j, o) hin hax hwx hal hw1 (by rw [hgi]; exact heq))
            obtain ⟨ρ2, L2, w2, tmps2, c2, ht2, e2, b2, l2, hn2, hst2⟩ := ih tt' _ es xs recs T H n _ _ _ L _ hcl' hcnt' hI' hch hdist hbare1 hn0 hc c1 ht1 ha'
            refine ⟨ρ2, L2, w2, tmps2, c2, ht2, e1.trans e2, Below.trans (show Below base w { w with heap := w.heap.push (.cells cells ty) } from ⟨rfl, rfl, rfl, by simp, fun b hb => by rw [Array.getElem?_push, if_neg (by omega)]⟩) b2, Loc.trans (⟨fun b hb hbn => ⟨rfl, by rw [updR_ne _ _ (by omega)]; exact hbn⟩⟩ : Loc H n0 ρ L _ L) (Nat.le_refl _) l2, hn2, ?_⟩
            rw [wanted_sound ht o] at hw
            rw [hw1] at hw
            exact (st_op ho hw (opE_notDefer (o := o) hop') (.value (hm6 w))).trans hst2
          · rename_i hal
            have hq : quietOp o.op = true := by
              rcases hsoft with h | h
              · exact h
              · exact absurd h hal
            split at hchk
            · rename_i v H2 n2 hv
              rcases quiet_box hq hv with ⟨rfl, rfl⟩ | ⟨kb, hkb, rfl, rfl, hnlt⟩
              · rw [sel_beq, if_pos rfl] at hchk
                exact quiet v (.inl ⟨by rw [hw]; exact hw1, by rw [hop]; exact hv⟩) hchk
              · -- a box is made: that which was made ahead serves
                rw [sel_beq, if_neg (by omega)] at hchk
                have hv' : opE P call Tt H n o.op = .ok v (hset H n kb) (n + 1) := by rw [hop]; exact hv
                obtain ⟨x, hcx, hdo⟩ := calm_sound (cfr := mkF f tmps ds (.inRegion ops (j :: Region.linearise.go .any ops fuel tt' (ls.setIfInBounds j true) []) :: k)) (ccs := cs) c ht hq hv'
                rcases hcx with ⟨_, hbad, _⟩ | ⟨kb', hkb', e1, _, _, rfl, hvr⟩
                · omega
                have hkk : kb' = kb := by
                  have h1 : tget (hset H n kb) n = some kb := by rw [tget_hset c.agree.1 hnlt, if_pos rfl]
                  rw [e1, tget_hset c.agree.1 hnlt, if_pos rfl] at h1
                  injection h1
                subst hkk
                have hdi := dstBox_inv hkb' c.agree.1 hnlt hchk
                have hst : ∃ tmps1 Tt1, TR ρ L nt Tt1 tmps1 ∧ Agr ops R (ls.setIfInBounds j true) Tt1 T ∧
                    Steps P (lone (mkF f tmps ds (.inRegion ops (j :: Region.linearise.go .any ops fuel tt' (ls.setIfInBounds j true) []) :: k)) cs w) (lone (mkF f tmps1 ds (.inRegion ops (Region.linearise.go .any ops fuel tt' (ls.setIfInBounds j true) []) :: k)) cs w) := by
                  cases hdst : o.dst with
                  | none =>
                    have hw2 := hw1
                    rw [← hw, wanted_sound ht o] at hw2
                    have hst := st_op ho hw2 (opE_notDefer (o := o) hv') hdo
                    rw [hdst] at hst
                    exact ⟨tmps, Tt, ht, fun t ht2 => agr1 t ht2 (by rw [hdst]; simp), hst⟩
                  | some d =>
                    obtain ⟨hdn, id, hid, hg⟩ := hdi d hdst
                    have hlt : getW T d < 2 ^ 128 := getW_lt _ _
                    have hx2 : VR ρ L (getW T d) x := by rw [hid]; exact hvr ρ L id (Ext0.refl _ _) (c.agree.2 _ _ hg)
                    obtain ⟨tmps1, ht1, hst⟩ := calm_step hcall (Region.linearise.go .any ops fuel tt' (ls.setIfInBounds j true) []) f ds k cs ho ht (by rw [hw]; exact hw1) (opE_notDefer (o := o) hv') hx2 hdo (fun d' hd' => by rw [hdst] at hd'; injection hd' with hd'; subst hd'; exact ⟨hdn, hlt⟩)
                    refine ⟨tmps1, _, ht1, fun t ht2 => ?_, hst⟩
                    by_cases hdt : o.dst = some t
                    · have : d = t := by rw [hdst] at hdt; injection hdt
                      subst this
                      rw [hdst, putW_same hlt]
                    · rw [putW_ne (fun _ _ => hlt) hdt]; exact agr1 t ht2 hdt
                obtain ⟨tmps1, Tt1, ht1, ha1, hst1⟩ := hst
                have hbare1 : Bare ops (ls.setIfInBounds j true) T n0 ρ recs := fun x hx hdx hax hwx => hbare x hx (hund _ hdx).1 hax hwx
                obtain ⟨ρ2, L2, w2, tmps2, c2, ht2, e2, b2, l2, hn2, hst2⟩ := ih tt' _ es xs recs T H n _ tmps1 ρ L w hcl' hcnt' hI' hch hdist hbare1 hn0 hc c ht1 ha1
                exact ⟨ρ2, L2, w2, tmps2, c2, ht2, e2, b2, l2, hn2, hst1.trans hst2⟩
            · cases hchk
        · rename_i hw1
          exact quiet 0 (.inr ⟨by rw [hw]; simpa using hw1, rfl, rfl, rfl⟩) hchk
      · -- the next one that touches it
        cases es with
        | nil => cases hin
        | cons e es' =>
          have hje : ((j, o) : Num) = e := by
            rcases List.mem_cons.1 hin with h | h
            · exact h
            · obtain ⟨z, hz, hb⟩ := chain_mem _ _ _ hI.chain _ h
              have h1 := hbit z.1 hb
              have h2 := (hI.esI z hz).2.1
              rw [h1] at h2; cases h2
          subst hje
          have hqf := (hI.esI _ List.mem_cons_self).2.2
          have go : ∀ (v : Nat) (H1 : Trie) (n1 : Nat), ((wantedE ops Tt o = true ∧ opE P call Tt H n o.op = .ok v H1 n1) ∨ (wantedE ops Tt o = false ∧ v = 0 ∧ H1 = H ∧ n1 = n)) →
              (setD nt T o.dst v fun T2 => drawE P call nt ops M es' xs (filt (fun x => sel (bitE (getW M j) x.1) false true) recs) T2 H1 n1) = .ok T' H' n' →
              ∃ ρ' L' w' tmps', Ctx base H' n' ρ' L' w' ∧ TR ρ' L' nt T' tmps' ∧ Ext ρ L ρ' L' ∧ Below base w w' ∧ Loc H n0 ρ L ρ' L' ∧ n ≤ n' ∧
                Steps P (lone (mkF f tmps ds (.inRegion ops (j :: Region.linearise.go .any ops fuel tt' (ls.setIfInBounds j true) []) :: k)) cs w) (lone (mkF f tmps' ds (.inRegion ops [] :: k)) cs w') := by
            intro v H1 n1 hv hsd
            obtain ⟨T2, hd1, hd2, hd3⟩ := setD_inv hsd (by simp)
            obtain ⟨ρ1, L1, w1, tmps1, c1, ht1, e1, b1, l1, hn1, hst⟩ := op_step hcall (Region.linearise.go .any ops fuel tt' (ls.setIfInBounds j true) []) f ds k cs ho c ht hv fun d hd => ⟨(hd3 d hd).2.1, (hd3 d hd).2.2⟩
            obtain ⟨T3, H3, n3, xs1, recs1, news, p1, p2, p3, p4, p5, p6, pA, pD⟩ := phase_inv (fun x hx => soft_of (hI.xsI x hx).2.1) hd1
            obtain ⟨L3, c3, e3, f3⟩ := pA.2 _ _ _ _ c1
            have hI' : Inv ops M R (ls.setIfInBounds j true) es' xs1 recs1 := by
              refine ⟨fun i o' ho' hno => ?_, fun x hx => ?_, fun x hx => ?_, fun x hx => ?_, chain_weak _ _ (chain_tail hI.chain), fun x hx y hy => ?_⟩
              · obtain ⟨hno', hne⟩ := hund i hno
                have := hI.cov i o' ho' hno'
                rcases this with h | h | h
                · have hb : bitE (getW M j) i ≠ true := fun hb => by have := hbit i hb; rw [hno'] at this; cases this
                  rcases p3 (i, o') (.inl ((mem_filt _ _ _).2 ⟨h, by simp [hb, sel_false]⟩)) with h | h
                  · exact .inl h
                  · exact .inr (.inr h)
                · rcases List.mem_cons.1 h with h | h
                  · injection h with h1 h2; exact absurd h1 hne
                  · exact .inr (.inl h)
                · rcases p3 (i, o') (.inr h) with h | h
                  · exact .inl h
                  · exact .inr (.inr h)
              · obtain ⟨a1, a2, a3⟩ := hI.esI x (List.mem_cons_of_mem _ hx)
                refine ⟨a1, hund' _ a2 ?_, a3⟩
                intro hxj
                obtain ⟨z, hz, hb⟩ := chain_mem _ _ _ hI.chain _ hx
                rw [hxj] at hb
                have h1 := hbit z.1 hb
                have h2 := (hI.esI z hz).2.1
                rw [h1] at h2; cases h2
              · rcases p4 x hx with h | h
                · exact hI.recsI x ((mem_filt _ _ _).1 h).1
                · exact ⟨(hI.xsI x h.1).1, (hI.xsI x h.1).2.1⟩
              · obtain ⟨h1, h2⟩ := p5 x hx
                exact ⟨(hI.xsI x h1).1, (hI.xsI x h1).2.1, h2⟩
              · rcases p4 x hx with h | ⟨_, h⟩
                · exact hI.dis x ((mem_filt _ _ _).1 h).1 y (p5 y hy).1
                · exact pD x h y hy
            have ha' : Agr ops R (ls.setIfInBounds j true) (putW Tt o.dst v) T3 := by
              intro t ht2
              have h3 : getW T3 t = getW T2 t := p6 t fun x hx => by
                refine ht2 x.1 x.2 (hI.xsI x hx).1 (hund' _ (hxund x hx) ?_) (hI.xsI x hx).2.1
                intro hxj
                have h1 := (hI.xsI x hx).2.1
                have h2 := (hI.xsI x hx).1
                rw [hxj, ho] at h2; injection h2 with h2
                have h3 : x = (j, o) := by rw [h2, ← hxj]
                rw [h3, hqf] at h1; cases h1
              rw [h3]
              by_cases hdt : o.dst = some t
              · rw [hdt, putW_same (hd3 t hdt).2.2]; exact (hd3 t hdt).1.symm
              · rw [putW_ne (fun d hd => (hd3 d hd).2.2) hdt, hd2 t hdt]; exact agr1 t ht2 hdt
            have hbare1 : Bare ops (ls.setIfInBounds j true) T3 n0 ρ1 recs1 := fun x hx hdx hax hwx => by
              obtain ⟨hdx1, hdx2⟩ := hund _ hdx
              rcases p4 x hx with h | ⟨h, hnew⟩
              · have hx0 := ((mem_filt _ _ _).1 h).1
                have hxo := (hI.recsI x hx0).1
                obtain ⟨d, hd, hsole⟩ := hs.sole x.1 x.2 hxo hax
                have hT : getW T3 d = getW T d := by
                  have h3 : getW T3 d = getW T2 d := p6 d fun y hy hyd => by
                    have hyo := (hI.xsI y hy).1
                    exact hI.dis x hx0 y hy (hsole y.1 y.2 hyo hyd)
                  have hdo : o.dst ≠ some d := fun hod => hdx2 (hsole j o ho hod).symm
                  rw [h3, hd2 d hdo]
                have hidT : idE T3 x = idE T x := by unfold idE; rw [hd]; simp only; rw [hT]
                have hcx3 := (allE_iff _ _).1 p1.chk _ hx
                rw [hwx, sel_true, hax, sel_true] at hcx3
                obtain ⟨d', _, _, _, _, hd', _, _, _, _, _, hne⟩ := chkA_inv hax c3.agree.1 hcx3
                rw [hd] at hd'; injection hd' with hd'; subst hd'
                rw [hT] at hne
                have hcx := (allE_iff _ _).1 hch _ hx0
                cases hwT : wantedE ops T x.2 with
                | false =>
                  rw [hwT, sel_false] at hcx
                  exact absurd (dstIs_inv hcx d hd).1 hne
                | true =>
                  rw [hwT, sel_true, hax, sel_true] at hcx
                  obtain ⟨a1, a2⟩ := hbare x hx0 hdx1 hax hwT
                  obtain ⟨_, _, _, _, _, _, _, _, _, _, hg, _⟩ := chkA_inv hax c.agree.1 hcx
                  rw [hidT]
                  exact ⟨(l1.bare _ (c.fresh.ltL (c.agree.2 _ _ hg)) a1).2, a2⟩
              · have hge := p1.news x hnew hax hwx
                exact ⟨(c1.fresh _ hge).2, Nat.le_trans hn0 (Nat.le_trans hn1 hge)⟩
            obtain ⟨ρ2, L2, w2, tmps2, c2, ht2, e2, b2, l2, hn2, hst2⟩ := ih tt' _ es' xs1 recs1 T3 H3 n3 _ tmps1 ρ1 L3 w1 hcl' hcnt' hI' p1.chk p1.dist hbare1 (Nat.le_trans hn0 (Nat.le_trans hn1 pA.1)) p2 c3 (ht1.mono e3) ha'
            refine ⟨ρ2, L2, w2, tmps2, c2, ht2, (e1.trans e3).trans e2, b1.trans b2, ?_, Nat.le_trans hn1 (Nat.le_trans pA.1 hn2), hst.trans hst2⟩
            refine Loc.trans (⟨fun b hb hbn => ?_⟩ : Loc H n0 ρ L ρ1 L3) (Nat.le_refl _) l2
            obtain ⟨q1, q2⟩ := l1.bare b (Nat.lt_of_lt_of_le hb hn0) hbn
            exact ⟨(f3 b (Nat.lt_of_lt_of_le hb (Nat.le_trans hn0 hn1))).trans q1, q2⟩
          have hc' : sel (wantedE ops T o)
              (match opE P call T H n o.op with | .ok v H' n' => setD nt T o.dst v fun T2 => drawE P call nt ops M es' xs (filt (fun x => sel (bitE (getW M j) x.1) false true) recs) T2 H' n' | .bad q => .bad q)
              (setD nt T o.dst 0 fun T2 => drawE P call nt ops M es' xs (filt (fun x => sel (bitE (getW M j) x.1) false true) recs) T2 H n) = .ok T' H' n' := hc
          rw [sel_eq] at hc'
          split at hc'
          · rename_i hw1
            split at hc'
            · rename_i v H1 n1 hv
              exact go v H1 n1 (.inl ⟨by rw [hw]; exact hw1, by rw [hop]; exact hv⟩) hc'
            · cases hc'
          · rename_i hw1
            exact go 0 H n (.inr ⟨by rw [hw]; simpa using hw1, rfl, rfl, rfl⟩) hc'
      · obtain ⟨_, _, e, es', he, hb⟩ := hI.xsI _ hin
        have h1 := hbit e.1 hb
        have h2 := (hI.esI e (by rw [he]; exact List.mem_cons_self)).2.1
        rw [h1] at h2; cases h2

theorem st_drawn {f : FFix} {tmps : Array Value} {ds : List Deferred} {k : List Item} {cs : List Frame} {w : World} {id : Nat} (hm : P.follows .mixedOrders = true) :
    Steps P (lone (mkF f tmps ds (.code (.region id ops true) :: k)) cs w)
      (lone (mkF f tmps ds (.inRegion ops (Region.linearise.go .any ops ops.size (w.tape w.drawn (.order f.fn id)) (Array.replicate ops.size false) []) :: k)) cs { w with drawn := w.drawn + 1 }) := by
  refine .one (step_lone_go ?_)
  simp [stepG, stepG.exec, mkF, choose, Sem.run, Question.forced, Question.cut, Region.schedule, hm, Region.linearise]

theorem drawR_sound (hcall : CallS P call) (f : FFix) (ds : List Deferred) (k : List Item) (cs : List Frame) {T n : Nat} {H : Trie} {tmps : Array Value} {ρ : Rho} {L : Look} {w : World} (h : drawR P call nt ops T H n = .ok T' H' n') (c : Ctx base H n ρ L w) (ht : TR ρ L nt T tmps) :
    P.follows .mixedOrders = true ∧ ∀ tt, ∃ ρ' L' w' tmps', Ctx base H' n' ρ' L' w' ∧ TR ρ' L' nt T' tmps' ∧ Ext ρ L ρ' L' ∧ Below base w w' ∧ Loc H n ρ L ρ' L' ∧ n ≤ n' ∧
      Steps P (lone (mkF f tmps ds (.inRegion ops (Region.linearise.go .any ops ops.size tt (Array.replicate ops.size false) []) :: k)) cs w) (lone (mkF f tmps' ds (.inRegion ops [] :: k)) cs w') := by
  unfold drawR at h
  simp only at h
  rw [sel_eq] at h
  split at h
  · rename_i h1
    rw [sel_eq] at h1
    split at h1
    · rename_i hm
      refine ⟨hm, fun tt => ?_⟩
      obtain ⟨hs, hch⟩ := stat_of h1
      obtain ⟨T1, H1, n1, xs1, recs1, news, p1, p2, p3, p4, p5, p6, pA, pD⟩ := phase_inv (fun x hx => by
        have h5 := ((mem_filt _ _ _).1 hx).2
        exact soft_of (R := readsE ops (idxE ops.toList 0)) h5) h
      obtain ⟨L1, c1, e1, f1⟩ := pA.2 _ _ _ _ c
      have hdn : ∀ i, dn (Array.replicate ops.size false) i = false := by
        intro i
        unfold dn
        by_cases hi : i < ops.size
        · simp [Array.getD, hi]
        · simp [Array.getD, hi]
      have hcl : Closed ops (Array.replicate ops.size false) := ⟨by simp, fun i o ho hd => by rw [hdn] at hd; cases hd⟩
      have hidx : ∀ i o, ((i, o) : Num) ∈ idxE ops.toList 0 ↔ ops[i]? = some o := by
        intro i o
        rw [mem_idxE]
        constructor
        · rintro ⟨j, h1, h2⟩; simp at h1 h2; rw [h2]; exact h1
        · intro h; exact ⟨i, by simpa using h, by simp⟩
      have main : ∃ ρ' L' w' tmps', Ctx base H' n' ρ' L' w' ∧ TR ρ' L' nt T' tmps' ∧ Ext ρ L1 ρ' L' ∧ Below base w w' ∧ Loc H1 n ρ L1 ρ' L' ∧ n1 ≤ n' ∧
          Steps P (lone (mkF f tmps ds (.inRegion ops (Region.linearise.go .any ops ops.size tt (Array.replicate ops.size false) []) :: k)) cs w) (lone (mkF f tmps' ds (.inRegion ops [] :: k)) cs w') := by
        refine go_sound hcall hs (maskOk ops) f ds k cs n ops.size tt _ _ xs1 recs1 T1 H1 n1 T tmps ρ L1 w hcl ?_ ?_ p1.chk p1.dist ?_ pA.1 p2 c1 (ht.mono e1) ?_
        · unfold cnt; exact Nat.le_trans List.countP_le_length (by simp)
        · refine ⟨fun i o ho _ => ?_, fun x hx => ?_, fun x hx => ?_, fun x hx => ?_, hch, fun x hx y hy => ?_⟩
          · cases hq : effX (readsE ops (idxE ops.toList 0)) (i, o) with
            | false =>
              rcases p3 (i, o) (.inr ((mem_filt _ _ _).2 ⟨(hidx i o).2 ho, by unfold softX; rw [hq]; rfl⟩)) with h | h
              · exact .inl h
              · exact .inr (.inr h)
            | true => exact .inr (.inl ((mem_filt _ _ _).2 ⟨(hidx i o).2 ho, hq⟩))
          · obtain ⟨a, b⟩ := (mem_filt _ _ _).1 hx
            exact ⟨(hidx _ _).1 a, hdn _, eff_of b⟩
          · rcases p4 x hx with h | ⟨h, _⟩
            · cases h
            · obtain ⟨a, b⟩ := (mem_filt _ _ _).1 h
              exact ⟨(hidx _ _).1 a, b⟩
          · obtain ⟨h1, h2⟩ := p5 x hx
            obtain ⟨a, b⟩ := (mem_filt _ _ _).1 h1
            exact ⟨(hidx _ _).1 a, b, h2⟩
          · rcases p4 x hx with h | ⟨_, h⟩
            · cases h
            · exact pD x h y hy
        · intro x hx _ hax hwx
          rcases p4 x hx with h | ⟨_, h⟩
          · cases h
          · have hge := p1.news x h hax hwx
            exact ⟨(c.fresh _ hge).2, hge⟩
        · intro t ht2
          exact (p6 t fun x hx => by
            obtain ⟨a, b⟩ := (mem_filt _ _ _).1 hx
            exact ht2 x.1 x.2 ((hidx _ _).1 a) (hdn _) b).symm
      obtain ⟨ρ', L', w', tmps', c', ht', e', b', l', hn', hst⟩ := main
      refine ⟨ρ', L', w', tmps', c', ht', e1.trans e', b', ⟨fun b hb hbn => ?_⟩, Nat.le_trans pA.1 hn', hst⟩
      obtain ⟨q1, q2⟩ := l'.bare b hb hbn
      exact ⟨q1.trans (f1 b hb), q2⟩
    · cases h1
  · cases h
end
end Go.Eng
