/- Regions that draw their order: every order comes to the same. -/
import Derived.Test.YtgcicmlfalmamaaEngNb
namespace Go.Eng
set_option linter.unusedSectionVars false
set_option linter.unusedSimpArgs false
set_option linter.unusedVariables false
open Go Go.RowKit
variable [E : Env]

section
variable {base : Nat} {H H' H1 : Trie} {n n' n1 nt T T' Tt v M : Nat} {ρ : Rho} {L : Look} {w : World} {P : Program} {tmps : Array Value} {ops : Array Oper} {call : Nat → List Nat → Trie → Nat → OR}

theorem setD_inv {dst : Option Tmp} {k : Nat → RR} {r : RR} (h : setD nt T dst v k = r) (hr : ∀ q, r ≠ .bad q) :
    ∃ T1, k T1 = r ∧ (∀ t, dst ≠ some t → getW T1 t = getW T t) ∧ (∀ d, dst = some d → getW T1 d = v ∧ d < nt ∧ v < 2 ^ 128) := by
  unfold setD at h
  cases dst with
  | none => exact ⟨T, h, fun _ _ => rfl, fun d hd => by cases hd⟩
  | some d =>
    simp only at h
    rw [sel_ltb] at h
    split at h
    · rename_i hd
      rw [sel_ltb] at h
      split at h
      · rename_i hv
        refine ⟨_, h, fun t ht => ?_, fun d' hd' => ?_⟩
        · exact getW_setW_ne _ _ _ _ hv fun e => ht (by rw [e])
        · injection hd' with hd'; subst hd'; exact ⟨getW_setW_same _ _ _ hv, hd, hv⟩
      · exact absurd h.symm (hr _)
    · exact absurd h.symm (hr _)

theorem segE_inv {k : Nat → RR} {r : RR} (hr : ∀ q, r ≠ .bad q) : ∀ (l : List Num) (T : Nat), segE P call nt ops l T H n k = r →
    ∃ T1, k T1 = r ∧ ∀ t, (∀ x ∈ l, x.2.dst ≠ some t) → getW T1 t = getW T t
  | [], T, h => ⟨T, h, fun _ _ => rfl⟩
  | x :: l, T, h => by
    have e : segE P call nt ops (x :: l) T H n k = sel (wantedE ops T x.2)
      (match opE P call T H n x.2.op with | .ok v _ _ => setD nt T x.2.dst v fun T' => segE P call nt ops l T' H n k | .bad q => .bad q)
      (setD nt T x.2.dst 0 fun T' => segE P call nt ops l T' H n k) := rfl
    rw [e, sel_eq] at h
    have fin : ∀ {v : Nat}, (setD nt T x.2.dst v fun T' => segE P call nt ops l T' H n k) = r → ∃ T1, k T1 = r ∧ ∀ t, (∀ y ∈ x :: l, y.2.dst ≠ some t) → getW T1 t = getW T t := by
      intro v h
      obtain ⟨T1, h1, h2, _⟩ := setD_inv h hr
      obtain ⟨T2, h4, h5⟩ := segE_inv hr l T1 h1
      exact ⟨T2, h4, fun t ht => (h5 t fun y hy => ht y (List.mem_cons_of_mem _ hy)).trans (h2 t (ht x List.mem_cons_self))⟩
    split at h
    · split at h
      · exact fin h
      · exact absurd h.symm (hr _)
    · exact fin h

noncomputable def cont (P : Program) (call : Nat → List Nat → Trie → Nat → OR) (nt : Nat) (ops : Array Oper) (M : Nat) (es xs recs : List Num) (T : Nat) (H : Trie) (n : Nat) : RR :=
  match es with
  | [] => .ok T H n
  | e :: es' => sel (wantedE ops T e.2)
      (match opE P call T H n e.2.op with | .ok v H' n' => setD nt T e.2.dst v fun T2 => drawE P call nt ops M es' xs (filt (fun x => sel (bitE (getW M e.1) x.1) false true) recs) T2 H' n' | .bad q => .bad q)
      (setD nt T e.2.dst 0 fun T2 => drawE P call nt ops M es' xs (filt (fun x => sel (bitE (getW M e.1) x.1) false true) recs) T2 H n)

theorem phase_inv {es xs recs : List Num} (h : drawE P call nt ops M es xs recs T H n = .ok T' H' n') :
    ∃ T1 xs1 recs1, chkE P call nt ops T1 H n recs1 = true ∧ cont P call nt ops M es xs1 recs1 T1 H n = .ok T' H' n' ∧
      (∀ x, x ∈ recs ∨ x ∈ xs → x ∈ recs1 ∨ x ∈ xs1) ∧ (∀ x ∈ recs1, x ∈ recs ∨ x ∈ xs) ∧
      (∀ x ∈ xs1, x ∈ xs ∧ ∃ e es', es = e :: es' ∧ bitE (getW M x.1) e.1 = true) ∧
      (∀ t, (∀ x ∈ xs, x.2.dst ≠ some t) → getW T1 t = getW T t) := by
  cases es with
  | nil =>
    have e : drawE P call nt ops M [] xs recs T H n = segE P call nt ops xs T H n fun T1 => sel (chkE P call nt ops T1 H n (app xs recs)) (.ok T1 H n) (.bad 0) := rfl
    rw [e] at h
    obtain ⟨T1, h1, h2⟩ := segE_inv (by simp) xs T h
    rw [sel_eq] at h1
    split at h1
    · rename_i hc
      refine ⟨T1, [], app xs recs, hc, h1, fun x hx => .inl ((mem_app _ _ _).2 hx.symm), fun x hx => ((mem_app _ _ _).1 hx).symm, (by intro x hx; cases hx), h2⟩
    · cases h1
  | cons e es' =>
    have eq : drawE P call nt ops M (e :: es') xs recs T H n = segE P call nt ops (filt (fun x => sel (bitE (getW M x.1) e.1) false true) xs) T H n fun T1 =>
        sel (chkE P call nt ops T1 H n (app (filt (fun x => sel (bitE (getW M x.1) e.1) false true) xs) recs))
          (cont P call nt ops M (e :: es') (filt (fun x => bitE (getW M x.1) e.1) xs) (app (filt (fun x => sel (bitE (getW M x.1) e.1) false true) xs) recs) T1 H n) (.bad 0) := rfl
    rw [eq] at h
    obtain ⟨T1, h1, h2⟩ := segE_inv (by simp) _ T h
    rw [sel_eq] at h1
    split at h1
    · rename_i hc
      refine ⟨T1, _, _, hc, h1, fun x hx => ?_, fun x hx => ?_, fun x hx => ?_, fun t ht => h2 t fun x hx => ht x ((mem_filt _ _ _).1 hx).1⟩
      · rw [mem_app, mem_filt, mem_filt]
        rcases hx with hx | hx
        · exact .inl (.inr hx)
        · by_cases hb : bitE (getW M x.1) e.1 = true
          · exact .inr ⟨hx, hb⟩
          · exact .inl (.inl ⟨hx, by simp [hb, sel_false]⟩)
      · rcases (mem_app _ _ _).1 hx with h | h
        · exact .inr ((mem_filt _ _ _).1 h).1
        · exact .inl h
      · have := (mem_filt _ _ _).1 hx
        exact ⟨this.1, e, es', rfl, this.2⟩
    · cases h1

/-! ### chains -/
theorem chain_cons (e : Num) (r : List Num) (p : Nat) : chainE M (e :: r) p = sel (sel (Nat.beq p 0) true (bitE (getW M e.1) (Nat.pred p))) (chainE M r (Nat.succ e.1)) false := rfl
theorem chain_weak : ∀ (r : List Num) (p : Nat), chainE M r p = true → chainE M r 0 = true
  | [], _, _ => rfl
  | e :: r, p, h => by
    rw [chain_cons] at h ⊢
    rw [sel_eq] at h
    split at h
    · simpa [sel_true] using h
    · cases h
theorem chain_tail {e : Num} {r : List Num} {p : Nat} (h : chainE M (e :: r) p = true) : chainE M r (e.1 + 1) = true := by
  rw [chain_cons, sel_eq] at h
  split at h
  · exact h
  · cases h
theorem chain_mem : ∀ (r : List Num) (e : Num) (p : Nat), chainE M (e :: r) p = true → ∀ y ∈ r, ∃ z ∈ e :: r, bitE (getW M y.1) z.1 = true
  | [], _, _, _, y, hy => by cases hy
  | a :: r, e, p, h, y, hy => by
    have h1 := chain_tail h
    rcases List.mem_cons.1 hy with rfl | hy
    · rw [chain_cons, sel_eq] at h1
      split at h1
      · rename_i hb
        exact ⟨e, List.mem_cons_self, by simpa [sel_eq] using hb⟩
      · cases h1
    · obtain ⟨z, hz, hb⟩ := chain_mem r a _ h1 y hy
      exact ⟨z, List.mem_cons_of_mem _ hz, hb⟩

/-! ### how many are left -/
def cnt (ops : Array Oper) (ls : Array Bool) : Nat := (List.range ops.size).countP fun i => !(dn ls i)
theorem countP_lt {p q : Nat → Bool} {j : Nat} : ∀ (l : List Nat), (∀ i, q i = true → p i = true) → j ∈ l → p j = true → q j = false → l.countP q < l.countP p
  | [], _, h, _, _ => by cases h
  | a :: l, hpq, h, h1, h2 => by
    rw [List.countP_cons, List.countP_cons]
    have hle : l.countP q ≤ l.countP p := List.countP_mono_left fun i _ hi => hpq i hi
    rcases List.mem_cons.1 h with rfl | h
    · simp [h1, h2]; omega
    · have := countP_lt l hpq h h1 h2
      have h3 : (if q a = true then 1 else 0) ≤ (if p a = true then 1 else 0) := by
        by_cases hq : q a = true
        · simp [hq, hpq a hq]
        · simp [hq]
      omega
theorem dn_set {ls : Array Bool} {j : Nat} (hj : j < ls.size) (i : Nat) : dn (ls.setIfInBounds j true) i = (if i = j then true else dn ls i) := by
  unfold dn
  by_cases h : i = j
  · subst h; simp [Array.getD_eq_getD_getElem?, hj]
  · simp only [Array.getD_eq_getD_getElem?, Array.getElem?_setIfInBounds]
    rw [if_neg (by omega), if_neg h]
theorem Closed.set {ls : Array Bool} (hc : Closed ops ls) {j : Nat} {o : Oper} (ho : ops[j]? = some o) (hp : ∀ e ∈ o.after, bindsE e = true → dn ls e.on = true) : Closed ops (ls.setIfInBounds j true) := by
  have hj : j < ls.size := by rw [hc.size]; exact (Array.getElem?_eq_some_iff.1 ho).1
  refine ⟨by simp [hc.size], fun i oi hoi hd e he hb => ?_⟩
  rw [dn_set hj]
  rw [dn_set hj] at hd
  split
  · rfl
  · by_cases h : i = j
    · subst h
      rw [ho] at hoi; injection hoi with hoi; subst hoi
      exact hp e he hb
    · rw [if_neg h] at hd
      exact hc.clo i oi hoi hd e he hb
theorem cnt_set {ls : Array Bool} (hc : Closed ops ls) {j : Nat} {o : Oper} (ho : ops[j]? = some o) (hd : dn ls j = false) : cnt ops (ls.setIfInBounds j true) < cnt ops ls := by
  have hjs := (Array.getElem?_eq_some_iff.1 ho).1
  have hj : j < ls.size := by rw [hc.size]; exact hjs
  refine countP_lt (j := j) _ (fun i hi => ?_) (by simpa using hjs) (by simp [hd]) (by simp [dn_set hj])
  rw [dn_set hj] at hi
  split at hi
  · simp at hi
  · exact hi
theorem cnt_zero {ls : Array Bool} (h : cnt ops ls ≤ 0) : ∀ i, i < ops.size → dn ls i = true := by
  intro i hi
  have h0 : cnt ops ls = 0 := by omega
  unfold cnt at h0
  rw [List.countP_eq_zero] at h0
  have := h0 i (by simpa using hi)
  simpa using this

theorem ready_iff {ls : Array Bool} (hc : Closed ops ls) (j : Nat) : j ∈ Region.ready .any ops ls ↔ dn ls j = false ∧ ∃ o, ops[j]? = some o ∧ ∀ e ∈ o.after, bindsE e = true → dn ls e.on = true := by
  rw [mem_ready]
  constructor
  · rintro ⟨h1, o, h2, h3⟩
    have hj : j < ls.size := by rw [hc.size]; exact (Array.getElem?_eq_some_iff.1 h2).1
    refine ⟨?_, o, h2, fun e he hb => h3 e he (by rw [← binds_any]; exact hb)⟩
    unfold dn
    simpa [Array.getD_eq_getD_getElem?, hj] using h1
  · rintro ⟨h1, o, h2, h3⟩
    have hj : j < ls.size := by rw [hc.size]; exact (Array.getElem?_eq_some_iff.1 h2).1
    refine ⟨?_, o, h2, fun e he hb => h3 e he (by rw [binds_any]; exact hb)⟩
    unfold dn at h1
    simpa [Array.getD_eq_getD_getElem?, hj] using h1

theorem all_done (hs : Stat ops M) {ls : Array Bool} (hc : Closed ops ls) (h : Region.ready .any ops ls = []) : ∀ i, i < ops.size → dn ls i = true := by
  intro i
  induction i using Nat.strongRecOn with
  | _ i ih =>
    intro hi
    have ho : ops[i]? = some ops[i] := by simp [hi]
    cases hd : dn ls i with
    | true => rfl
    | false =>
      have hm : i ∈ Region.ready .any ops ls := (ready_iff hc i).2 ⟨hd, _, ho, fun e he hb => by
        have hl := hs.edge i _ ho e he hb
        exact ih e.on hl (by omega)⟩
      rw [h] at hm; cases hm

/-! ### one operation -/
noncomputable def putW (T : Nat) (dst : Option Tmp) (v : Nat) : Nat := match dst with | some d => setW T d v | none => T
theorem putW_ne {dst : Option Tmp} {t : Nat} (hv : ∀ d, dst = some d → v < 2 ^ 128) (h : dst ≠ some t) : getW (putW T dst v) t = getW T t := by
  cases dst with
  | none => rfl
  | some d => exact getW_setW_ne _ _ _ _ (hv d rfl) fun e => h (by rw [e])
theorem putW_same {d : Nat} (hv : v < 2 ^ 128) : getW (putW T (some d) v) d = v := getW_setW_same _ _ _ hv

theorem TR.put {x : Value} {dst : Option Tmp} (ht : TR ρ L nt T tmps) (hd : ∀ d, dst = some d → d < nt ∧ v < 2 ^ 128) (hx : VR ρ L v x) : TR ρ L nt (putW T dst v) (putT tmps dst x) := by
  cases dst with
  | none => exact ht
  | some d => exact ht.set (hd d rfl).1 (hd d rfl).2 hx

theorem op_step (hcall : CallS P call) (rest : List Nat) (f : FFix) (ds : List Deferred) (k : List Item) (cs : List Frame) {j : Nat} {o : Oper} (ho : ops[j]? = some o) (c : Ctx base H n ρ L w) (ht : TR ρ L nt Tt tmps)
    (h : (wantedE ops Tt o = true ∧ opE P call Tt H n o.op = .ok v H1 n1) ∨ (wantedE ops Tt o = false ∧ v = 0 ∧ H1 = H ∧ n1 = n))
    (hd : ∀ d, o.dst = some d → d < nt ∧ v < 2 ^ 128) :
    ∃ ρ1 L1 w1 tmps1, Ctx base H1 n1 ρ1 L1 w1 ∧ TR ρ1 L1 nt (putW Tt o.dst v) tmps1 ∧ Ext ρ L ρ1 L1 ∧ Below base w w1 ∧ Loc H n ρ L ρ1 L1 ∧ n ≤ n1 ∧
      Steps P (lone (mkF f tmps ds (.inRegion ops (j :: rest) :: k)) cs w) (lone (mkF f tmps1 ds (.inRegion ops rest :: k)) cs w1) := by
  rw [wanted_sound ht o] at h
  rcases h with ⟨hw, hop⟩ | ⟨hw, rfl, rfl, rfl⟩
  · obtain ⟨ρ1, L1, w1, x, c1, e1, b1, l1, hn1, hv, hdo⟩ := opE_sound (cfr := mkF f tmps ds (.inRegion ops (j :: rest) :: k)) (ccs := cs) c ht hcall hop
    exact ⟨ρ1, L1, w1, _, c1, (ht.mono e1).put hd hv, e1, b1, l1, hn1, st_op ho hw (opE_notDefer (o := o) hop) hdo⟩
  · exact ⟨ρ, L, w, _, c, ht.put hd .undef, .refl _ _, Below.refl _ _, .refl _ _ _ _, Nat.le_refl _, st_opSkip ho hw⟩

theorem wantedE_congr {o : Oper} (h : ∀ d ∈ guardT ops o, getW T d = getW Tt d) : wantedE ops T o = wantedE ops Tt o := by
  unfold wantedE
  unfold guardT at h
  cases hg : o.guard with
  | none => rfl
  | some jw =>
    obtain ⟨j, want⟩ := jw
    rw [hg] at h
    simp only at h ⊢
    cases hd : (ops[j]?).bind (·.dst) with
    | none => rfl
    | some d =>
      rw [hd] at h
      simp only at h ⊢
      rw [h d (by simp)]

def Agr (ops : Array Oper) (ls : Array Bool) (Tt T : Nat) : Prop := ∀ t, (∀ i o, ops[i]? = some o → dn ls i = false → o.dst ≠ some t) → getW Tt t = getW T t

theorem dstIs_inv {dst : Option Tmp} (h : dstIs nt T dst v = true) : ∀ d, dst = some d → getW T d = v ∧ d < nt ∧ v < 2 ^ 128 := by
  rintro d rfl
  unfold dstIs at h
  simp only at h
  rw [sel_ltb] at h
  split at h
  · rename_i hd
    have := Nat.eq_of_beq_eq_true h
    exact ⟨this, hd, this ▸ getW_lt _ _⟩
  · cases h
end
end Go.Eng
