/- Part of the evaluator: Nc Nd. -/
import Derived.Test.YtadmpiidofncpaaEngNb

/- Regions that draw their order: every order comes to the same. -/
namespace Go.Eng
set_option linter.unusedSectionVars false
set_option linter.unusedSimpArgs false
set_option linter.unusedVariables false
open Go Go.RowKit
variable [E : Env]

section
variable {base : Nat} {H H' H1 : Trie} {n n' n1 nt T T' Tt v M : Nat} {ρ : Rho} {L : Look} {w : World} {P : Program} {tmps : Array Value} {ops : Array Oper} {call : Nat → List Nat → Trie → Nat → OR}

theorem setD_inv {dst : Option Tmp} {k : Nat → RR} {r : RR} (h : setD nt T dst v k = r) (hr : ∀ q, r ≠ .bad q) :
    ∃ T1, k T1 = r ∧ (∀ t, dst ≠ some t → getW T1 t = getW T t) ∧ (∀ d, dst = some d → getW T1 d = v ∧ d < nt ∧ v < 2 ^ 128) := by
  unfold setD at h
  cases dst with
  | none => exact ⟨T, h, fun _ _ => rfl, fun d hd => by cases hd⟩
  | some d =>
    simp only at h
    rw [sel_ltb] at h
    split at h
    · rename_i hd
      rw [sel_ltb] at h
      split at h
      · rename_i hv
        refine ⟨_, h, fun t ht => ?_, fun d' hd' => ?_⟩
        · exact getW_setW_ne _ _ _ _ hv fun e => ht (by rw [e])
        · injection hd' with hd'; subst hd'; exact ⟨getW_setW_same _ _ _ hv, hd, hv⟩
      · exact absurd h.symm (hr _)
    · exact absurd h.symm (hr _)

theorem allocA_shape {t : TypeId} (h : allocA P t H n = .ok v H' n') : ∃ len ch, H' = hset H n (.cells len ch (n + 1) n n len) ∧ n' = n + 1 ∧ n < 16384 ∧ v = wP n 0 := by
  unfold allocA at h
  obtain ⟨i, z, c, _, _, h, _⟩ := zcells_inv h (by simp)
  obtain ⟨hn, hk⟩ := fresh_info h (by simp)
  injection hk with h1 h2 h3
  exact ⟨_, _, h2.symm, h3.symm, hn, h1.symm⟩
theorem boxA_shape {x : Nat} (h : boxA x H n = .ok v H' n') : ∃ len ch, H' = hset H n (.cells len ch (n + 1) n n len) ∧ n' = n + 1 ∧ n < 16384 ∧ v = wP n 0 := by
  unfold boxA at h
  have h := sel_ok h
  split at h
  · obtain ⟨hn, hk⟩ := fresh_info h (by simp)
    injection hk with h1 h2 h3
    exact ⟨_, _, h2.symm, h3.symm, hn, h1.symm⟩
  · cases h
theorem buildSliceA_shape {e : TypeId} {len : Nat} {ps : Array (Nat × Operand)} (h : buildSliceA P T e len ps H n = .ok v H' n') : ∃ len' ch, H' = hset H n (.cells len' ch (n + 1) n n len') ∧ n' = n + 1 ∧ n < 16384 ∧ v = wS n (tsz P e) 0 len (Nat.succ len) := by
  unfold buildSliceA at h
  obtain ⟨i, z, c, _, _, h, _⟩ := zcells_inv (sel_ok (sel_ok' (sel_ok h))) (by simp)
  split at h
  · obtain ⟨hn, hk⟩ := fresh_info h (by simp)
    injection hk with h1 h2 h3
    exact ⟨_, _, h2.symm, h3.symm, hn, h1.symm⟩
  · cases h
theorem alloc_shape {op : Op} (ha : allocOp op = true) (h : opE P call T H n op = .ok v H' n') : ∃ len ch, H' = hset H n (.cells len ch (n + 1) n n len) ∧ n' = n + 1 ∧ n < 16384 := by
  cases op with
  | alloc t =>
    simp only [opE_eq, opX] at h
    rw [sel_eq] at h
    split at h
    · have h := sel_ok h
      obtain ⟨hn, hk⟩ := fresh_info h (by simp)
      injection hk with h1 h2 h3
      exact ⟨_, _, h2.symm, h3.symm, hn⟩
    · obtain ⟨len, ch, h1, h2, h3, _⟩ := allocA_shape h
      exact ⟨len, ch, h1, h2, h3⟩
  | box t x =>
    simp only [opE_eq, opX] at h
    rw [sel_eq] at h
    split at h
    · obtain ⟨hn, hk⟩ := fresh_info h (by simp)
      injection hk with h1 h2 h3
      exact ⟨_, _, h2.symm, h3.symm, hn⟩
    · obtain ⟨len, ch, h1, h2, h3, _⟩ := boxA_shape h
      exact ⟨len, ch, h1, h2, h3⟩
  | buildSlice t len ps =>
    simp only [opE_eq, opX] at h
    obtain ⟨e, hu, _, h⟩ := telem_inv h rfl (by simp)
    rw [sel_eq] at h
    split at h
    · have h := sel_ok (sel_ok h)
      split at h
      · obtain ⟨hn, hk⟩ := fresh_info h (by simp)
        injection hk with h1 h2 h3
        exact ⟨_, _, h2.symm, h3.symm, hn⟩
      · cases h
    · obtain ⟨len, ch, h1, h2, h3, _⟩ := buildSliceA_shape h
      exact ⟨len, ch, h1, h2, h3⟩
  | makeSlice t l c =>
    simp only [opE_eq, opX] at h
    obtain ⟨e, hu, _, h⟩ := telem_inv h rfl (by simp)
    have h := sel_ok (sel_ok h)
    obtain ⟨_, h⟩ := isI_inv h (by simp)
    obtain ⟨_, h⟩ := isI_inv h (by simp)
    have h := sel_ok (sel_ok (sel_ok h))
    obtain ⟨hn, hk⟩ := fresh_info h (by simp)
    injection hk with h1 h2 h3
    exact ⟨_, _, h2.symm, h3.symm, hn⟩
  | _ => cases ha

/-- The evaluator has gone ahead: new blocks that have no place. -/
def Ahead (H : Trie) (n : Nat) (H1 : Trie) (n1 : Nat) : Prop :=
  n ≤ n1 ∧ ∀ (base : Nat) (ρ : Rho) (L : Look) (w : World), Ctx base H n ρ L w → ∃ L1, Ctx base H1 n1 ρ L1 w ∧ Ext ρ L ρ L1 ∧ ∀ b, b < n → L1 b = L b
theorem Ahead.refl (H : Trie) (n : Nat) : Ahead H n H n := ⟨Nat.le_refl _, fun _ ρ L _ c => ⟨L, c, .refl _ _, fun _ _ => rfl⟩⟩
theorem Ahead.trans {H2 : Trie} {n2 : Nat} (h : Ahead H n H1 n1) (k : Ahead H1 n1 H2 n2) : Ahead H n H2 n2 := by
  refine ⟨Nat.le_trans h.1 k.1, fun base ρ L w c => ?_⟩
  obtain ⟨L1, c1, e1, f1⟩ := h.2 base ρ L w c
  obtain ⟨L2, c2, e2, f2⟩ := k.2 base ρ L1 w c1
  exact ⟨L2, c2, e1.trans e2, fun b hb => (f2 b (Nat.lt_of_lt_of_le hb h.1)).trans (f1 b hb)⟩

def Soft (op : Op) : Prop := quietOp op = true ∨ allocOp op = true

theorem ahead_op {op : Op} (hs : Soft op) (h : opE P call T H n op = .ok v H' n') : Ahead H n H' n' := by
  rcases hs with hq | ha
  · rcases quiet_box hq h with ⟨rfl, rfl⟩ | ⟨k, hk, rfl, rfl, hn⟩
    · exact .refl _ _
    · exact ⟨Nat.le_succ _, fun base ρ L w c => ⟨_, ⟨c.sim.boxB c.fresh hk, c.agree.hset hn _, c.fresh.updL _⟩, .freshL c.fresh _, fun b hb => upd_ne _ _ (by omega)⟩⟩
  · obtain ⟨len, ch, rfl, rfl, hn⟩ := alloc_shape ha h
    exact ⟨Nat.le_succ _, fun base ρ L w c => ⟨_, c.bare hn len ch, .freshL c.fresh _, fun b hb => upd_ne _ _ (by omega)⟩⟩

theorem segE_inv {k : Nat → Trie → Nat → RR} {r : RR} (hr : ∀ q, r ≠ .bad q) : ∀ (l : List Num) (T : Nat) (H : Trie) (n : Nat), (∀ x ∈ l, Soft x.2.op) → segE P call nt ops l T H n k = r →
    ∃ T1 H1 n1, k T1 H1 n1 = r ∧ (∀ t, (∀ x ∈ l, x.2.dst ≠ some t) → getW T1 t = getW T t) ∧ Ahead H n H1 n1
  | [], T, H, n, _, h => ⟨T, H, n, h, fun _ _ => rfl, .refl _ _⟩
  | x :: l, T, H, n, hs, h => by
    have e : segE P call nt ops (x :: l) T H n k = sel (wantedE ops T x.2)
      (match opE P call T H n x.2.op with | .ok v H' n' => setD nt T x.2.dst v fun T' => segE P call nt ops l T' H' n' k | .bad q => .bad q)
      (setD nt T x.2.dst 0 fun T' => segE P call nt ops l T' H n k) := rfl
    rw [e, sel_eq] at h
    have fin : ∀ {v : Nat} {H2 : Trie} {n2 : Nat}, Ahead H n H2 n2 → (setD nt T x.2.dst v fun T' => segE P call nt ops l T' H2 n2 k) = r →
        ∃ T1 H1 n1, k T1 H1 n1 = r ∧ (∀ t, (∀ y ∈ x :: l, y.2.dst ≠ some t) → getW T1 t = getW T t) ∧ Ahead H n H1 n1 := by
      intro v H2 n2 ha h
      obtain ⟨T1, h1, h2, _⟩ := setD_inv h hr
      obtain ⟨T2, H3, n3, h4, h5, h6⟩ := segE_inv hr l T1 H2 n2 (fun y hy => hs y (List.mem_cons_of_mem _ hy)) h1
      exact ⟨T2, H3, n3, h4, fun t ht => (h5 t fun y hy => ht y (List.mem_cons_of_mem _ hy)).trans (h2 t (ht x List.mem_cons_self)), ha.trans h6⟩
    split at h
    · split at h
      · rename_i v H2 n2 hop
        exact fin (ahead_op (hs x List.mem_cons_self) hop) h
      · exact absurd h.symm (hr _)
    · exact fin (.refl _ _) h

noncomputable def cont (P : Program) (call : Nat → List Nat → Trie → Nat → OR) (nt : Nat) (ops : Array Oper) (M : Nat) (es xs recs : List Num) (T : Nat) (H : Trie) (n : Nat) : RR :=
  match es with
  | [] => .ok T H n
  | e :: es' => sel (wantedE ops T e.2)
      (match opE P call T H n e.2.op with | .ok v H' n' => setD nt T e.2.dst v fun T2 => drawE P call nt ops M es' xs (filt (fun x => sel (bitE (getW M e.1) x.1) false true) recs) T2 H' n' | .bad q => .bad q)
      (setD nt T e.2.dst 0 fun T2 => drawE P call nt ops M es' xs (filt (fun x => sel (bitE (getW M e.1) x.1) false true) recs) T2 H n)

/-- What a stretch's end has shown. -/
structure Phase (P : Program) (call : Nat → List Nat → Trie → Nat → OR) (nt : Nat) (ops : Array Oper) (n0 : Nat) (news recs : List Num) (T : Nat) (H : Trie) (n : Nat) : Prop where
  chk : chkE P call nt ops T H n recs = true
  news : ∀ x ∈ news, allocOp x.2.op = true → wantedE ops T x.2 = true → n0 ≤ idE T x
  dist : ∀ x ∈ recs, ∀ y ∈ recs, allocOp x.2.op = true → wantedE ops T x.2 = true → allocOp y.2.op = true → wantedE ops T y.2 = true → idE T x = idE T y → x.1 = y.1

theorem phase_of {n0 : Nat} {news recs : List Num} (h : phaseE P call nt ops n0 news recs T H n = true) : Phase P call nt ops n0 news recs T H n := by
  unfold phaseE at h
  cases h1 : chkE P call nt ops T H n recs with
  | false => rw [h1] at h; cases h
  | true =>
    rw [h1, sel_true] at h
    cases h2 : allE (fun x : Num => Nat.ble n0 (idE T x)) (rowsE ops T news) with
    | false => rw [h2] at h; cases h
    | true =>
      rw [h2, sel_true] at h
      rw [allE_iff] at h2
      have mem : ∀ (l : List Num) (x : Num), x ∈ l → allocOp x.2.op = true → wantedE ops T x.2 = true → x ∈ rowsE ops T l := fun l x hx ha hw => (mem_filt _ _ _).2 ⟨hx, by rw [ha, sel_true]; exact hw⟩
      refine ⟨h1, fun x hx ha hw => Nat.le_of_ble_eq_true (h2 x (mem _ x hx ha hw)), fun x hx y hy hax hwx hay hwy hid => ?_⟩
      unfold distE at h
      rw [allE_iff] at h
      have h3 := h x (mem _ x hx hax hwx)
      rw [allE_iff] at h3
      have h4 := h3 y (mem _ y hy hay hwy)
      rw [sel_beq, if_pos hid] at h4
      exact Nat.eq_of_beq_eq_true h4

theorem phase_inv {es xs recs : List Num} (hxs : ∀ x ∈ xs, Soft x.2.op) (h : drawE P call nt ops M es xs recs T H n = .ok T' H' n') :
    ∃ T1 H1 n1 xs1 recs1 news, Phase P call nt ops n news recs1 T1 H1 n1 ∧ cont P call nt ops M es xs1 recs1 T1 H1 n1 = .ok T' H' n' ∧
      (∀ x, x ∈ recs ∨ x ∈ xs → x ∈ recs1 ∨ x ∈ xs1) ∧ (∀ x ∈ recs1, x ∈ recs ∨ (x ∈ xs ∧ x ∈ news)) ∧
      (∀ x ∈ xs1, x ∈ xs ∧ ∃ e es', es = e :: es' ∧ bitE (getW M x.1) e.1 = true) ∧
      (∀ t, (∀ x ∈ xs, x.2.dst ≠ some t) → getW T1 t = getW T t) ∧ Ahead H n H1 n1 ∧ (∀ x ∈ news, ∀ y ∈ xs1, y.1 ≠ x.1) := by
  cases es with
  | nil =>
    have e : drawE P call nt ops M [] xs recs T H n = segE P call nt ops xs T H n fun T1 H1 n1 => sel (phaseE P call nt ops n xs (app xs recs) T1 H1 n1) (.ok T1 H1 n1) (.bad 6) := rfl
    rw [e] at h
    obtain ⟨T1, H1, n1, h1, h2, h3⟩ := segE_inv (by simp) xs T H n hxs h
    rw [sel_eq] at h1
    split at h1
    · rename_i hc
      refine ⟨T1, H1, n1, [], app xs recs, xs, phase_of hc, h1, fun x hx => .inl ((mem_app _ _ _).2 hx.symm), fun x hx => ?_, (by intro x hx; cases hx), h2, h3, (by intro x _ y hy; cases hy)⟩
      rcases (mem_app _ _ _).1 hx with h | h
      · exact .inr ⟨h, h⟩
      · exact .inl h
    · cases h1
  | cons e es' =>
    have eq : drawE P call nt ops M (e :: es') xs recs T H n = segE P call nt ops (filt (fun x => sel (bitE (getW M x.1) e.1) false true) xs) T H n fun T1 H1 n1 =>
        sel (phaseE P call nt ops n (filt (fun x => sel (bitE (getW M x.1) e.1) false true) xs) (app (filt (fun x => sel (bitE (getW M x.1) e.1) false true) xs) recs) T1 H1 n1)
          (cont P call nt ops M (e :: es') (filt (fun x => bitE (getW M x.1) e.1) xs) (app (filt (fun x => sel (bitE (getW M x.1) e.1) false true) xs) recs) T1 H1 n1) (.bad 6) := rfl
    rw [eq] at h
    obtain ⟨T1, H1, n1, h1, h2, h3⟩ := segE_inv (by simp) _ T H n (fun x hx => hxs x ((mem_filt _ _ _).1 hx).1) h
    rw [sel_eq] at h1
    split at h1
    · rename_i hc
      refine ⟨T1, H1, n1, _, _, _, phase_of hc, h1, fun x hx => ?_, fun x hx => ?_, fun x hx => ?_, fun t ht => h2 t fun x hx => ht x ((mem_filt _ _ _).1 hx).1, h3, fun x hx y hy hxy => ?_⟩
      · rw [mem_app, mem_filt, mem_filt]
        rcases hx with hx | hx
        · exact .inl (.inr hx)
        · by_cases hb : bitE (getW M x.1) e.1 = true
          · exact .inr ⟨hx, hb⟩
          · exact .inl (.inl ⟨hx, by simp [hb, sel_false]⟩)
      · rcases (mem_app _ _ _).1 hx with h | h
        · exact .inr ⟨((mem_filt _ _ _).1 h).1, h⟩
        · exact .inl h
      · have := (mem_filt _ _ _).1 hx
        exact ⟨this.1, e, es', rfl, this.2⟩
      · have a1 := ((mem_filt _ _ _).1 hx).2
        have a2 := ((mem_filt _ _ _).1 hy).2
        rw [hxy] at a2
        rw [a2, sel_true] at a1; cases a1
    · cases h1

/-! ### chains -/
theorem chain_cons (e : Num) (r : List Num) (p : Nat) : chainE M (e :: r) p = sel (sel (Nat.beq p 0) true (bitE (getW M e.1) (Nat.pred p))) (chainE M r (Nat.succ e.1)) false := rfl
theorem chain_weak : ∀ (r : List Num) (p : Nat), chainE M r p = true → chainE M r 0 = true
  | [], _, _ => rfl
  | e :: r, p, h => by
    rw [chain_cons] at h ⊢
    rw [sel_eq] at h
    split at h
    · simpa [sel_true] using h
    · cases h
theorem chain_tail {e : Num} {r : List Num} {p : Nat} (h : chainE M (e :: r) p = true) : chainE M r (e.1 + 1) = true := by
  rw [chain_cons, sel_eq] at h
  split at h
  · exact h
  · cases h
theorem chain_mem : ∀ (r : List Num) (e : Num) (p : Nat), chainE M (e :: r) p = true → ∀ y ∈ r, ∃ z ∈ e :: r, bitE (getW M y.1) z.1 = true
  | [], _, _, _, y, hy => by cases hy
  | a :: r, e, p, h, y, hy => by
    have h1 := chain_tail h
    rcases List.mem_cons.1 hy with rfl | hy
    · rw [chain_cons, sel_eq] at h1
      split at h1
      · rename_i hb
        exact ⟨e, List.mem_cons_self, by simpa [sel_eq] using hb⟩
      · cases h1
    · obtain ⟨z, hz, hb⟩ := chain_mem r a _ h1 y hy
      exact ⟨z, List.mem_cons_of_mem _ hz, hb⟩

/-! ### how many are left -/
def cnt (ops : Array Oper) (ls : Array Bool) : Nat := (List.range ops.size).countP fun i => !(dn ls i)
theorem countP_lt {p q : Nat → Bool} {j : Nat} : ∀ (l : List Nat), (∀ i, q i = true → p i = true) → j ∈ l → p j = true → q j = false → l.countP q < l.countP p
  | [], _, h, _, _ => by cases h
  | a :: l, hpq, h, h1, h2 => by
    rw [List.countP_cons, List.countP_cons]
    have hle : l.countP q ≤ l.countP p := List.countP_mono_left fun i _ hi => hpq i hi
    rcases List.mem_cons.1 h with rfl | h
    · simp [h1, h2]; omega
    · have := countP_lt l hpq h h1 h2
      have h3 : (if q a = true then 1 else 0) ≤ (if p a = true then 1 else 0) := by
        by_cases hq : q a = true
        · simp [hq, hpq a hq]
        · simp [hq]
      omega
theorem dn_set {ls : Array Bool} {j : Nat} (hj : j < ls.size) (i : Nat) : dn (ls.setIfInBounds j true) i = (if i = j then true else dn ls i) := by
  unfold dn
  by_cases h : i = j
  · subst h; simp [Array.getD_eq_getD_getElem?, hj]
  · simp only [Array.getD_eq_getD_getElem?, Array.getElem?_setIfInBounds]
    rw [if_neg (by omega), if_neg h]
theorem Closed.set {ls : Array Bool} (hc : Closed ops ls) {j : Nat} {o : Oper} (ho : ops[j]? = some o) (hp : ∀ e ∈ o.after, bindsE e = true → dn ls e.on = true) : Closed ops (ls.setIfInBounds j true) := by
  have hj : j < ls.size := by rw [hc.size]; exact (Array.getElem?_eq_some_iff.1 ho).1
  refine ⟨by simp [hc.size], fun i oi hoi hd e he hb => ?_⟩
  rw [dn_set hj]
  rw [dn_set hj] at hd
  split
  · rfl
  · by_cases h : i = j
    · subst h
      rw [ho] at hoi; injection hoi with hoi; subst hoi
      exact hp e he hb
    · rw [if_neg h] at hd
      exact hc.clo i oi hoi hd e he hb
theorem cnt_set {ls : Array Bool} (hc : Closed ops ls) {j : Nat} {o : Oper} (ho : ops[j]? = some o) (hd : dn ls j = false) : cnt ops (ls.setIfInBounds j true) < cnt ops ls := by
  have hjs := (Array.getElem?_eq_some_iff.1 ho).1
  have hj : j < ls.size := by rw [hc.size]; exact hjs
  refine countP_lt (j := j) _ (fun i hi => ?_) (by simpa using hjs) (by simp [hd]) (by simp [dn_set hj])
  rw [dn_set hj] at hi
  split at hi
  · simp at hi
  · exact hi
theorem cnt_zero {ls : Array Bool} (h : cnt ops ls ≤ 0) : ∀ i, i < ops.size → dn ls i = true := by
  intro i hi
  have h0 : cnt ops ls = 0 := by omega
  unfold cnt at h0
  rw [List.countP_eq_zero] at h0
  have := h0 i (by simpa using hi)
  simpa using this

theorem ready_iff {ls : Array Bool} (hc : Closed ops ls) (j : Nat) : j ∈ Region.ready .any ops ls ↔ dn ls j = false ∧ ∃ o, ops[j]? = some o ∧ ∀ e ∈ o.after, bindsE e = true → dn ls e.on = true := by
  rw [mem_ready]
  constructor
  · rintro ⟨h1, o, h2, h3⟩
    have hj : j < ls.size := by rw [hc.size]; exact (Array.getElem?_eq_some_iff.1 h2).1
    refine ⟨?_, o, h2, fun e he hb => h3 e he (by rw [← binds_any]; exact hb)⟩
    unfold dn
    simpa [Array.getD_eq_getD_getElem?, hj] using h1
  · rintro ⟨h1, o, h2, h3⟩
    have hj : j < ls.size := by rw [hc.size]; exact (Array.getElem?_eq_some_iff.1 h2).1
    refine ⟨?_, o, h2, fun e he hb => h3 e he (by rw [binds_any]; exact hb)⟩
    unfold dn at h1
    simpa [Array.getD_eq_getD_getElem?, hj] using h1

theorem all_done {R : Nat} (hs : Stat ops M R) {ls : Array Bool} (hc : Closed ops ls) (h : Region.ready .any ops ls = []) : ∀ i, i < ops.size → dn ls i = true := by
  intro i
  induction i using Nat.strongRecOn with
  | _ i ih =>
    intro hi
    have ho : ops[i]? = some ops[i] := by simp [hi]
    cases hd : dn ls i with
    | true => rfl
    | false =>
      have hm : i ∈ Region.ready .any ops ls := (ready_iff hc i).2 ⟨hd, _, ho, fun e he hb => by
        have hl := hs.edge i _ ho e he hb
        exact ih e.on hl (by omega)⟩
      rw [h] at hm; cases hm

/-! ### one operation -/
noncomputable def putW (T : Nat) (dst : Option Tmp) (v : Nat) : Nat := match dst with | some d => setW T d v | none => T
theorem putW_ne {dst : Option Tmp} {t : Nat} (hv : ∀ d, dst = some d → v < 2 ^ 128) (h : dst ≠ some t) : getW (putW T dst v) t = getW T t := by
  cases dst with
  | none => rfl
  | some d => exact getW_setW_ne _ _ _ _ (hv d rfl) fun e => h (by rw [e])
theorem putW_same {d : Nat} (hv : v < 2 ^ 128) : getW (putW T (some d) v) d = v := getW_setW_same _ _ _ hv

theorem TR.put {x : Value} {dst : Option Tmp} (ht : TR ρ L nt T tmps) (hd : ∀ d, dst = some d → d < nt ∧ v < 2 ^ 128) (hx : VR ρ L v x) : TR ρ L nt (putW T dst v) (putT tmps dst x) := by
  cases dst with
  | none => exact ht
  | some d => exact ht.set (hd d rfl).1 (hd d rfl).2 hx

theorem op_step (hcall : CallS P call) (rest : List Nat) (f : FFix) (ds : List Deferred) (k : List Item) (cs : List Frame) {j : Nat} {o : Oper} (ho : ops[j]? = some o) (c : Ctx base H n ρ L w) (ht : TR ρ L nt Tt tmps)
    (h : (wantedE ops Tt o = true ∧ opE P call Tt H n o.op = .ok v H1 n1) ∨ (wantedE ops Tt o = false ∧ v = 0 ∧ H1 = H ∧ n1 = n))
    (hd : ∀ d, o.dst = some d → d < nt ∧ v < 2 ^ 128) :
    ∃ ρ1 L1 w1 tmps1, Ctx base H1 n1 ρ1 L1 w1 ∧ TR ρ1 L1 nt (putW Tt o.dst v) tmps1 ∧ Ext ρ L ρ1 L1 ∧ Below base w w1 ∧ Loc H n ρ L ρ1 L1 ∧ n ≤ n1 ∧
      Steps P (lone (mkF f tmps ds (.inRegion ops (j :: rest) :: k)) cs w) (lone (mkF f tmps1 ds (.inRegion ops rest :: k)) cs w1) := by
  rw [wanted_sound ht o] at h
  rcases h with ⟨hw, hop⟩ | ⟨hw, rfl, rfl, rfl⟩
  · obtain ⟨ρ1, L1, w1, x, c1, e1, b1, l1, hn1, hv, hdo⟩ := opE_sound (cfr := mkF f tmps ds (.inRegion ops (j :: rest) :: k)) (ccs := cs) c ht hcall hop
    exact ⟨ρ1, L1, w1, _, c1, (ht.mono e1).put hd hv, e1, b1, l1, hn1, st_op ho hw (opE_notDefer (o := o) hop) hdo⟩
  · exact ⟨ρ, L, w, _, c, ht.put hd .undef, .refl _ _, Below.refl _ _, .refl _ _ _ _, Nat.le_refl _, st_opSkip ho hw⟩

theorem calm_step (hcall : CallS P call) (rest : List Nat) (f : FFix) (ds : List Deferred) (k : List Item) (cs : List Frame) {j : Nat} {o : Oper} (ho : ops[j]? = some o) (ht : TR ρ L nt Tt tmps)
    (hw : wantedE ops Tt o = true) (hnd : notDefer o.op = true) {x : Value} (hx : VR ρ L v x) (hdo : OpDone P tmps o w (mkF f tmps ds (.inRegion ops (j :: rest) :: k)) cs x w)
    (hd : ∀ d, o.dst = some d → d < nt ∧ v < 2 ^ 128) :
    ∃ tmps1, TR ρ L nt (putW Tt o.dst v) tmps1 ∧ Steps P (lone (mkF f tmps ds (.inRegion ops (j :: rest) :: k)) cs w) (lone (mkF f tmps1 ds (.inRegion ops rest :: k)) cs w) := by
  rw [wanted_sound ht o] at hw
  exact ⟨_, ht.put hd hx, st_op ho hw hnd hdo⟩

theorem wantedE_congr {o : Oper} (h : ∀ d ∈ guardT ops o, getW T d = getW Tt d) : wantedE ops T o = wantedE ops Tt o := by
  unfold wantedE
  unfold guardT at h
  cases hg : o.guard with
  | none => rfl
  | some jw =>
    obtain ⟨j, want⟩ := jw
    rw [hg] at h
    simp only at h ⊢
    cases hd : (ops[j]?).bind (·.dst) with
    | none => rfl
    | some d =>
      rw [hd] at h
      simp only at h ⊢
      rw [h d (by simp)]

def Agr (ops : Array Oper) (R : Nat) (ls : Array Bool) (Tt T : Nat) : Prop := ∀ t, (∀ i o, ops[i]? = some o → dn ls i = false → softX R (i, o) = true → o.dst ≠ some t) → getW Tt t = getW T t

theorem sameBox_inv {a b : Option Blk} {k m c : Nat} (h : sameBox a b = true) (ha : a = some (.box k m c)) : b = some (.box k m c) := by
  subst ha
  cases b with
  | none => cases h
  | some k2 =>
    cases k2 with
    | box k2 m2 c2 =>
      have h : sel (Nat.beq k k2) (sel (Nat.beq m m2) (Nat.beq c c2) false) false = true := h
      rw [sel_beq, sel_beq] at h
      split at h
      · rename_i q1
        split at h
        · rename_i q2
          have q3 := Nat.eq_of_beq_eq_true h
          subst q1; subst q2; subst q3
          rfl
        · cases h
      · cases h
    | _ => cases h
theorem samePoly_inv {a b : Option Blk} {p q s d lo hi : Nat} (h : sameBox a b = true) (ha : a = some (.poly p q s d lo hi)) : b = some (.poly p q s d lo hi) := by
  subst ha
  cases b with
  | none => cases h
  | some k2 =>
    cases k2 with
    | poly p' q' s' d' lo' hi' =>
      have h : sel (Nat.beq p p') (sel (Nat.beq q q') (sel (Nat.beq s s') (sel (Nat.beq d d') (sel (Nat.beq lo lo') (Nat.beq hi hi') false) false) false) false) false = true := h
      have st : ∀ {a b : Nat} {r : Bool}, sel (Nat.beq a b) r false = true → a = b ∧ r = true := by
        intro a b r h
        rw [sel_beq] at h
        split at h
        · exact ⟨by assumption, h⟩
        · cases h
      obtain ⟨q1, h⟩ := st h
      obtain ⟨q2, h⟩ := st h
      obtain ⟨q3, h⟩ := st h
      obtain ⟨q4, h⟩ := st h
      obtain ⟨q5, h⟩ := st h
      have q6 := Nat.eq_of_beq_eq_true h
      subst q1; subst q2; subst q3; subst q4; subst q5; subst q6
      rfl
    | _ => cases h
theorem polyW_parts (n : Nat) : tagOf (polyW n) = 7 ∧ xKind (payOf (polyW n)) = 0 ∧ xNum (payOf (polyW n)) = n := by
  have hp : payOf (polyW n) = 16 + 4 * n := by
    show (16 * (16 + 4 * n) + 7) / 16 = _
    omega
  refine ⟨tag_mk7 _, ?_, ?_⟩
  · rw [hp]; unfold xKind; rw [sel_ltb, if_neg (by omega)]; show (16 + 4 * n) % 4 = 0; omega
  · rw [hp]; show (16 + 4 * n - 16) / 4 = n; omega
theorem polyW_of {w : Nat} (h : tagOf w = 7) (hk : xKind (payOf w) = 0) : w = polyW (xNum (payOf w)) := by
  unfold xKind at hk
  rw [sel_ltb] at hk
  split at hk
  · cases hk
  · have hm : payOf w % 4 = 0 := hk
    have e1 : payOf w = w / 16 := rfl
    have e2 : tagOf w = w % 16 := rfl
    show w = 16 * (16 + 4 * ((payOf w - 16) / 4)) + 7
    omega
theorem wBox_poly {w p q s d lo hi : Nat} (h7 : tagOf w = 7) (h : wBox H w = some (.poly p q s d lo hi)) : ∃ id, w = polyW id ∧ tget H id = some (.poly p q s d lo hi) := by
  unfold wBox at h
  rw [sel_beq, if_neg (by omega), sel_beq, if_neg (by omega), sel_beq, if_pos h7, sel_beq] at h
  split at h
  · rename_i hk
    exact ⟨_, polyW_of h7 hk, h⟩
  · cases h
theorem dstBox_inv {dst : Option Tmp} {k : Blk} (hk : IsBox k) (hD : Dep 14 H) (hn : n < 16384) (h : dstBox nt T H (hset H n k) dst (wdOf k n) = true) :
    ∀ d, dst = some d → d < nt ∧ ∃ id, getW T d = wdOf k id ∧ tget H id = some k := by
  rintro d rfl
  unfold dstBox at h
  simp only at h
  rw [sel_ltb] at h
  split at h
  · rename_i hd
    rw [sel_beq] at h
    split at h
    · rename_i ht
      refine ⟨hd, ?_⟩
      cases k with
      | box kd m c =>
        refine ⟨payOf (getW T d), ?_⟩
        have hself : tget (hset H n (.box kd m c)) n = some (.box kd m c) := by rw [tget_hset hD hn, if_pos rfl]
        have e : wdOf (.box kd m c) n = if kd = 2 ∨ kd = 3 then mk 10 n else mk 6 n := rfl
        by_cases h2 : kd = 2 ∨ kd = 3
        · have e1 : ∀ j, wdOf (.box kd m c) j = mk 10 j := fun j => by show (if kd = 2 ∨ kd = 3 then mk 10 j else mk 6 j) = _; rw [if_pos h2]
          rw [e1, tag_mk10] at ht
          have w1 : wBox (hset H n (.box kd m c)) (wdOf (.box kd m c) n) = some (.box kd m c) := by
            rw [e1]; unfold wBox
            rw [tag_mk10, payOf_mk 10 n (by omega)]; exact hself
          have w2 := sameBox_inv h w1
          unfold wBox at w2
          rw [ht] at w2
          refine ⟨?_, w2⟩
          rw [e1, ← ht]; exact wordOf _
        · have e1 : ∀ j, wdOf (.box kd m c) j = mk 6 j := fun j => by show (if kd = 2 ∨ kd = 3 then mk 10 j else mk 6 j) = _; rw [if_neg h2]
          rw [e1, tag_mk6] at ht
          have w1 : wBox (hset H n (.box kd m c)) (wdOf (.box kd m c) n) = some (.box kd m c) := by
            rw [e1]; unfold wBox
            rw [tag_mk6, payOf_mk 6 n (by omega)]; exact hself
          have w2 := sameBox_inv h w1
          unfold wBox at w2
          rw [ht] at w2
          refine ⟨?_, w2⟩
          rw [e1, ← ht]; exact wordOf _
      | poly p q s d0 lo hi =>
        have hself : tget (hset H n (.poly p q s d0 lo hi)) n = some (.poly p q s d0 lo hi) := by rw [tget_hset hD hn, if_pos rfl]
        have e : wdOf (.poly p q s d0 lo hi) n = polyW n := rfl
        rw [e] at h ht
        have w1 : wBox (hset H n (.poly p q s d0 lo hi)) (polyW n) = some (.poly p q s d0 lo hi) := by
          obtain ⟨k1, k2, k3⟩ := polyW_parts n
          unfold wBox
          rw [k1, k2, k3]
          exact hself
        obtain ⟨id, hw, w2⟩ := wBox_poly (by rw [ht]; exact tag_mk7 _) (samePoly_inv h w1)
        exact ⟨id, hw, w2⟩
      | _ => exact hk.elim
    · cases h
  · cases h
theorem dstIs_inv {dst : Option Tmp} (h : dstIs nt T dst v = true) : ∀ d, dst = some d → getW T d = v ∧ d < nt ∧ v < 2 ^ 128 := by
  rintro d rfl
  unfold dstIs at h
  simp only at h
  rw [sel_ltb] at h
  split at h
  · rename_i hd
    have := Nat.eq_of_beq_eq_true h
    exact ⟨this, hd, this ▸ getW_lt _ _⟩
  · cases h
end
end Go.Eng

/- Regions that draw their order: the whole. -/
namespace Go.Eng
set_option linter.unusedSectionVars false
set_option linter.unusedSimpArgs false
set_option linter.unusedVariables false
open Go Go.RowKit
variable [E : Env]

theorem lin_cases (ops : Array Oper) (fuel t : Nat) (ls : Array Bool) :
    (Region.ready .any ops ls = [] ∧ Region.linearise.go .any ops (fuel + 1) t ls [] = []) ∨
    ∃ i t', i ∈ Region.ready .any ops ls ∧ Region.linearise.go .any ops (fuel + 1) t ls [] = i :: Region.linearise.go .any ops fuel t' (ls.setIfInBounds i true) [] := by
  simp only [Region.linearise.go]
  change (_ ∧ (match (Region.ready .any ops ls)[t % (Region.ready .any ops ls).length]? with
      | some i => Region.linearise.go .any ops fuel (t / (Region.ready .any ops ls).length) (ls.setIfInBounds i true) [i]
      | none => [].reverse) = _) ∨ ∃ i t', _ ∧ (match (Region.ready .any ops ls)[t % (Region.ready .any ops ls).length]? with
      | some i => Region.linearise.go .any ops fuel (t / (Region.ready .any ops ls).length) (ls.setIfInBounds i true) [i]
      | none => [].reverse) = _
  cases hi : (Region.ready .any ops ls)[t % (Region.ready .any ops ls).length]? with
  | none =>
    left
    refine ⟨?_, rfl⟩
    cases hr : Region.ready .any ops ls with
    | nil => rfl
    | cons x xs =>
      rw [hr] at hi
      have hlt : t % (x :: xs).length < (x :: xs).length := Nat.mod_lt _ (by simp)
      simp at hi
      simp at hlt
      omega
  | some i =>
    right
    refine ⟨i, t / (Region.ready .any ops ls).length, List.mem_of_getElem? hi, ?_⟩
    simp only
    rw [linearise_go_acc, List.reverse_singleton, List.singleton_append]

section
variable {base : Nat} {H' : Trie} {n' nt T' M : Nat} {P : Program} {ops : Array Oper} {call : Nat → List Nat → Trie → Nat → OR}

structure Inv (ops : Array Oper) (M R : Nat) (ls : Array Bool) (es xs recs : List Num) : Prop where
  cov : ∀ i o, ops[i]? = some o → dn ls i = false → ((i, o) : Num) ∈ recs ∨ ((i, o) : Num) ∈ es ∨ ((i, o) : Num) ∈ xs
  esI : ∀ x ∈ es, ops[x.1]? = some x.2 ∧ dn ls x.1 = false ∧ softX R x = false
  recsI : ∀ x ∈ recs, ops[x.1]? = some x.2 ∧ softX R x = true
  xsI : ∀ x ∈ xs, ops[x.1]? = some x.2 ∧ softX R x = true ∧ ∃ e es', es = e :: es' ∧ bitE (getW M x.1) e.1 = true
  chain : chainE M es 0 = true
  dis : ∀ x ∈ recs, ∀ y ∈ xs, y.1 ≠ x.1

/-- Rows that the evaluator has made and the machine has not: no place. -/
def Bare (ops : Array Oper) (ls : Array Bool) (T n0 : Nat) (ρ : Rho) (recs : List Num) : Prop :=
  ∀ x ∈ recs, dn ls x.1 = false → allocOp x.2.op = true → wantedE ops T x.2 = true → ρ (idE T x) = none ∧ n0 ≤ idE T x
def Dist (ops : Array Oper) (T : Nat) (recs : List Num) : Prop :=
  ∀ x ∈ recs, ∀ y ∈ recs, allocOp x.2.op = true → wantedE ops T x.2 = true → allocOp y.2.op = true → wantedE ops T y.2 = true → idE T x = idE T y → x.1 = y.1

theorem soft_of {R : Nat} {x : Num} (h : softX R x = true) : Soft x.2.op := by
  unfold softX effX at h
  cases hh : hardE R x with
  | true => rw [hh] at h; cases h
  | false =>
    rw [hh, sel_false] at h
    unfold effOp at h
    cases hq : quietOp x.2.op with
    | true => exact .inl hq
    | false =>
      cases ha : allocOp x.2.op with
      | true => exact .inr ha
      | false => rw [hq, ha] at h; cases h
theorem eff_of {R : Nat} {x : Num} (h : effX R x = true) : softX R x = false := by unfold softX; rw [h]; rfl
theorem alloc_word {op : Op} {T : Nat} {H H1 : Trie} {n n1 v : Nat} (ha : allocOp op = true) (h : opE P call T H n op = .ok v H1 n1) : v ≠ 0 := by
  have tg : ∀ {k : Nat}, tagOf v = k → k ≠ 0 → v ≠ 0 := fun h1 h2 h3 => by rw [h3] at h1; exact h2 h1.symm
  cases op with
  | alloc t =>
    simp only [opE_eq, opX] at h
    rw [sel_eq] at h
    split at h
    · have h := sel_ok h
      obtain ⟨hn, hk⟩ := fresh_info h (by simp)
      injection hk with h1 h2 h3
      exact tg (k := 3) (by rw [← h1]; exact tag_wP _ _) (by decide)
    · obtain ⟨_, _, _, _, _, h1⟩ := allocA_shape h
      exact tg (k := 3) (by rw [h1]; exact tag_wP _ _) (by decide)
  | box t x =>
    simp only [opE_eq, opX] at h
    rw [sel_eq] at h
    split at h
    · obtain ⟨hn, hk⟩ := fresh_info h (by simp)
      injection hk with h1 h2 h3
      exact tg (k := 3) (by rw [← h1]; exact tag_wP _ _) (by decide)
    · obtain ⟨_, _, _, _, _, h1⟩ := boxA_shape h
      exact tg (k := 3) (by rw [h1]; exact tag_wP _ _) (by decide)
  | buildSlice t len ps =>
    simp only [opE_eq, opX] at h
    obtain ⟨e, hu, _, h⟩ := telem_inv h rfl (by simp)
    rw [sel_eq] at h
    split at h
    · have h := sel_ok (sel_ok h)
      split at h
      · obtain ⟨hn, hk⟩ := fresh_info h (by simp)
        injection hk with h1 h2 h3
        exact tg (k := 4) (by rw [← h1]; exact tag_wS _ _ _ _ _) (by decide)
      · cases h
    · obtain ⟨_, _, _, _, _, h1⟩ := buildSliceA_shape h
      exact tg (k := 4) (by rw [h1]; exact tag_wS _ _ _ _ _) (by decide)
  | makeSlice t l c =>
    simp only [opE_eq, opX] at h
    obtain ⟨e, hu, _, h⟩ := telem_inv h rfl (by simp)
    have h := sel_ok (sel_ok h)
    obtain ⟨_, h⟩ := isI_inv h (by simp)
    obtain ⟨_, h⟩ := isI_inv h (by simp)
    have h := sel_ok (sel_ok (sel_ok h))
    obtain ⟨hn, hk⟩ := fresh_info h (by simp)
    injection hk with h1 h2 h3
    exact tg (k := 4) (by rw [← h1]; exact tag_wS _ _ _ _ _) (by decide)
  | _ => cases ha

theorem sameBlk_inv {a b : Option Blk} {n c g k s m : Nat} (h : sameBlk a b = true) (ha : a = some (.cells n c g k s m)) : b = some (.cells n c g k s m) := by
  subst ha
  unfold sameBlk at h
  split at h
  · rename_i n1 c1 g1 k1 s1 m1 n2 c2 g2 k2 s2 m2 e1
    injection e1 with e1; injection e1 with e1 e2 e3 e4 e5 e6
    subst e1; subst e2; subst e3; subst e4; subst e5; subst e6
    rw [sel_beq, sel_beq, sel_beq, sel_beq, sel_beq] at h
    split at h
    · rename_i q1
      split at h
      · rename_i q2
        split at h
        · rename_i q3
          split at h
          · rename_i q4
            split at h
            · rename_i q5
              have q6 := Nat.eq_of_beq_eq_true h
              subst q1; subst q2; subst q3; subst q4; subst q5; subst q6
              rfl
            · cases h
          · cases h
        · cases h
      · cases h
    · cases h
  · cases h

/-- What the check of a row shows. -/
theorem chkA_inv {T : Nat} {H : Trie} {x : Num} (ha : allocOp x.2.op = true) (hd16 : Dep 14 H) (h : chkA P call nt T H x = true) :
    ∃ d H1 n1 len ch, x.2.dst = some d ∧ d < nt ∧ idE T x = blkOf (getW T d) ∧ opE P call T H (idE T x) x.2.op = .ok (getW T d) H1 n1 ∧ H1 = hset H (idE T x) (.cells len ch (idE T x + 1) (idE T x) (idE T x) len) ∧
      tget H (idE T x) = some (.cells len ch (idE T x + 1) (idE T x) (idE T x) len) ∧ getW T d ≠ 0 := by
  unfold chkA at h
  cases hdst : x.2.dst with
  | none => rw [hdst] at h; cases h
  | some d =>
    have hid : idE T x = blkOf (getW T d) := by unfold idE; rw [hdst]
    rw [hdst] at h
    simp only at h
    rw [sel_ltb] at h
    split at h
    · rename_i hdn
      rw [← hid] at h
      split at h
      · rename_i w H1 n1 hop
        rw [sel_beq] at h
        split at h
        · rename_i hw
          subst hw
          obtain ⟨len, ch, h1, h2, h3⟩ := alloc_shape ha hop
          refine ⟨d, H1, n1, len, ch, rfl, hdn, hid, hop, h1, ?_, ?_⟩
          · refine sameBlk_inv h ?_
            rw [h1, tget_hset hd16 h3, if_pos rfl]
          · intro hz
            rw [hz] at hop
            have := alloc_word ha hop
            exact this rfl
        · cases h
      · cases h
    · cases h

theorem go_sound {R : Nat} (hcall : CallS P call) (hs : Stat ops M R) (hM : MaskOk ops M) (f : FFix) (ds : List Deferred) (k : List Item) (cs : List Frame) (n0 : Nat) : ∀ (fuel tt : Nat) (ls : Array Bool) (es xs recs : List Num) (T : Nat) (H : Trie) (n Tt : Nat) (tmps : Array Value) (ρ : Rho) (L : Look) (w : World),
    Closed ops ls → cnt ops ls ≤ fuel → Inv ops M R ls es xs recs → chkE P call nt ops T H n recs = true → Dist ops T recs → Bare ops ls T n0 ρ recs → n0 ≤ n → cont P call nt ops M es xs recs T H n = .ok T' H' n' →
    Ctx base H n ρ L w → TR ρ L nt Tt tmps → Agr ops R ls Tt T →
    ∃ ρ' L' w' tmps', Ctx base H' n' ρ' L' w' ∧ TR ρ' L' nt T' tmps' ∧ Ext ρ L ρ' L' ∧ Below base w w' ∧ Loc H n0 ρ L ρ' L' ∧ n ≤ n' ∧
      Steps P (lone (mkF f tmps ds (.inRegion ops (Region.linearise.go .any ops fuel tt ls []) :: k)) cs w) (lone (mkF f tmps' ds (.inRegion ops [] :: k)) cs w') := by
  intro fuel
  have fin : ∀ (ls : Array Bool) (es xs recs : List Num) (T : Nat) (H : Trie) (n Tt : Nat) (tmps : Array Value) (ρ : Rho) (L : Look) (w : World),
      (∀ i, i < ops.size → dn ls i = true) → Inv ops M R ls es xs recs → cont P call nt ops M es xs recs T H n = .ok T' H' n' →
      Ctx base H n ρ L w → TR ρ L nt Tt tmps → Agr ops R ls Tt T →
      ∃ ρ' L' w' tmps', Ctx base H' n' ρ' L' w' ∧ TR ρ' L' nt T' tmps' ∧ Ext ρ L ρ' L' ∧ Below base w w' ∧ Loc H n0 ρ L ρ' L' ∧ n ≤ n' ∧
      Steps P (lone (mkF f tmps ds (.inRegion ops [] :: k)) cs w) (lone (mkF f tmps' ds (.inRegion ops [] :: k)) cs w') := by
    intro ls es xs recs T H n Tt tmps ρ L w hd hI hc c ht ha
    cases es with
    | cons e es' =>
      obtain ⟨h1, h2, _⟩ := hI.esI e List.mem_cons_self
      rw [hd e.1 (Array.getElem?_eq_some_iff.1 h1).1] at h2
      cases h2
    | nil =>
      have hc' : RR.ok T H n = .ok T' H' n' := hc
      injection hc' with a1 a2 a3
      subst a1; subst a2; subst a3
      refine ⟨ρ, L, w, tmps, c, ⟨ht.1, fun t => ?_⟩, .refl _ _, Below.refl _ _, .refl _ _ _ _, Nat.le_refl _, Steps.refl _ _⟩
      rw [← ha t fun i o ho hno _ => by rw [hd i (Array.getElem?_eq_some_iff.1 ho).1] at hno; cases hno]
      exact ht.2 t
  induction fuel with
  | zero =>
    intro tt ls es xs recs T H n Tt tmps ρ L w hcl hcnt hI hch hdist hbare hn0 hc c ht ha
    have h0 : Region.linearise.go .any ops 0 tt ls [] = [] := rfl
    rw [h0]
    exact fin ls es xs recs T H n Tt tmps ρ L w (cnt_zero hcnt) hI hc c ht ha
  | succ fuel ih =>
    intro tt ls es xs recs T H n Tt tmps ρ L w hcl hcnt hI hch hdist hbare hn0 hc c ht ha
    rcases lin_cases ops fuel tt ls with ⟨hr, hg⟩ | ⟨j, tt', hj, hg⟩
    · rw [hg]
      exact fin ls es xs recs T H n Tt tmps ρ L w (all_done hs hcl hr) hI hc c ht ha
    · obtain ⟨hjd, o, ho, hpre⟩ := (ready_iff hcl j).1 hj
      have hbit : ∀ i, bitE (getW M j) i = true → dn ls i = true := fun i hb => hM ls hcl j o ho hpre i hb
      have hopd : ∀ d, (d ∈ tmpsOf o.op.operands.toList ∨ d ∈ guardT ops o) → getW Tt d = getW T d := fun d hd => ha d fun i o' ho' hno hso hdst => by
        have := hbit i (hs.reads j o d i o' ho hd ho' hso hdst)
        rw [hno] at this; cases this
      have hw : wantedE ops Tt o = wantedE ops T o := wantedE_congr fun d hd => hopd d (.inr hd)
      have hop : opE P call Tt H n o.op = opE P call T H n o.op := opE_congr fun x hx => ev_of_tmps (fun d hd => hopd d (.inl hd)) x (by simpa using hx)
      have hcl' := hcl.set ho hpre
      have hcnt' : cnt ops (ls.setIfInBounds j true) ≤ fuel := by have := cnt_set hcl ho hjd; omega
      have hjs : j < ls.size := by rw [hcl.size]; exact (Array.getElem?_eq_some_iff.1 ho).1
      have hund : ∀ i, dn (ls.setIfInBounds j true) i = false → dn ls i = false ∧ i ≠ j := by
        intro i hi
        rw [dn_set hjs] at hi
        split at hi
        · cases hi
        · exact ⟨hi, by assumption⟩
      have hund' : ∀ i, dn ls i = false → i ≠ j → dn (ls.setIfInBounds j true) i = false := by
        intro i hi hne
        rw [dn_set hjs, if_neg hne]; exact hi
      have agr1 : ∀ t, (∀ i o', ops[i]? = some o' → dn (ls.setIfInBounds j true) i = false → softX R (i, o') = true → o'.dst ≠ some t) → o.dst ≠ some t → getW Tt t = getW T t := by
        intro t h1 h2
        refine ha t fun i o' ho' hno hso => ?_
        by_cases hij : i = j
        · subst hij; rw [ho] at ho'; injection ho' with ho'; subst ho'; exact h2
        · exact h1 i o' ho' (hund' i hno hij) hso
      rw [hg]
      have hxund : ∀ x ∈ xs, dn ls x.1 = false := by
        intro x hx
        obtain ⟨hxo, _, e, es', he, hb⟩ := hI.xsI x hx
        cases hd : dn ls x.1 with
        | false => rfl
        | true =>
          have h1 := hM ls hcl x.1 x.2 hxo (hcl.clo _ _ hxo hd) e.1 hb
          have h2 := (hI.esI e (by rw [he]; exact List.mem_cons_self)).2.1
          rw [h1] at h2; cases h2
      rcases hI.cov j o ho hjd with hin | hin | hin
      · -- an operation that leaves the heap alone, or one that makes a row
        have hsx := (hI.recsI _ hin).2
        have hsoft : Soft o.op := soft_of hsx
        have hchk := (allE_iff _ _).1 hch _ hin
        have hI' : Inv ops M R (ls.setIfInBounds j true) es xs recs := by
          refine ⟨fun i o' ho' hno => hI.cov i o' ho' (hund i hno).1, fun x hx => ?_, hI.recsI, hI.xsI, hI.chain, hI.dis⟩
          obtain ⟨a1, a2, a3⟩ := hI.esI x hx
          refine ⟨a1, hund' _ a2 ?_, a3⟩
          intro hxj
          rw [hxj, ho] at a1; injection a1 with a1
          have : x = (j, o) := by rw [a1, ← hxj]
          rw [this] at a3; rw [hsx] at a3; cases a3
        rw [sel_eq] at hchk
        -- a step that leaves the evaluator's side alone
        have quiet : ∀ v : Nat, ((wantedE ops Tt o = true ∧ opE P call Tt H n o.op = .ok v H n) ∨ (wantedE ops Tt o = false ∧ v = 0 ∧ H = H ∧ n = n)) → dstIs nt T o.dst v = true →
            ∃ ρ' L' w' tmps', Ctx base H' n' ρ' L' w' ∧ TR ρ' L' nt T' tmps' ∧ Ext ρ L ρ' L' ∧ Below base w w' ∧ Loc H n0 ρ L ρ' L' ∧ n ≤ n' ∧
              Steps P (lone (mkF f tmps ds (.inRegion ops (j :: Region.linearise.go .any ops fuel tt' (ls.setIfInBounds j true) []) :: k)) cs w) (lone (mkF f tmps' ds (.inRegion ops [] :: k)) cs w') := by
          intro v hv hdst
          have hdi := dstIs_inv hdst
          obtain ⟨ρ1, L1, w1, tmps1, c1, ht1, e1, b1, l1, _, hst⟩ := op_step hcall (Region.linearise.go .any ops fuel tt' (ls.setIfInBounds j true) []) f ds k cs ho c ht hv fun d hd => ⟨(hdi d hd).2.1, (hdi d hd).2.2⟩
          have ha' : Agr ops R (ls.setIfInBounds j true) (putW Tt o.dst v) T := by
            intro t ht2
            by_cases hdt : o.dst = some t
            · rw [hdt, putW_same (hdi t hdt).2.2]; exact (hdi t hdt).1.symm
            · rw [putW_ne (fun d hd => (hdi d hd).2.2) hdt]; exact agr1 t ht2 hdt
          have hbare1 : Bare ops (ls.setIfInBounds j true) T n0 ρ1 recs := fun x hx hdx hax hwx => by
            obtain ⟨a1, a2⟩ := hbare x hx (hund _ hdx).1 hax hwx
            have hcx := (allE_iff _ _).1 hch _ hx
            rw [hwx, sel_true, hax, sel_true] at hcx
            obtain ⟨_, _, _, _, _, _, _, _, _, _, hg, _⟩ := chkA_inv hax c.agree.1 hcx
            exact ⟨(l1.bare _ (c.fresh.ltL (c.agree.2 _ _ hg)) a1).2, a2⟩
          obtain ⟨ρ2, L2, w2, tmps2, c2, ht2, e2, b2, l2, hn2, hst2⟩ := ih tt' _ es xs recs T H n _ tmps1 ρ1 L1 w1 hcl' hcnt' hI' hch hdist hbare1 hn0 hc c1 ht1 ha'
          exact ⟨ρ2, L2, w2, tmps2, c2, ht2, e1.trans e2, b1.trans b2, Loc.trans (⟨fun b hb hbn => l1.bare b (Nat.lt_of_lt_of_le hb hn0) hbn⟩ : Loc H n0 ρ L ρ1 L1) (Nat.le_refl _) l2, hn2, hst.trans hst2⟩
        split at hchk
        · rename_i hw1
          rw [sel_eq] at hchk
          split at hchk
          · -- a row is made now
            rename_i hal
            obtain ⟨d, H1, n1, len, ch, hd, hdn, hid, hopT, hH1, hget, hv0⟩ := chkA_inv hal c.agree.1 hchk
            have hid' : idE T (j, o) = blkOf (getW T d) := hid
            have hop' : opE P call Tt H (idE T (j, o)) o.op = .ok (getW T d) H1 n1 := by
              rw [show opE P call Tt H (idE T (j, o)) o.op = opE P call T H (idE T (j, o)) o.op from opE_congr fun x hx => ev_of_tmps (fun d hd => hopd d (.inl hd)) x (by simpa using hx)]
              exact hopT
            obtain ⟨len', ch', cells, ty, X, hm1, hm2, hm3, hm4, hm5, hm6, hm7⟩ := makes c ht hal hop'
            generalize hgi : idE T (j, o) = i at *
            have hLi : L i = some (.cells len ch (i + 1) i i len) := c.agree.2 _ _ hget
            have hsame : len' = len ∧ ch' = ch := by
              have h1 : tget H1 i = some (.cells len ch (i + 1) i i len) := by rw [hH1, tget_hset c.agree.1 hm3, if_pos rfl]
              rw [hm1, tget_hset c.agree.1 hm3, if_pos rfl] at h1
              injection h1 with h1; injection h1 with h1 h2
              exact ⟨h1, h2⟩
            obtain ⟨rfl, rfl⟩ := hsame
            have hlt : i < n := c.fresh.ltL hLi
            obtain ⟨hρ, hn0i⟩ := hbare _ hin hjd hal hw1
            rw [hgi] at hρ hn0i
            obtain ⟨c1, e1⟩ := c.made (w' := { w with heap := w.heap.push (.cells cells ty) }) hlt hρ hLi rfl hm4 hm5
            have hbs := c.sim.bs
            have hv128 : getW T d < 2 ^ 128 := getW_lt _ _
            have ht1 : TR (updR ρ i (w.heap.size, 0, cells.size)) L nt (putW Tt o.dst (getW T d)) (putT tmps o.dst (X w.heap.size)) :=
              (ht.mono e1).put (fun d' hd' => by rw [hd] at hd'; injection hd' with hd'; subst hd'; exact ⟨hdn, hv128⟩) (hm7 _ _ _ (updR_same _ _ _))
            have ha' : Agr ops R (ls.setIfInBounds j true) (putW Tt o.dst (getW T d)) T := by
              intro t ht2
              by_cases hdt : o.dst = some t
              · have : d = t := by have h5 := hd; simp only at h5; rw [hdt] at h5; injection h5 with h5; exact h5.symm
                subst this
                rw [hdt, putW_same hv128]
              · rw [putW_ne (fun _ _ => hv128) hdt]; exact agr1 t ht2 hdt
            have hbare1 : Bare ops (ls.setIfInBounds j true) T n0 (updR ρ i (w.heap.size, 0, cells.size)) recs := fun x hx hdx hax hwx => by
              obtain ⟨hdx1, hdx2⟩ := hund _ hdx
              obtain ⟨a1, a2⟩ := hbare x hx hdx1 hax hwx
              refine ⟨?_, a2⟩
              rw [updR_ne _ _ ?_]
              · exact a1
              · intro heq
                exact hdx2 (hdist x hx (j, o) hin hax hwx hal hw1 (by rw [hgi]; exact heq))
            obtain ⟨ρ2, L2, w2, tmps2, c2, ht2, e2, b2, l2, hn2, hst2⟩ := ih tt' _ es xs recs T H n _ _ _ L _ hcl' hcnt' hI' hch hdist hbare1 hn0 hc c1 ht1 ha'
            refine ⟨ρ2, L2, w2, tmps2, c2, ht2, e1.trans e2, Below.trans (show Below base w { w with heap := w.heap.push (.cells cells ty) } from ⟨rfl, rfl, rfl, by simp, fun b hb => by rw [Array.getElem?_push, if_neg (by omega)]⟩) b2, Loc.trans (⟨fun b hb hbn => ⟨rfl, by rw [updR_ne _ _ (by omega)]; exact hbn⟩⟩ : Loc H n0 ρ L _ L) (Nat.le_refl _) l2, hn2, ?_⟩
            rw [wanted_sound ht o] at hw
            rw [hw1] at hw
            exact (st_op ho hw (opE_notDefer (o := o) hop') (.value (hm6 w))).trans hst2
          · rename_i hal
            have hq : quietOp o.op = true := by
              rcases hsoft with h | h
              · exact h
              · exact absurd h hal
            split at hchk
            · rename_i v H2 n2 hv
              rcases quiet_box hq hv with ⟨rfl, rfl⟩ | ⟨kb, hkb, rfl, rfl, hnlt⟩
              · rw [sel_beq, if_pos rfl] at hchk
                exact quiet v (.inl ⟨by rw [hw]; exact hw1, by rw [hop]; exact hv⟩) hchk
              · -- a box is made: that which was made ahead serves
                rw [sel_beq, if_neg (by omega)] at hchk
                have hv' : opE P call Tt H n o.op = .ok v (hset H n kb) (n + 1) := by rw [hop]; exact hv
                obtain ⟨x, hcx, hdo⟩ := calm_sound (cfr := mkF f tmps ds (.inRegion ops (j :: Region.linearise.go .any ops fuel tt' (ls.setIfInBounds j true) []) :: k)) (ccs := cs) c ht hq hv'
                rcases hcx with ⟨_, hbad, _⟩ | ⟨kb', hkb', e1, _, _, rfl, hvr⟩
                · omega
                have hkk : kb' = kb := by
                  have h1 : tget (hset H n kb) n = some kb := by rw [tget_hset c.agree.1 hnlt, if_pos rfl]
                  rw [e1, tget_hset c.agree.1 hnlt, if_pos rfl] at h1
                  injection h1
                subst hkk
                have hdi := dstBox_inv hkb' c.agree.1 hnlt hchk
                have hst : ∃ tmps1 Tt1, TR ρ L nt Tt1 tmps1 ∧ Agr ops R (ls.setIfInBounds j true) Tt1 T ∧
                    Steps P (lone (mkF f tmps ds (.inRegion ops (j :: Region.linearise.go .any ops fuel tt' (ls.setIfInBounds j true) []) :: k)) cs w) (lone (mkF f tmps1 ds (.inRegion ops (Region.linearise.go .any ops fuel tt' (ls.setIfInBounds j true) []) :: k)) cs w) := by
                  cases hdst : o.dst with
                  | none =>
                    have hw2 := hw1
                    rw [← hw, wanted_sound ht o] at hw2
                    have hst := st_op ho hw2 (opE_notDefer (o := o) hv') hdo
                    rw [hdst] at hst
                    exact ⟨tmps, Tt, ht, fun t ht2 => agr1 t ht2 (by rw [hdst]; simp), hst⟩
                  | some d =>
                    obtain ⟨hdn, id, hid, hg⟩ := hdi d hdst
                    have hlt : getW T d < 2 ^ 128 := getW_lt _ _
                    have hx2 : VR ρ L (getW T d) x := by rw [hid]; exact hvr ρ L id (Ext0.refl _ _) (c.agree.2 _ _ hg)
                    obtain ⟨tmps1, ht1, hst⟩ := calm_step hcall (Region.linearise.go .any ops fuel tt' (ls.setIfInBounds j true) []) f ds k cs ho ht (by rw [hw]; exact hw1) (opE_notDefer (o := o) hv') hx2 hdo (fun d' hd' => by rw [hdst] at hd'; injection hd' with hd'; subst hd'; exact ⟨hdn, hlt⟩)
                    refine ⟨tmps1, _, ht1, fun t ht2 => ?_, hst⟩
                    by_cases hdt : o.dst = some t
                    · have : d = t := by rw [hdst] at hdt; injection hdt
                      subst this
                      rw [hdst, putW_same hlt]
                    · rw [putW_ne (fun _ _ => hlt) hdt]; exact agr1 t ht2 hdt
                obtain ⟨tmps1, Tt1, ht1, ha1, hst1⟩ := hst
                have hbare1 : Bare ops (ls.setIfInBounds j true) T n0 ρ recs := fun x hx hdx hax hwx => hbare x hx (hund _ hdx).1 hax hwx
                obtain ⟨ρ2, L2, w2, tmps2, c2, ht2, e2, b2, l2, hn2, hst2⟩ := ih tt' _ es xs recs T H n _ tmps1 ρ L w hcl' hcnt' hI' hch hdist hbare1 hn0 hc c ht1 ha1
                exact ⟨ρ2, L2, w2, tmps2, c2, ht2, e2, b2, l2, hn2, hst1.trans hst2⟩
            · cases hchk
        · rename_i hw1
          exact quiet 0 (.inr ⟨by rw [hw]; simpa using hw1, rfl, rfl, rfl⟩) hchk
      · -- the next one that touches it
        cases es with
        | nil => cases hin
        | cons e es' =>
          have hje : ((j, o) : Num) = e := by
            rcases List.mem_cons.1 hin with h | h
            · exact h
            · obtain ⟨z, hz, hb⟩ := chain_mem _ _ _ hI.chain _ h
              have h1 := hbit z.1 hb
              have h2 := (hI.esI z hz).2.1
              rw [h1] at h2; cases h2
          subst hje
          have hqf := (hI.esI _ List.mem_cons_self).2.2
          have go : ∀ (v : Nat) (H1 : Trie) (n1 : Nat), ((wantedE ops Tt o = true ∧ opE P call Tt H n o.op = .ok v H1 n1) ∨ (wantedE ops Tt o = false ∧ v = 0 ∧ H1 = H ∧ n1 = n)) →
              (setD nt T o.dst v fun T2 => drawE P call nt ops M es' xs (filt (fun x => sel (bitE (getW M j) x.1) false true) recs) T2 H1 n1) = .ok T' H' n' →
              ∃ ρ' L' w' tmps', Ctx base H' n' ρ' L' w' ∧ TR ρ' L' nt T' tmps' ∧ Ext ρ L ρ' L' ∧ Below base w w' ∧ Loc H n0 ρ L ρ' L' ∧ n ≤ n' ∧
                Steps P (lone (mkF f tmps ds (.inRegion ops (j :: Region.linearise.go .any ops fuel tt' (ls.setIfInBounds j true) []) :: k)) cs w) (lone (mkF f tmps' ds (.inRegion ops [] :: k)) cs w') := by
            intro v H1 n1 hv hsd
            obtain ⟨T2, hd1, hd2, hd3⟩ := setD_inv hsd (by simp)
            obtain ⟨ρ1, L1, w1, tmps1, c1, ht1, e1, b1, l1, hn1, hst⟩ := op_step hcall (Region.linearise.go .any ops fuel tt' (ls.setIfInBounds j true) []) f ds k cs ho c ht hv fun d hd => ⟨(hd3 d hd).2.1, (hd3 d hd).2.2⟩
            obtain ⟨T3, H3, n3, xs1, recs1, news, p1, p2, p3, p4, p5, p6, pA, pD⟩ := phase_inv (fun x hx => soft_of (hI.xsI x hx).2.1) hd1
            obtain ⟨L3, c3, e3, f3⟩ := pA.2 _ _ _ _ c1
            have hI' : Inv ops M R (ls.setIfInBounds j true) es' xs1 recs1 := by
              refine ⟨fun i o' ho' hno => ?_, fun x hx => ?_, fun x hx => ?_, fun x hx => ?_, chain_weak _ _ (chain_tail hI.chain), fun x hx y hy => ?_⟩
              · obtain ⟨hno', hne⟩ := hund i hno
                have := hI.cov i o' ho' hno'
                rcases this with h | h | h
                · have hb : bitE (getW M j) i ≠ true := fun hb => by have := hbit i hb; rw [hno'] at this; cases this
                  rcases p3 (i, o') (.inl ((mem_filt _ _ _).2 ⟨h, by simp [hb, sel_false]⟩)) with h | h
                  · exact .inl h
                  · exact .inr (.inr h)
                · rcases List.mem_cons.1 h with h | h
                  · injection h with h1 h2; exact absurd h1 hne
                  · exact .inr (.inl h)
                · rcases p3 (i, o') (.inr h) with h | h
                  · exact .inl h
                  · exact .inr (.inr h)
              · obtain ⟨a1, a2, a3⟩ := hI.esI x (List.mem_cons_of_mem _ hx)
                refine ⟨a1, hund' _ a2 ?_, a3⟩
                intro hxj
                obtain ⟨z, hz, hb⟩ := chain_mem _ _ _ hI.chain _ hx
                rw [hxj] at hb
                have h1 := hbit z.1 hb
                have h2 := (hI.esI z hz).2.1
                rw [h1] at h2; cases h2
              · rcases p4 x hx with h | h
                · exact hI.recsI x ((mem_filt _ _ _).1 h).1
                · exact ⟨(hI.xsI x h.1).1, (hI.xsI x h.1).2.1⟩
              · obtain ⟨h1, h2⟩ := p5 x hx
                exact ⟨(hI.xsI x h1).1, (hI.xsI x h1).2.1, h2⟩
              · rcases p4 x hx with h | ⟨_, h⟩
                · exact hI.dis x ((mem_filt _ _ _).1 h).1 y (p5 y hy).1
                · exact pD x h y hy
            have ha' : Agr ops R (ls.setIfInBounds j true) (putW Tt o.dst v) T3 := by
              intro t ht2
              have h3 : getW T3 t = getW T2 t := p6 t fun x hx => by
                refine ht2 x.1 x.2 (hI.xsI x hx).1 (hund' _ (hxund x hx) ?_) (hI.xsI x hx).2.1
                intro hxj
                have h1 := (hI.xsI x hx).2.1
                have h2 := (hI.xsI x hx).1
                rw [hxj, ho] at h2; injection h2 with h2
                have h3 : x = (j, o) := by rw [h2, ← hxj]
                rw [h3, hqf] at h1; cases h1
              rw [h3]
              by_cases hdt : o.dst = some t
              · rw [hdt, putW_same (hd3 t hdt).2.2]; exact (hd3 t hdt).1.symm
              · rw [putW_ne (fun d hd => (hd3 d hd).2.2) hdt, hd2 t hdt]; exact agr1 t ht2 hdt
            have hbare1 : Bare ops (ls.setIfInBounds j true) T3 n0 ρ1 recs1 := fun x hx hdx hax hwx => by
              obtain ⟨hdx1, hdx2⟩ := hund _ hdx
              rcases p4 x hx with h | ⟨h, hnew⟩
              · have hx0 := ((mem_filt _ _ _).1 h).1
                have hxo := (hI.recsI x hx0).1
                obtain ⟨d, hd, hsole⟩ := hs.sole x.1 x.2 hxo hax
                have hT : getW T3 d = getW T d := by
                  have h3 : getW T3 d = getW T2 d := p6 d fun y hy hyd => by
                    have hyo := (hI.xsI y hy).1
                    exact hI.dis x hx0 y hy (hsole y.1 y.2 hyo hyd)
                  have hdo : o.dst ≠ some d := fun hod => hdx2 (hsole j o ho hod).symm
                  rw [h3, hd2 d hdo]
                have hidT : idE T3 x = idE T x := by unfold idE; rw [hd]; simp only; rw [hT]
                have hcx3 := (allE_iff _ _).1 p1.chk _ hx
                rw [hwx, sel_true, hax, sel_true] at hcx3
                obtain ⟨d', _, _, _, _, hd', _, _, _, _, _, hne⟩ := chkA_inv hax c3.agree.1 hcx3
                rw [hd] at hd'; injection hd' with hd'; subst hd'
                rw [hT] at hne
                have hcx := (allE_iff _ _).1 hch _ hx0
                cases hwT : wantedE ops T x.2 with
                | false =>
                  rw [hwT, sel_false] at hcx
                  exact absurd (dstIs_inv hcx d hd).1 hne
                | true =>
                  rw [hwT, sel_true, hax, sel_true] at hcx
                  obtain ⟨a1, a2⟩ := hbare x hx0 hdx1 hax hwT
                  obtain ⟨_, _, _, _, _, _, _, _, _, _, hg, _⟩ := chkA_inv hax c.agree.1 hcx
                  rw [hidT]
                  exact ⟨(l1.bare _ (c.fresh.ltL (c.agree.2 _ _ hg)) a1).2, a2⟩
              · have hge := p1.news x hnew hax hwx
                exact ⟨(c1.fresh _ hge).2, Nat.le_trans hn0 (Nat.le_trans hn1 hge)⟩
            obtain ⟨ρ2, L2, w2, tmps2, c2, ht2, e2, b2, l2, hn2, hst2⟩ := ih tt' _ es' xs1 recs1 T3 H3 n3 _ tmps1 ρ1 L3 w1 hcl' hcnt' hI' p1.chk p1.dist hbare1 (Nat.le_trans hn0 (Nat.le_trans hn1 pA.1)) p2 c3 (ht1.mono e3) ha'
            refine ⟨ρ2, L2, w2, tmps2, c2, ht2, (e1.trans e3).trans e2, b1.trans b2, ?_, Nat.le_trans hn1 (Nat.le_trans pA.1 hn2), hst.trans hst2⟩
            refine Loc.trans (⟨fun b hb hbn => ?_⟩ : Loc H n0 ρ L ρ1 L3) (Nat.le_refl _) l2
            obtain ⟨q1, q2⟩ := l1.bare b (Nat.lt_of_lt_of_le hb hn0) hbn
            exact ⟨(f3 b (Nat.lt_of_lt_of_le hb (Nat.le_trans hn0 hn1))).trans q1, q2⟩
          have hc' : sel (wantedE ops T o)
              (match opE P call T H n o.op with | .ok v H' n' => setD nt T o.dst v fun T2 => drawE P call nt ops M es' xs (filt (fun x => sel (bitE (getW M j) x.1) false true) recs) T2 H' n' | .bad q => .bad q)
              (setD nt T o.dst 0 fun T2 => drawE P call nt ops M es' xs (filt (fun x => sel (bitE (getW M j) x.1) false true) recs) T2 H n) = .ok T' H' n' := hc
          rw [sel_eq] at hc'
          split at hc'
          · rename_i hw1
            split at hc'
            · rename_i v H1 n1 hv
              exact go v H1 n1 (.inl ⟨by rw [hw]; exact hw1, by rw [hop]; exact hv⟩) hc'
            · cases hc'
          · rename_i hw1
            exact go 0 H n (.inr ⟨by rw [hw]; simpa using hw1, rfl, rfl, rfl⟩) hc'
      · obtain ⟨_, _, e, es', he, hb⟩ := hI.xsI _ hin
        have h1 := hbit e.1 hb
        have h2 := (hI.esI e (by rw [he]; exact List.mem_cons_self)).2.1
        rw [h1] at h2; cases h2

theorem st_drawn {f : FFix} {tmps : Array Value} {ds : List Deferred} {k : List Item} {cs : List Frame} {w : World} {id : Nat} (hm : P.follows .mixedOrders = true) :
    Steps P (lone (mkF f tmps ds (.code (.region id ops true) :: k)) cs w)
      (lone (mkF f tmps ds (.inRegion ops (Region.linearise.go .any ops ops.size (w.tape w.drawn (.order f.fn id)) (Array.replicate ops.size false) []) :: k)) cs { w with drawn := w.drawn + 1 }) := by
  refine .one (step_lone_go ?_)
  simp [stepG, stepG.exec, mkF, choose, Sem.run, Question.forced, Question.cut, Region.schedule, hm, Region.linearise]

theorem drawR_sound (hcall : CallS P call) (f : FFix) (ds : List Deferred) (k : List Item) (cs : List Frame) {T n : Nat} {H : Trie} {tmps : Array Value} {ρ : Rho} {L : Look} {w : World} (h : drawR P call nt ops T H n = .ok T' H' n') (c : Ctx base H n ρ L w) (ht : TR ρ L nt T tmps) :
    P.follows .mixedOrders = true ∧ ∀ tt, ∃ ρ' L' w' tmps', Ctx base H' n' ρ' L' w' ∧ TR ρ' L' nt T' tmps' ∧ Ext ρ L ρ' L' ∧ Below base w w' ∧ Loc H n ρ L ρ' L' ∧ n ≤ n' ∧
      Steps P (lone (mkF f tmps ds (.inRegion ops (Region.linearise.go .any ops ops.size tt (Array.replicate ops.size false) []) :: k)) cs w) (lone (mkF f tmps' ds (.inRegion ops [] :: k)) cs w') := by
  unfold drawR at h
  simp only at h
  rw [sel_eq] at h
  split at h
  · rename_i h1
    rw [sel_eq] at h1
    split at h1
    · rename_i hm
      refine ⟨hm, fun tt => ?_⟩
      obtain ⟨hs, hch⟩ := stat_of h1
      obtain ⟨T1, H1, n1, xs1, recs1, news, p1, p2, p3, p4, p5, p6, pA, pD⟩ := phase_inv (fun x hx => by
        have h5 := ((mem_filt _ _ _).1 hx).2
        exact soft_of (R := readsE ops (idxE ops.toList 0)) h5) h
      obtain ⟨L1, c1, e1, f1⟩ := pA.2 _ _ _ _ c
      have hdn : ∀ i, dn (Array.replicate ops.size false) i = false := by
        intro i
        unfold dn
        by_cases hi : i < ops.size
        · simp [Array.getD, hi]
        · simp [Array.getD, hi]
      have hcl : Closed ops (Array.replicate ops.size false) := ⟨by simp, fun i o ho hd => by rw [hdn] at hd; cases hd⟩
      have hidx : ∀ i o, ((i, o) : Num) ∈ idxE ops.toList 0 ↔ ops[i]? = some o := by
        intro i o
        rw [mem_idxE]
        constructor
        · rintro ⟨j, h1, h2⟩; simp at h1 h2; rw [h2]; exact h1
        · intro h; exact ⟨i, by simpa using h, by simp⟩
      have main : ∃ ρ' L' w' tmps', Ctx base H' n' ρ' L' w' ∧ TR ρ' L' nt T' tmps' ∧ Ext ρ L1 ρ' L' ∧ Below base w w' ∧ Loc H1 n ρ L1 ρ' L' ∧ n1 ≤ n' ∧
          Steps P (lone (mkF f tmps ds (.inRegion ops (Region.linearise.go .any ops ops.size tt (Array.replicate ops.size false) []) :: k)) cs w) (lone (mkF f tmps' ds (.inRegion ops [] :: k)) cs w') := by
        refine go_sound hcall hs (maskOk ops) f ds k cs n ops.size tt _ _ xs1 recs1 T1 H1 n1 T tmps ρ L1 w hcl ?_ ?_ p1.chk p1.dist ?_ pA.1 p2 c1 (ht.mono e1) ?_
        · unfold cnt; exact Nat.le_trans List.countP_le_length (by simp)
        · refine ⟨fun i o ho _ => ?_, fun x hx => ?_, fun x hx => ?_, fun x hx => ?_, hch, fun x hx y hy => ?_⟩
          · cases hq : effX (readsE ops (idxE ops.toList 0)) (i, o) with
            | false =>
              rcases p3 (i, o) (.inr ((mem_filt _ _ _).2 ⟨(hidx i o).2 ho, by unfold softX; rw [hq]; rfl⟩)) with h | h
              · exact .inl h
              · exact .inr (.inr h)
            | true => exact .inr (.inl ((mem_filt _ _ _).2 ⟨(hidx i o).2 ho, hq⟩))
          · obtain ⟨a, b⟩ := (mem_filt _ _ _).1 hx
            exact ⟨(hidx _ _).1 a, hdn _, eff_of b⟩
          · rcases p4 x hx with h | ⟨h, _⟩
            · cases h
            · obtain ⟨a, b⟩ := (mem_filt _ _ _).1 h
              exact ⟨(hidx _ _).1 a, b⟩
          · obtain ⟨h1, h2⟩ := p5 x hx
            obtain ⟨a, b⟩ := (mem_filt _ _ _).1 h1
            exact ⟨(hidx _ _).1 a, b, h2⟩
          · rcases p4 x hx with h | ⟨_, h⟩
            · cases h
            · exact pD x h y hy
        · intro x hx _ hax hwx
          rcases p4 x hx with h | ⟨_, h⟩
          · cases h
          · have hge := p1.news x h hax hwx
            exact ⟨(c.fresh _ hge).2, hge⟩
        · intro t ht2
          exact (p6 t fun x hx => by
            obtain ⟨a, b⟩ := (mem_filt _ _ _).1 hx
            exact ht2 x.1 x.2 ((hidx _ _).1 a) (hdn _) b).symm
      obtain ⟨ρ', L', w', tmps', c', ht', e', b', l', hn', hst⟩ := main
      refine ⟨ρ', L', w', tmps', c', ht', e1.trans e', b', ⟨fun b hb hbn => ?_⟩, Nat.le_trans pA.1 hn', hst⟩
      obtain ⟨q1, q2⟩ := l'.bare b hb hbn
      exact ⟨q1.trans (f1 b hb), q2⟩
    · cases h1
  · cases h
end
end Go.Eng
