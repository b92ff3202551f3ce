/- Regions that draw their order: every order comes to the same. -/
import Derived.Test.YthcdiaahpodkoabEngNb
namespace Go.Eng
set_option linter.unusedSectionVars false
set_option linter.unusedSimpArgs false
set_option linter.unusedVariables false
open Go Go.RowKit
variable [E : Env]

section
variable {base : Nat} {H H' H1 : Trie} {n n' n1 nt T T' Tt v M : Nat} {ρ : Rho} {L : Look} {w : World} {P : Program} {tmps : Array Value} {ops : Array Oper} {call : Nat → List Nat → Trie → Nat → OR}

theorem setD_inv {dst : Option Tmp} {k : Nat → RR} {r : RR} (h : setD nt T dst v k = r) (hr : ∀ q, r ≠ .bad q) :
    ∃ T1, k T1 = r ∧ (∀ t, dst ≠ some t → getW T1 t = getW T t) ∧ (∀ d, dst = some d → getW T1 d = v ∧ d < nt ∧ v < 2 ^ 128) := by
  unfold setD at h
  cases dst with
  | none => exact ⟨T, h, fun _ _ => rfl, fun d hd => by cases hd⟩
  | some d =>
    simp only at h
    rw [sel_ltb] at h
    split at h
    · rename_i hd
      rw [sel_ltb] at h
      split at h
      · rename_i hv
        refine ⟨_, h, fun t ht => ?_, fun d' hd' => ?_⟩
        · exact getW_setW_ne _ _ _ _ hv fun e => ht (by rw [e])
        · injection hd' with hd'; subst hd'; exact ⟨getW_setW_same _ _ _ hv, hd, hv⟩
      · exact absurd h.symm (hr _)
    · exact absurd h.symm (hr _)

theorem allocA_shape {t : TypeId} (h : allocA P t H n = .ok v H' n') : ∃ len ch, H' = hset H n (.cells len ch (n + 1) n n len) ∧ n' = n + 1 ∧ n < 16384 ∧ v = wP n 0 := by
  unfold allocA at h
  obtain ⟨i, z, c, _, _, h, _⟩ := zcells_inv h (by simp)
  obtain ⟨hn, hk⟩ := fresh_info h (by simp)
  injection hk with h1 h2 h3
  exact ⟨_, _, h2.symm, h3.symm, hn, h1.symm⟩
theorem boxA_shape {x : Nat} (h : boxA x H n = .ok v H' n') : ∃ len ch, H' = hset H n (.cells len ch (n + 1) n n len) ∧ n' = n + 1 ∧ n < 16384 ∧ v = wP n 0 := by
  unfold boxA at h
  have h := sel_ok h
  split at h
  · obtain ⟨hn, hk⟩ := fresh_info h (by simp)
    injection hk with h1 h2 h3
    exact ⟨_, _, h2.symm, h3.symm, hn, h1.symm⟩
  · cases h
theorem buildSliceA_shape {e : TypeId} {len : Nat} {ps : Array (Nat × Operand)} (h : buildSliceA P T e len ps H n = .ok v H' n') : ∃ len' ch, H' = hset H n (.cells len' ch (n + 1) n n len') ∧ n' = n + 1 ∧ n < 16384 ∧ v = wS n (tsz P e) 0 len (Nat.succ len) := by
  unfold buildSliceA at h
  obtain ⟨i, z, c, _, _, h, _⟩ := zcells_inv (sel_ok (sel_ok' (sel_ok h))) (by simp)
  split at h
  · obtain ⟨hn, hk⟩ := fresh_info h (by simp)
    injection hk with h1 h2 h3
    exact ⟨_, _, h2.symm, h3.symm, hn, h1.symm⟩
  · cases h
theorem alloc_shape {op : Op} (ha : allocOp op = true) (h : opE P call T H n op = .ok v H' n') : ∃ len ch, H' = hset H n (.cells len ch (n + 1) n n len) ∧ n' = n + 1 ∧ n < 16384 := by
  cases op with
  | alloc t =>
    simp only [opE_eq, opX] at h
    rw [sel_eq] at h
    split at h
    · have h := sel_ok h
      obtain ⟨hn, hk⟩ := fresh_info h (by simp)
      injection hk with h1 h2 h3
      exact ⟨_, _, h2.symm, h3.symm, hn⟩
    · obtain ⟨len, ch, h1, h2, h3, _⟩ := allocA_shape h
      exact ⟨len, ch, h1, h2, h3⟩
  | box t x =>
    simp only [opE_eq, opX] at h
    rw [sel_eq] at h
    split at h
    · obtain ⟨hn, hk⟩ := fresh_info h (by simp)
      injection hk with h1 h2 h3
      exact ⟨_, _, h2.symm, h3.symm, hn⟩
    · obtain ⟨len, ch, h1, h2, h3, _⟩ := boxA_shape h
      exact ⟨len, ch, h1, h2, h3⟩
  | buildSlice t len ps =>
    simp only [opE_eq, opX] at h
    obtain ⟨e, hu, _, h⟩ := telem_inv h rfl (by simp)
    rw [sel_eq] at h
    split at h
    · have h := sel_ok (sel_ok h)
      split at h
      · obtain ⟨hn, hk⟩ := fresh_info h (by simp)
        injection hk with h1 h2 h3
        exact ⟨_, _, h2.symm, h3.symm, hn⟩
      · cases h
    · obtain ⟨len, ch, h1, h2, h3, _⟩ := buildSliceA_shape h
      exact ⟨len, ch, h1, h2, h3⟩
  | makeSlice t l c =>
    simp only [opE_eq, opX] at h
    obtain ⟨e, hu, _, h⟩ := telem_inv h rfl (by simp)
    have h := sel_ok (sel_ok h)
    obtain ⟨_, h⟩ := isI_inv h (by simp)
    obtain ⟨_, h⟩ := isI_inv h (by simp)
    have h := sel_ok (sel_ok (sel_ok h))
    obtain ⟨hn, hk⟩ := fresh_info h (by simp)
    injection hk with h1 h2 h3
    exact ⟨_, _, h2.symm, h3.symm, hn⟩
  | _ => cases ha

/-- The evaluator has gone ahead: new blocks that have no place. -/
def Ahead (H : Trie) (n : Nat) (H1 : Trie) (n1 : Nat) : Prop :=
  n ≤ n1 ∧ ∀ (base : Nat) (ρ : Rho) (L : Look) (w : World), Ctx base H n ρ L w → ∃ L1, Ctx base H1 n1 ρ L1 w ∧ Ext ρ L ρ L1 ∧ ∀ b, b < n → L1 b = L b
theorem Ahead.refl (H : Trie) (n : Nat) : Ahead H n H n := ⟨Nat.le_refl _, fun _ ρ L _ c => ⟨L, c, .refl _ _, fun _ _ => rfl⟩⟩
theorem Ahead.trans {H2 : Trie} {n2 : Nat} (h : Ahead H n H1 n1) (k : Ahead H1 n1 H2 n2) : Ahead H n H2 n2 := by
  refine ⟨Nat.le_trans h.1 k.1, fun base ρ L w c => ?_⟩
  obtain ⟨L1, c1, e1, f1⟩ := h.2 base ρ L w c
  obtain ⟨L2, c2, e2, f2⟩ := k.2 base ρ L1 w c1
  exact ⟨L2, c2, e1.trans e2, fun b hb => (f2 b (Nat.lt_of_lt_of_le hb h.1)).trans (f1 b hb)⟩

def Soft (op : Op) : Prop := quietOp op = true ∨ allocOp op = true

theorem ahead_op {op : Op} (hs : Soft op) (h : opE P call T H n op = .ok v H' n') : Ahead H n H' n' := by
  rcases hs with hq | ha
  · rcases quiet_box hq h with ⟨rfl, rfl⟩ | ⟨k, hk, rfl, rfl, hn⟩
    · exact .refl _ _
    · exact ⟨Nat.le_succ _, fun base ρ L w c => ⟨_, ⟨c.sim.boxB c.fresh hk, c.agree.hset hn _, c.fresh.updL _⟩, .freshL c.fresh _, fun b hb => upd_ne _ _ (by omega)⟩⟩
  · obtain ⟨len, ch, rfl, rfl, hn⟩ := alloc_shape ha h
    exact ⟨Nat.le_succ _, fun base ρ L w c => ⟨_, c.bare hn len ch, .freshL c.fresh _, fun b hb => upd_ne _ _ (by omega)⟩⟩

theorem segE_inv {k : Nat → Trie → Nat → RR} {r : RR} (hr : ∀ q, r ≠ .bad q) : ∀ (l : List Num) (T : Nat) (H : Trie) (n : Nat), (∀ x ∈ l, Soft x.2.op) → segE P call nt ops l T H n k = r →
    ∃ T1 H1 n1, k T1 H1 n1 = r ∧ (∀ t, (∀ x ∈ l, x.2.dst ≠ some t) → getW T1 t = getW T t) ∧ Ahead H n H1 n1
  | [], T, H, n, _, h => ⟨T, H, n, h, fun _ _ => rfl, .refl _ _⟩
  | x :: l, T, H, n, hs, h => by
    have e : segE P call nt ops (x :: l) T H n k = sel (wantedE ops T x.2)
      (match opE P call T H n x.2.op with | .ok v H' n' => setD nt T x.2.dst v fun T' => segE P call nt ops l T' H' n' k | .bad q => .bad q)
      (setD nt T x.2.dst 0 fun T' => segE P call nt ops l T' H n k) := rfl
    rw [e, sel_eq] at h
    have fin : ∀ {v : Nat} {H2 : Trie} {n2 : Nat}, Ahead H n H2 n2 → (setD nt T x.2.dst v fun T' => segE P call nt ops l T' H2 n2 k) = r →
        ∃ T1 H1 n1, k T1 H1 n1 = r ∧ (∀ t, (∀ y ∈ x :: l, y.2.dst ≠ some t) → getW T1 t = getW T t) ∧ Ahead H n H1 n1 := by
      intro v H2 n2 ha h
      obtain ⟨T1, h1, h2, _⟩ := setD_inv h hr
      obtain ⟨T2, H3, n3, h4, h5, h6⟩ := segE_inv hr l T1 H2 n2 (fun y hy => hs y (List.mem_cons_of_mem _ hy)) h1
      exact ⟨T2, H3, n3, h4, fun t ht => (h5 t fun y hy => ht y (List.mem_cons_of_mem _ hy)).trans (h2 t (ht x List.mem_cons_self)), ha.trans h6⟩
    split at h
    · split at h
      · rename_i v H2 n2 hop
        exact fin (ahead_op (hs x List.mem_cons_self) hop) h
      · exact absurd h.symm (hr _)
    · exact fin (.refl _ _) h

noncomputable def cont (P : Program) (call : Nat → List Nat → Trie → Nat → OR) (nt : Nat) (ops : Array Oper) (M : Nat) (es xs recs : List Num) (T : Nat) (H : Trie) (n : Nat) : RR :=
  match es with
  | [] => .ok T H n
  | e :: es' => sel (wantedE ops T e.2)
      (match opE P call T H n e.2.op with | .ok v H' n' => setD nt T e.2.dst v fun T2 => drawE P call nt ops M es' xs (filt (fun x => sel (bitE (getW M e.1) x.1) false true) recs) T2 H' n' | .bad q => .bad q)
      (setD nt T e.2.dst 0 fun T2 => drawE P call nt ops M es' xs (filt (fun x => sel (bitE (getW M e.1) x.1) false true) recs) T2 H n)

/-- What a stretch's end has shown. -/
structure Phase (P : Program) (call : Nat → List Nat → Trie → Nat → OR) (nt : Nat) (ops : Array Oper) (n0 : Nat) (news recs : List Num) (T : Nat) (H : Trie) (n : Nat) : Prop where
  chk : chkE P call nt ops T H n recs = true
  news : ∀ x ∈ news, allocOp x.2.op = true → wantedE ops T x.2 = true → n0 ≤ idE T x
  dist : ∀ x ∈ recs, ∀ y ∈ recs, allocOp x.2.op = true → wantedE ops T x.2 = true → allocOp y.2.op = true → wantedE ops T y.2 = true → idE T x = idE T y → x.1 = y.1

theorem phase_of {n0 : Nat} {news recs : List Num} (h : phaseE P call nt ops n0 news recs T H n = true) : Phase P call nt ops n0 news recs T H n := by
  unfold phaseE at h
  cases h1 : chkE P call nt ops T H n recs with
  | false => rw [h1] at h; cases h
  | true =>
    rw [h1, sel_true] at h
    cases h2 : allE (fun x : Num => Nat.ble n0 (idE T x)) (rowsE ops T news) with
    | false => rw [h2] at h; cases h
    | true =>
      rw [h2, sel_true] at h
      rw [allE_iff] at h2
      have mem : ∀ (l : List Num) (x : Num), x ∈ l → allocOp x.2.op = true → wantedE ops T x.2 = true → x ∈ rowsE ops T l := fun l x hx ha hw => (mem_filt _ _ _).2 ⟨hx, by rw [ha, sel_true]; exact hw⟩
      refine ⟨h1, fun x hx ha hw => Nat.le_of_ble_eq_true (h2 x (mem _ x hx ha hw)), fun x hx y hy hax hwx hay hwy hid => ?_⟩
      unfold distE at h
      rw [allE_iff] at h
      have h3 := h x (mem _ x hx hax hwx)
      rw [allE_iff] at h3
      have h4 := h3 y (mem _ y hy hay hwy)
      rw [sel_beq, if_pos hid] at h4
      exact Nat.eq_of_beq_eq_true h4

theorem phase_inv {es xs recs : List Num} (hxs : ∀ x ∈ xs, Soft x.2.op) (h : drawE P call nt ops M es xs recs T H n = .ok T' H' n') :
    ∃ T1 H1 n1 xs1 recs1 news, Phase P call nt ops n news recs1 T1 H1 n1 ∧ cont P call nt ops M es xs1 recs1 T1 H1 n1 = .ok T' H' n' ∧
      (∀ x, x ∈ recs ∨ x ∈ xs → x ∈ recs1 ∨ x ∈ xs1) ∧ (∀ x ∈ recs1, x ∈ recs ∨ (x ∈ xs ∧ x ∈ news)) ∧
      (∀ x ∈ xs1, x ∈ xs ∧ ∃ e es', es = e :: es' ∧ bitE (getW M x.1) e.1 = true) ∧
      (∀ t, (∀ x ∈ xs, x.2.dst ≠ some t) → getW T1 t = getW T t) ∧ Ahead H n H1 n1 ∧ (∀ x ∈ news, ∀ y ∈ xs1, y.1 ≠ x.1) := by
  cases es with
  | nil =>
    have e : drawE P call nt ops M [] xs recs T H n = segE P call nt ops xs T H n fun T1 H1 n1 => sel (phaseE P call nt ops n xs (app xs recs) T1 H1 n1) (.ok T1 H1 n1) (.bad 6) := rfl
    rw [e] at h
    obtain ⟨T1, H1, n1, h1, h2, h3⟩ := segE_inv (by simp) xs T H n hxs h
    rw [sel_eq] at h1
    split at h1
    · rename_i hc
      refine ⟨T1, H1, n1, [], app xs recs, xs, phase_of hc, h1, fun x hx => .inl ((mem_app _ _ _).2 hx.symm), fun x hx => ?_, (by intro x hx; cases hx), h2, h3, (by intro x _ y hy; cases hy)⟩
      rcases (mem_app _ _ _).1 hx with h | h
      · exact .inr ⟨h, h⟩
      · exact .inl h
    · cases h1
  | cons e es' =>
    have eq : drawE P call nt ops M (e :: es') xs recs T H n = segE P call nt ops (filt (fun x => sel (bitE (getW M x.1) e.1) false true) xs) T H n fun T1 H1 n1 =>
        sel (phaseE P call nt ops n (filt (fun x => sel (bitE (getW M x.1) e.1) false true) xs) (app (filt (fun x => sel (bitE (getW M x.1) e.1) false true) xs) recs) T1 H1 n1)
          (cont P call nt ops M (e :: es') (filt (fun x => bitE (getW M x.1) e.1) xs) (app (filt (fun x => sel (bitE (getW M x.1) e.1) false true) xs) recs) T1 H1 n1) (.bad 6) := rfl
    rw [eq] at h
    obtain ⟨T1, H1, n1, h1, h2, h3⟩ := segE_inv (by simp) _ T H n (fun x hx => hxs x ((mem_filt _ _ _).1 hx).1) h
    rw [sel_eq] at h1
    split at h1
    · rename_i hc
      refine ⟨T1, H1, n1, _, _, _, phase_of hc, h1, fun x hx => ?_, fun x hx => ?_, fun x hx => ?_, fun t ht => h2 t fun x hx => ht x ((mem_filt _ _ _).1 hx).1, h3, fun x hx y hy hxy => ?_⟩
      · rw [mem_app, mem_filt, mem_filt]
        rcases hx with hx | hx
        · exact .inl (.inr hx)
        · by_cases hb : bitE (getW M x.1) e.1 = true
          · exact .inr ⟨hx, hb⟩
          · exact .inl (.inl ⟨hx, by simp [hb, sel_false]⟩)
      · rcases (mem_app _ _ _).1 hx with h | h
        · exact .inr ⟨((mem_filt _ _ _).1 h).1, h⟩
        · exact .inl h
      · have := (mem_filt _ _ _).1 hx
        exact ⟨this.1, e, es', rfl, this.2⟩
      · have a1 := ((mem_filt _ _ _).1 hx).2
        have a2 := ((mem_filt _ _ _).1 hy).2
        rw [hxy] at a2
        rw [a2, sel_true] at a1; cases a1
    · cases h1

/-! ### chains -/
theorem chain_cons (e : Num) (r : List Num) (p : Nat) : chainE M (e :: r) p = sel (sel (Nat.beq p 0) true (bitE (getW M e.1) (Nat.pred p))) (chainE M r (Nat.succ e.1)) false := rfl
theorem chain_weak : ∀ (r : List Num) (p : Nat), chainE M r p = true → chainE M r 0 = true
  | [], _, _ => rfl
  | e :: r, p, h => by
    rw [chain_cons] at h ⊢
    rw [sel_eq] at h
    split at h
    · simpa [sel_true] using h
    · cases h
theorem chain_tail {e : Num} {r : List Num} {p : Nat} (h : chainE M (e :: r) p = true) : chainE M r (e.1 + 1) = true := by
  rw [chain_cons, sel_eq] at h
  split at h
  · exact h
  · cases h
theorem chain_mem : ∀ (r : List Num) (e : Num) (p : Nat), chainE M (e :: r) p = true → ∀ y ∈ r, ∃ z ∈ e :: r, bitE (getW M y.1) z.1 = true
  | [], _, _, _, y, hy => by cases hy
  | a :: r, e, p, h, y, hy => by
    have h1 := chain_tail h
    rcases List.mem_cons.1 hy with rfl | hy
    · rw [chain_cons, sel_eq] at h1
      split at h1
      · rename_i hb
        exact ⟨e, List.mem_cons_self, by simpa [sel_eq] using hb⟩
      · cases h1
    · obtain ⟨z, hz, hb⟩ := chain_mem r a _ h1 y hy
      exact ⟨z, List.mem_cons_of_mem _ hz, hb⟩

/-! ### how many are left -/
def cnt (ops : Array Oper) (ls : Array Bool) : Nat := (List.range ops.size).countP fun i => !(dn ls i)
theorem countP_lt {p q : Nat → Bool} {j : Nat} : ∀ (l : List Nat), (∀ i, q i = true → p i = true) → j ∈ l → p j = true → q j = false → l.countP q < l.countP p
  | [], _, h, _, _ => by cases h
  | a :: l, hpq, h, h1, h2 => by
    rw [List.countP_cons, List.countP_cons]
    have hle : l.countP q ≤ l.countP p := List.countP_mono_left fun i _ hi => hpq i hi
    rcases List.mem_cons.1 h with rfl | h
    · simp [h1, h2]; omega
    · have := countP_lt l hpq h h1 h2
      have h3 : (if q a = true then 1 else 0) ≤ (if p a = true then 1 else 0) := by
        by_cases hq : q a = true
        · simp [hq, hpq a hq]
        · simp [hq]
      omega
theorem dn_set {ls : Array Bool} {j : Nat} (hj : j < ls.size) (i : Nat) : dn (ls.setIfInBounds j true) i = (if i = j then true else dn ls i) := by
  unfold dn
  by_cases h : i = j
  · subst h; simp [Array.getD_eq_getD_getElem?, hj]
  · simp only [Array.getD_eq_getD_getElem?, Array.getElem?_setIfInBounds]
    rw [if_neg (by omega), if_neg h]
theorem Closed.set {ls : Array Bool} (hc : Closed ops ls) {j : Nat} {o : Oper} (ho : ops[j]? = some o) (hp : ∀ e ∈ o.after, bindsE e = true → dn ls e.on = true) : Closed ops (ls.setIfInBounds j true) := by
  have hj : j < ls.size := by rw [hc.size]; exact (Array.getElem?_eq_some_iff.1 ho).1
  refine ⟨by simp [hc.size], fun i oi hoi hd e he hb => ?_⟩
  rw [dn_set hj]
  rw [dn_set hj] at hd
  split
  · rfl
  · by_cases h : i = j
    · subst h
      rw [ho] at hoi; injection hoi with hoi; subst hoi
      exact hp e he hb
    · rw [if_neg h] at hd
      exact hc.clo i oi hoi hd e he hb
theorem cnt_set {ls : Array Bool} (hc : Closed ops ls) {j : Nat} {o : Oper} (ho : ops[j]? = some o) (hd : dn ls j = false) : cnt ops (ls.setIfInBounds j true) < cnt ops ls := by
  have hjs := (Array.getElem?_eq_some_iff.1 ho).1
  have hj : j < ls.size := by rw [hc.size]; exact hjs
  refine countP_lt (j := j) _ (fun i hi => ?_) (by simpa using hjs) (by simp [hd]) (by simp [dn_set hj])
  rw [dn_set hj] at hi
  split at hi
  · simp at hi
  · exact hi
theorem cnt_zero {ls : Array Bool} (h : cnt ops ls ≤ 0) : ∀ i, i < ops.size → dn ls i = true := by
  intro i hi
  have h0 : cnt ops ls = 0 := by omega
  unfold cnt at h0
  rw [List.countP_eq_zero] at h0
  have := h0 i (by simpa using hi)
  simpa using this

theorem ready_iff {ls : Array Bool} (hc : Closed ops ls) (j : Nat) : j ∈ Region.ready .any ops ls ↔ dn ls j = false ∧ ∃ o, ops[j]? = some o ∧ ∀ e ∈ o.after, bindsE e = true → dn ls e.on = true := by
  rw [mem_ready]
  constructor
  · rintro ⟨h1, o, h2, h3⟩
    have hj : j < ls.size := by rw [hc.size]; exact (Array.getElem?_eq_some_iff.1 h2).1
    refine ⟨?_, o, h2, fun e he hb => h3 e he (by rw [← binds_any]; exact hb)⟩
    unfold dn
    simpa [Array.getD_eq_getD_getElem?, hj] using h1
  · rintro ⟨h1, o, h2, h3⟩
    have hj : j < ls.size := by rw [hc.size]; exact (Array.getElem?_eq_some_iff.1 h2).1
    refine ⟨?_, o, h2, fun e he hb => h3 e he (by rw [binds_any]; exact hb)⟩
    unfold dn at h1
    simpa [Array.getD_eq_getD_getElem?, hj] using h1

theorem all_done {R : Nat} (hs : Stat ops M R) {ls : Array Bool} (hc : Closed ops ls) (h : Region.ready .any ops ls = []) : ∀ i, i < ops.size → dn ls i = true := by
  intro i
  induction i using Nat.strongRecOn with
  | _ i ih =>
    intro hi
    have ho : ops[i]? = some ops[i] := by simp [hi]
    cases hd : dn ls i with
    | true => rfl
    | false =>
      have hm : i ∈ Region.ready .any ops ls := (ready_iff hc i).2 ⟨hd, _, ho, fun e he hb => by
        have hl := hs.edge i _ ho e he hb
        exact ih e.on hl (by omega)⟩
      rw [h] at hm; cases hm

/-! ### one operation -/
noncomputable def putW (T : Nat) (dst : Option Tmp) (v : Nat) : Nat := match dst with | some d => setW T d v | none => T
theorem putW_ne {dst : Option Tmp} {t : Nat} (hv : ∀ d, dst = some d → v < 2 ^ 128) (h : dst ≠ some t) : getW (putW T dst v) t = getW T t := by
  cases dst with
  | none => rfl
  | some d => exact getW_setW_ne _ _ _ _ (hv d rfl) fun e => h (by rw [e])
theorem putW_same {d : Nat} (hv : v < 2 ^ 128) : getW (putW T (some d) v) d = v := getW_setW_same _ _ _ hv

theorem TR.put {x : Value} {dst : Option Tmp} (ht : TR ρ L nt T tmps) (hd : ∀ d, dst = some d → d < nt ∧ v < 2 ^ 128) (hx : VR ρ L v x) : TR ρ L nt (putW T dst v) (putT tmps dst x) := by
  cases dst with
  | none => exact ht
  | some d => exact ht.set (hd d rfl).1 (hd d rfl).2 hx

theorem op_step (hcall : CallS P call) (rest : List Nat) (f : FFix) (ds : List Deferred) (k : List Item) (cs : List Frame) {j : Nat} {o : Oper} (ho : ops[j]? = some o) (c : Ctx base H n ρ L w) (ht : TR ρ L nt Tt tmps)
    (h : (wantedE ops Tt o = true ∧ opE P call Tt H n o.op = .ok v H1 n1) ∨ (wantedE ops Tt o = false ∧ v = 0 ∧ H1 = H ∧ n1 = n))
    (hd : ∀ d, o.dst = some d → d < nt ∧ v < 2 ^ 128) :
    ∃ ρ1 L1 w1 tmps1, Ctx base H1 n1 ρ1 L1 w1 ∧ TR ρ1 L1 nt (putW Tt o.dst v) tmps1 ∧ Ext ρ L ρ1 L1 ∧ Below base w w1 ∧ Loc H n ρ L ρ1 L1 ∧ n ≤ n1 ∧
      Steps P (lone (mkF f tmps ds (.inRegion ops (j :: rest) :: k)) cs w) (lone (mkF f tmps1 ds (.inRegion ops rest :: k)) cs w1) := by
  rw [wanted_sound ht o] at h
  rcases h with ⟨hw, hop⟩ | ⟨hw, rfl, rfl, rfl⟩
  · obtain ⟨ρ1, L1, w1, x, c1, e1, b1, l1, hn1, hv, hdo⟩ := opE_sound (cfr := mkF f tmps ds (.inRegion ops (j :: rest) :: k)) (ccs := cs) c ht hcall hop
    exact ⟨ρ1, L1, w1, _, c1, (ht.mono e1).put hd hv, e1, b1, l1, hn1, st_op ho hw (opE_notDefer (o := o) hop) hdo⟩
  · exact ⟨ρ, L, w, _, c, ht.put hd .undef, .refl _ _, Below.refl _ _, .refl _ _ _ _, Nat.le_refl _, st_opSkip ho hw⟩

theorem calm_step (hcall : CallS P call) (rest : List Nat) (f : FFix) (ds : List Deferred) (k : List Item) (cs : List Frame) {j : Nat} {o : Oper} (ho : ops[j]? = some o) (ht : TR ρ L nt Tt tmps)
    (hw : wantedE ops Tt o = true) (hnd : notDefer o.op = true) {x : Value} (hx : VR ρ L v x) (hdo : OpDone P tmps o w (mkF f tmps ds (.inRegion ops (j :: rest) :: k)) cs x w)
    (hd : ∀ d, o.dst = some d → d < nt ∧ v < 2 ^ 128) :
    ∃ tmps1, TR ρ L nt (putW Tt o.dst v) tmps1 ∧ Steps P (lone (mkF f tmps ds (.inRegion ops (j :: rest) :: k)) cs w) (lone (mkF f tmps1 ds (.inRegion ops rest :: k)) cs w) := by
  rw [wanted_sound ht o] at hw
  exact ⟨_, ht.put hd hx, st_op ho hw hnd hdo⟩

theorem wantedE_congr {o : Oper} (h : ∀ d ∈ guardT ops o, getW T d = getW Tt d) : wantedE ops T o = wantedE ops Tt o := by
  unfold wantedE
  unfold guardT at h
  cases hg : o.guard with
  | none => rfl
  | some jw =>
    obtain ⟨j, want⟩ := jw
    rw [hg] at h
    simp only at h ⊢
    cases hd : (ops[j]?).bind (·.dst) with
    | none => rfl
    | some d =>
      rw [hd] at h
      simp only at h ⊢
      rw [h d (by simp)]

def Agr (ops : Array Oper) (R : Nat) (ls : Array Bool) (Tt T : Nat) : Prop := ∀ t, (∀ i o, ops[i]? = some o → dn ls i = false → softX R (i, o) = true → o.dst ≠ some t) → getW Tt t = getW T t

theorem sameBox_inv {a b : Option Blk} {k m c : Nat} (h : sameBox a b = true) (ha : a = some (.box k m c)) : b = some (.box k m c) := by
  subst ha
  cases b with
  | none => cases h
  | some k2 =>
    cases k2 with
    | box k2 m2 c2 =>
      have h : sel (Nat.beq k k2) (sel (Nat.beq m m2) (Nat.beq c c2) false) false = true := h
      rw [sel_beq, sel_beq] at h
      split at h
      · rename_i q1
        split at h
        · rename_i q2
          have q3 := Nat.eq_of_beq_eq_true h
          subst q1; subst q2; subst q3
          rfl
        · cases h
      · cases h
    | _ => cases h
theorem samePoly_inv {a b : Option Blk} {p q s d lo hi : Nat} (h : sameBox a b = true) (ha : a = some (.poly p q s d lo hi)) : b = some (.poly p q s d lo hi) := by
  subst ha
  cases b with
  | none => cases h
  | some k2 =>
    cases k2 with
    | poly p' q' s' d' lo' hi' =>
      have h : sel (Nat.beq p p') (sel (Nat.beq q q') (sel (Nat.beq s s') (sel (Nat.beq d d') (sel (Nat.beq lo lo') (Nat.beq hi hi') false) false) false) false) false = true := h
      have st : ∀ {a b : Nat} {r : Bool}, sel (Nat.beq a b) r false = true → a = b ∧ r = true := by
        intro a b r h
        rw [sel_beq] at h
        split at h
        · exact ⟨by assumption, h⟩
        · cases h
      obtain ⟨q1, h⟩ := st h
      obtain ⟨q2, h⟩ := st h
      obtain ⟨q3, h⟩ := st h
      obtain ⟨q4, h⟩ := st h
      obtain ⟨q5, h⟩ := st h
      have q6 := Nat.eq_of_beq_eq_true h
      subst q1; subst q2; subst q3; subst q4; subst q5; subst q6
      rfl
    | _ => cases h
theorem polyW_parts (n : Nat) : tagOf (polyW n) = 7 ∧ xKind (payOf (polyW n)) = 0 ∧ xNum (payOf (polyW n)) = n := by
  have hp : payOf (polyW n) = 16 + 4 * n := by
    show (16 * (16 + 4 * n) + 7) / 16 = _
    omega
  refine ⟨tag_mk7 _, ?_, ?_⟩
  · rw [hp]; unfold xKind; rw [sel_ltb, if_neg (by omega)]; show (16 + 4 * n) % 4 = 0; omega
  · rw [hp]; show (16 + 4 * n - 16) / 4 = n; omega
theorem polyW_of {w : Nat} (h : tagOf w = 7) (hk : xKind (payOf w) = 0) : w = polyW (xNum (payOf w)) := by
  unfold xKind at hk
  rw [sel_ltb] at hk
  split at hk
  · cases hk
  · have hm : payOf w % 4 = 0 := hk
    have e1 : payOf w = w / 16 := rfl
    have e2 : tagOf w = w % 16 := rfl
    show w = 16 * (16 + 4 * ((payOf w - 16) / 4)) + 7
    omega
theorem wBox_poly {w p q s d lo hi : Nat} (h7 : tagOf w = 7) (h : wBox H w = some (.poly p q s d lo hi)) : ∃ id, w = polyW id ∧ tget H id = some (.poly p q s d lo hi) := by
  unfold wBox at h
  rw [sel_beq, if_neg (by omega), sel_beq, if_neg (by omega), sel_beq, if_pos h7, sel_beq] at h
  split at h
  · rename_i hk
    exact ⟨_, polyW_of h7 hk, h⟩
  · cases h
theorem dstBox_inv {dst : Option Tmp} {k : Blk} (hk : IsBox k) (hD : Dep 14 H) (hn : n < 16384) (h : dstBox nt T H (hset H n k) dst (wdOf k n) = true) :
    ∀ d, dst = some d → d < nt ∧ ∃ id, getW T d = wdOf k id ∧ tget H id = some k := by
  rintro d rfl
  unfold dstBox at h
  simp only at h
  rw [sel_ltb] at h
  split at h
  · rename_i hd
    rw [sel_beq] at h
    split at h
    · rename_i ht
      refine ⟨hd, ?_⟩
      cases k with
      | box kd m c =>
        refine ⟨payOf (getW T d), ?_⟩
        have hself : tget (hset H n (.box kd m c)) n = some (.box kd m c) := by rw [tget_hset hD hn, if_pos rfl]
        have e : wdOf (.box kd m c) n = if kd = 2 then mk 10 n else mk 6 n := rfl
        by_cases h2 : kd = 2
        · have e1 : ∀ j, wdOf (.box kd m c) j = mk 10 j := fun j => by show (if kd = 2 then mk 10 j else mk 6 j) = _; rw [if_pos h2]
          rw [e1, tag_mk10] at ht
          have w1 : wBox (hset H n (.box kd m c)) (wdOf (.box kd m c) n) = some (.box kd m c) := by
            rw [e1]; unfold wBox
            rw [tag_mk10, payOf_mk 10 n (by omega)]; exact hself
          have w2 := sameBox_inv h w1
          unfold wBox at w2
          rw [ht] at w2
          refine ⟨?_, w2⟩
          rw [e1, ← ht]; exact wordOf _
        · have e1 : ∀ j, wdOf (.box kd m c) j = mk 6 j := fun j => by show (if kd = 2 then mk 10 j else mk 6 j) = _; rw [if_neg h2]
          rw [e1, tag_mk6] at ht
          have w1 : wBox (hset H n (.box kd m c)) (wdOf (.box kd m c) n) = some (.box kd m c) := by
            rw [e1]; unfold wBox
            rw [tag_mk6, payOf_mk 6 n (by omega)]; exact hself
          have w2 := sameBox_inv h w1
          unfold wBox at w2
          rw [ht] at w2
          refine ⟨?_, w2⟩
          rw [e1, ← ht]; exact wordOf _
      | poly p q s d0 lo hi =>
        have hself : tget (hset H n (.poly p q s d0 lo hi)) n = some (.poly p q s d0 lo hi) := by rw [tget_hset hD hn, if_pos rfl]
        have e : wdOf (.poly p q s d0 lo hi) n = polyW n := rfl
        rw [e] at h ht
        have w1 : wBox (hset H n (.poly p q s d0 lo hi)) (polyW n) = some (.poly p q s d0 lo hi) := by
          obtain ⟨k1, k2, k3⟩ := polyW_parts n
          unfold wBox
          rw [k1, k2, k3]
          exact hself
        obtain ⟨id, hw, w2⟩ := wBox_poly (by rw [ht]; exact tag_mk7 _) (samePoly_inv h w1)
        exact ⟨id, hw, w2⟩
      | _ => exact hk.elim
    · cases h
  · cases h
theorem dstIs_inv {dst : Option Tmp} (h : dstIs nt T dst v = true) : ∀ d, dst = some d → getW T d = v ∧ d < nt ∧ v < 2 ^ 128 := by
  rintro d rfl
  unfold dstIs at h
  simp only at h
  rw [sel_ltb] at h
  split at h
  · rename_i hd
    have := Nat.eq_of_beq_eq_true h
    exact ⟨this, hd, this ▸ getW_lt _ _⟩
  · cases h
end
end Go.Eng
