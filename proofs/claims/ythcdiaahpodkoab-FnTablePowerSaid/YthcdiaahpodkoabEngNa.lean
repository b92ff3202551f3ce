/- Regions that draw their order: what the static look says. -/
import Derived.Test.YthcdiaahpodkoabEngN
import Derived.Orders
namespace Go.Eng
set_option linter.unusedSectionVars false
set_option linter.unusedSimpArgs false
set_option linter.unusedVariables false
open Go Go.RowKit
variable [E : Env]

theorem binds_any (e : Edge) : bindsE e = Region.binds .any e := by
  unfold bindsE Region.binds
  cases e.ground <;> rfl

theorem bitE_iff (m i : Nat) : bitE m i = m.testBit i := by
  unfold bitE
  rw [nbeq, Nat.testBit_eq_decide_div_mod_eq]
  congr 2
  show (m >>> i) % 2 = _
  rw [Nat.shiftRight_eq_div_pow]

theorem allE_iff {α : Type} (p : α → Bool) : ∀ l : List α, allE p l = true ↔ ∀ x ∈ l, p x = true
  | [] => by simp [allE]
  | x :: l => by
    have e : allE p (x :: l) = sel (p x) (allE p l) false := rfl
    rw [e, sel_eq]
    have := allE_iff p l
    by_cases h : p x = true <;> simp [h, this]
theorem mem_filt (p : Num → Bool) : ∀ (l : List Num) (x : Num), x ∈ filt p l ↔ x ∈ l ∧ p x = true
  | [], x => by simp [filt]
  | y :: l, x => by
    have e : filt p (y :: l) = sel (p y) (y :: filt p l) (filt p l) := rfl
    rw [e, sel_eq]
    have := mem_filt p l x
    by_cases h : p y = true
    · simp only [h, if_true, List.mem_cons, this]
      constructor
      · rintro (rfl | h1); exact ⟨.inl rfl, h⟩; exact ⟨.inr h1.1, h1.2⟩
      · rintro ⟨rfl | h1, h2⟩; exact .inl rfl; exact .inr ⟨h1, h2⟩
    · rw [if_neg h, this]
      constructor
      · rintro ⟨h1, h2⟩; exact ⟨List.mem_cons_of_mem _ h1, h2⟩
      · rintro ⟨h1, h2⟩
        rcases List.mem_cons.1 h1 with rfl | h1
        · exact absurd h2 h
        · exact ⟨h1, h2⟩
theorem mem_app : ∀ (l r : List Num) (x : Num), x ∈ app l r ↔ x ∈ l ∨ x ∈ r
  | [], r, x => by simp [app]
  | y :: l, r, x => by
    have e : app (y :: l) r = y :: app l r := rfl
    rw [e, List.mem_cons, List.mem_cons, mem_app l r x, or_assoc]
theorem mem_idxE : ∀ (l : List Oper) (k : Nat) (x : Num), x ∈ idxE l k ↔ ∃ j, l[j]? = some x.2 ∧ x.1 = k + j
  | [], k, x => by simp [idxE]
  | o :: l, k, x => by
    have e : idxE (o :: l) k = (k, o) :: idxE l (k + 1) := rfl
    rw [e, List.mem_cons, mem_idxE l (k + 1) x]
    constructor
    · rintro (rfl | ⟨j, h1, h2⟩)
      · exact ⟨0, rfl, rfl⟩
      · exact ⟨j + 1, by simpa using h1, by omega⟩
    · rintro ⟨j, h1, h2⟩
      cases j with
      | zero =>
        left
        obtain ⟨a, b⟩ := x
        simp at h1 h2
        rw [h2, h1]
      | succ j => exact .inr ⟨j, by simpa using h1, by omega⟩
theorem mem_tmpsOf : ∀ (l : List Operand) (t : Nat), .tmp t ∈ l → t ∈ tmpsOf l
  | [], _, h => by cases h
  | x :: l, t, h => by
    have ih := mem_tmpsOf l t
    rcases List.mem_cons.1 h with rfl | h
    · show t ∈ t :: tmpsOf l; exact List.mem_cons_self
    · have := ih h
      cases x with
      | tmp u => exact List.mem_cons_of_mem _ this
      | const v => exact this
      | func f => exact this
      | global g => exact this

/-! ### what must have come before -/
def dn (ls : Array Bool) (i : Nat) : Bool := ls.getD i false

structure Closed (ops : Array Oper) (ls : Array Bool) : Prop where
  size : ls.size = ops.size
  clo : ∀ i o, ops[i]? = some o → dn ls i = true → ∀ e ∈ o.after, bindsE e = true → dn ls e.on = true

def MaskOk (ops : Array Oper) (M : Nat) : Prop := ∀ ls, Closed ops ls → ∀ i o, ops[i]? = some o → (∀ e ∈ o.after, bindsE e = true → dn ls e.on = true) → ∀ j, bitE (getW M i) j = true → dn ls j = true

theorem predM_bit (M : Nat) : ∀ (l : List Edge) (j : Nat), (predM M l).testBit j = true → ∃ e ∈ l, bindsE e = true ∧ (j = e.on ∨ (getW M e.on).testBit j = true)
  | [], j, h => by simp [predM] at h
  | e :: l, j, h => by
    have eq : predM M (e :: l) = sel (bindsE e) (predM M l ||| ((1 <<< e.on) ||| getW M e.on)) (predM M l) := rfl
    rw [eq, sel_eq] at h
    have ih := predM_bit M l j
    by_cases hb : bindsE e = true
    · rw [if_pos hb, Nat.testBit_or, Nat.testBit_or, Bool.or_eq_true, Bool.or_eq_true] at h
      rcases h with h | h | h
      · obtain ⟨e', h1, h2⟩ := ih h; exact ⟨e', List.mem_cons_of_mem _ h1, h2⟩
      · refine ⟨e, List.mem_cons_self, hb, .inl ?_⟩
        rw [Nat.testBit_shiftLeft] at h
        simp at h
        obtain ⟨h1, h2⟩ := h
        cases hk : j - e.on with
        | zero => omega
        | succ k => rw [hk, Nat.testBit_succ] at h2; simp at h2
      · exact ⟨e, List.mem_cons_self, hb, .inr h⟩
    · rw [if_neg hb] at h
      obtain ⟨e', h1, h2⟩ := ih h; exact ⟨e', List.mem_cons_of_mem _ h1, h2⟩

theorem masksE_ok {ops : Array Oper} {ls : Array Bool} (hc : Closed ops ls) : ∀ (l : List Oper) (k M : Nat), (∀ j, l[j]? = ops[k + j]?) →
    (∀ i o, ops[i]? = some o → i < k → (∀ e ∈ o.after, bindsE e = true → dn ls e.on = true) → ∀ j, (getW M i).testBit j = true → dn ls j = true) →
    (∀ i, k ≤ i → getW M i = 0) →
    ∀ i o, ops[i]? = some o → (∀ e ∈ o.after, bindsE e = true → dn ls e.on = true) → ∀ j, (getW (masksE l k M) i).testBit j = true → dn ls j = true
  | [], k, M, hl, h1, h2 => by
    intro i o ho hp j hj
    have e : masksE [] k M = M := rfl
    rw [e] at hj
    by_cases hi : i < k
    · exact h1 i o ho hi hp j hj
    · rw [h2 i (by omega)] at hj; simp at hj
  | o :: l, k, M, hl, h1, h2 => by
    have e : masksE (o :: l) k M = masksE l (k + 1) (setW M k ((predM M o.after.toList) % 2 ^ 128)) := rfl
    rw [e]
    have hk : ops[k]? = some o := by have := hl 0; simpa using this.symm
    have hlt : (predM M o.after.toList) % 2 ^ 128 < 2 ^ 128 := Nat.mod_lt _ (Nat.pow_pos (by omega))
    refine masksE_ok hc l (k + 1) _ (fun j => by have := hl (j + 1); simpa [Nat.add_assoc, Nat.add_comm 1 j] using this) ?_ ?_
    · intro i oi hoi hi hp j hj
      by_cases hik : i = k
      · subst hik
        rw [hk] at hoi; injection hoi with hoi; subst hoi
        rw [getW_setW_same _ _ _ hlt, Nat.testBit_mod_two_pow] at hj
        simp only [Bool.and_eq_true] at hj
        obtain ⟨e', he, hb, h⟩ := predM_bit M _ j hj.2
        have he' : e' ∈ o.after := by simpa using he
        have hd := hp e' he' hb
        rcases h with rfl | h
        · exact hd
        · by_cases hlt' : e'.on < i
          · have hs : e'.on < ops.size := Nat.lt_trans hlt' (Array.getElem?_eq_some_iff.1 hk).1
            have ho2 : ops[e'.on]? = some ops[e'.on] := by simp [hs]
            exact h1 e'.on _ ho2 hlt' (fun e2 h3 h4 => hc.clo _ _ ho2 hd e2 h3 h4) j h
          · rw [h2 e'.on (by omega)] at h; simp at h
      · rw [getW_setW_ne _ _ _ _ hlt hik] at hj
        exact h1 i oi hoi (by omega) hp j hj
    · intro i hi
      rw [getW_setW_ne _ _ _ _ hlt (by omega)]
      exact h2 i (by omega)

theorem maskOk (ops : Array Oper) : MaskOk ops (masksE ops.toList 0 0) := by
  intro ls hc i o ho hp j hj
  rw [bitE_iff] at hj
  exact masksE_ok hc ops.toList 0 0 (by simp) (fun i o _ h => absurd h (by omega)) (fun i _ => getW_zero i) i o ho hp j hj

/-! ### who writes -/
theorem writersE_bit : ∀ (l : List Num) (W : Nat), (∀ d j, (getW W d).testBit j = true → True) → (∀ x ∈ l, x.1 < 128) → ∀ d j,
    ((getW W d).testBit j = true ∨ ∃ x ∈ l, x.2.dst = some d ∧ x.1 = j) → (getW (writersE l W) d).testBit j = true
  | [], W, _, _, d, j, h => by
    have e : writersE [] W = W := rfl
    rw [e]
    rcases h with h | ⟨x, hx, _⟩
    · exact h
    · cases hx
  | x :: l, W, hW, hl, d, j, h => by
    have e : writersE (x :: l) W = writersE l (match x.2.dst with | some d => setW W d (getW W d ||| (1 <<< x.1)) | none => W) := rfl
    rw [e]
    refine writersE_bit l _ (fun _ _ _ => trivial) (fun y hy => hl y (List.mem_cons_of_mem _ hy)) d j ?_
    have hx := hl x List.mem_cons_self
    cases hd : x.2.dst with
    | none =>
      simp only
      rcases h with h | ⟨y, hy, h1, h2⟩
      · exact .inl h
      · rcases List.mem_cons.1 hy with rfl | hy
        · rw [hd] at h1; cases h1
        · exact .inr ⟨y, hy, h1, h2⟩
    | some d' =>
      simp only
      have hv : getW W d' ||| (1 <<< x.1) < 2 ^ 128 := by
        refine Nat.or_lt_two_pow (getW_lt _ _) ?_
        rw [Nat.one_shiftLeft]; exact Nat.pow_lt_pow_right (by omega) hx
      by_cases hdd : d = d'
      · subst hdd
        rw [getW_setW_same _ _ _ hv, Nat.testBit_or, Bool.or_eq_true]
        rcases h with h | ⟨y, hy, h1, h2⟩
        · exact .inl (.inl h)
        · rcases List.mem_cons.1 hy with rfl | hy
          · left; right; rw [h2, Nat.testBit_shiftLeft]; simp
          · exact .inr ⟨y, hy, h1, h2⟩
      · rw [getW_setW_ne _ _ _ _ hv hdd]
        rcases h with h | ⟨y, hy, h1, h2⟩
        · exact .inl h
        · rcases List.mem_cons.1 hy with rfl | hy
          · rw [hd] at h1; injection h1 with h1; exact absurd h1.symm hdd
          · exact .inr ⟨y, hy, h1, h2⟩

structure Stat (ops : Array Oper) (M R : Nat) : Prop where
  edge : ∀ i o, ops[i]? = some o → ∀ e ∈ o.after, bindsE e = true → e.on < i
  sole : ∀ (i : Nat) (o : Oper), ops[i]? = some o → allocOp o.op = true → ∃ d, o.dst = some d ∧ ∀ (j : Nat) (o' : Oper), ops[j]? = some o' → o'.dst = some d → j = i
  reads : ∀ i o d j o', ops[i]? = some o → (d ∈ tmpsOf o.op.operands.toList ∨ d ∈ guardT ops o) → ops[j]? = some o' → softX R (j, o') = true → o'.dst = some d → bitE (getW M i) j = true

theorem stat_of {ops : Array Oper} {M R : Nat} (h : statE ops M (writersE (idxE ops.toList 0) 0) (writersE (filt (softX R) (idxE ops.toList 0)) 0) R (idxE ops.toList 0) = true) :
    Stat ops M R ∧ chainE M (filt (effX R) (idxE ops.toList 0)) 0 = true := by
  unfold statE at h
  cases hs0 : allE (soleE (writersE (idxE ops.toList 0) 0)) (idxE ops.toList 0) with
  | false => rw [hs0] at h; cases h
  | true =>
  rw [hs0, sel_true] at h
  rw [allE_iff] at hs0
  rw [sel_eq] at h
  split at h
  · rename_i h1
    rw [allE_iff] at h1
    have key : ∀ i o, ops[i]? = some o → ((i, o) : Num) ∈ idxE ops.toList 0 := fun i o ho => (mem_idxE _ _ _).2 ⟨i, by simpa using ho, by simp⟩
    have yek : ∀ x : Num, x ∈ idxE ops.toList 0 → ops[x.1]? = some x.2 := fun x hx => by
      obtain ⟨k, hk, hk2⟩ := (mem_idxE _ _ _).1 hx
      rw [hk2]; simpa using hk
    have h2 : ∀ i o, ops[i]? = some o → i < 128 ∧ (∀ e ∈ o.after, bindsE e = true → e.on < i) ∧
        (∀ d, (d ∈ tmpsOf o.op.operands.toList ∨ d ∈ guardT ops o) → getW (writersE (filt (softX R) (idxE ops.toList 0)) 0) d ||| getW M i = getW M i) := by
      intro i o ho
      have h3 := h1 _ (key i o ho)
      simp only [sel_ltb] at h3
      split at h3
      · rename_i hi
        rw [sel_eq] at h3
        split at h3
        · rename_i he
          rw [sel_eq] at h3
          split at h3
          · rename_i hr
            rw [allE_iff] at he hr h3
            refine ⟨hi, fun e hme hb => ?_, fun d hd => ?_⟩
            · have := he e (by simpa using hme)
              rw [hb, sel_true, ltb_iff] at this
              exact this
            · rcases hd with hd | hd
              · exact Nat.eq_of_beq_eq_true (hr d hd)
              · exact Nat.eq_of_beq_eq_true (h3 d hd)
          · cases h3
        · cases h3
      · cases h3
    refine ⟨⟨fun i o ho => (h2 i o ho).2.1, fun i o ho ha => ?_, fun i o d j o' ho hd hj hsoft hdst => ?_⟩, h⟩
    · have h3 := hs0 _ (key i o ho)
      unfold soleE at h3
      simp only at h3
      rw [ha, sel_true] at h3
      cases hd : o.dst with
      | none => rw [hd] at h3; cases h3
      | some d =>
        rw [hd] at h3
        have h3 := Nat.eq_of_beq_eq_true h3
        refine ⟨d, rfl, fun j o' hj hdj => ?_⟩
        have h4 : (getW (writersE (idxE ops.toList 0) 0) d).testBit j = true :=
          writersE_bit _ 0 (fun _ _ _ => trivial) (fun x hx => (h2 _ _ (yek x hx)).1) d j (.inr ⟨(j, o'), key j o' hj, hdj, rfl⟩)
        rw [h3] at h4
        have e : Nat.shiftLeft 1 i = 1 <<< i := rfl
        rw [e, Nat.one_shiftLeft, Nat.testBit_two_pow] at h4
        have h4 := of_decide_eq_true h4
        exact h4.symm
    have h3 := (h2 i o ho).2.2 d hd
    have h4 : (getW (writersE (filt (softX R) (idxE ops.toList 0)) 0) d).testBit j = true :=
      writersE_bit _ 0 (fun _ _ _ => trivial) (fun x hx => (h2 _ _ (yek x ((mem_filt _ _ _).1 hx).1)).1) d j (.inr ⟨(j, o'), (mem_filt _ _ _).2 ⟨key j o' hj, hsoft⟩, hdst, rfl⟩)
    rw [bitE_iff, ← h3, Nat.testBit_or, h4, Bool.true_or]
  · cases h
end Go.Eng
