/- Part of the evaluator: Na Nb. -/
import Derived.Test.YtadmpiidofncpaaEngN
import Derived.Orders

/- Regions that draw their order: what the static look says. -/
namespace Go.Eng
set_option linter.unusedSectionVars false
set_option linter.unusedSimpArgs false
set_option linter.unusedVariables false
open Go Go.RowKit
variable [E : Env]

theorem binds_any (e : Edge) : bindsE e = Region.binds .any e := by
  unfold bindsE Region.binds
  cases e.ground <;> rfl

theorem bitE_iff (m i : Nat) : bitE m i = m.testBit i := by
  unfold bitE
  rw [nbeq, Nat.testBit_eq_decide_div_mod_eq]
  congr 2
  show (m >>> i) % 2 = _
  rw [Nat.shiftRight_eq_div_pow]

theorem allE_iff {α : Type} (p : α → Bool) : ∀ l : List α, allE p l = true ↔ ∀ x ∈ l, p x = true
  | [] => by simp [allE]
  | x :: l => by
    have e : allE p (x :: l) = sel (p x) (allE p l) false := rfl
    rw [e, sel_eq]
    have := allE_iff p l
    by_cases h : p x = true <;> simp [h, this]
theorem mem_filt (p : Num → Bool) : ∀ (l : List Num) (x : Num), x ∈ filt p l ↔ x ∈ l ∧ p x = true
  | [], x => by simp [filt]
  | y :: l, x => by
    have e : filt p (y :: l) = sel (p y) (y :: filt p l) (filt p l) := rfl
    rw [e, sel_eq]
    have := mem_filt p l x
    by_cases h : p y = true
    · simp only [h, if_true, List.mem_cons, this]
      constructor
      · rintro (rfl | h1); exact ⟨.inl rfl, h⟩; exact ⟨.inr h1.1, h1.2⟩
      · rintro ⟨rfl | h1, h2⟩; exact .inl rfl; exact .inr ⟨h1, h2⟩
    · rw [if_neg h, this]
      constructor
      · rintro ⟨h1, h2⟩; exact ⟨List.mem_cons_of_mem _ h1, h2⟩
      · rintro ⟨h1, h2⟩
        rcases List.mem_cons.1 h1 with rfl | h1
        · exact absurd h2 h
        · exact ⟨h1, h2⟩
theorem mem_app : ∀ (l r : List Num) (x : Num), x ∈ app l r ↔ x ∈ l ∨ x ∈ r
  | [], r, x => by simp [app]
  | y :: l, r, x => by
    have e : app (y :: l) r = y :: app l r := rfl
    rw [e, List.mem_cons, List.mem_cons, mem_app l r x, or_assoc]
theorem mem_idxE : ∀ (l : List Oper) (k : Nat) (x : Num), x ∈ idxE l k ↔ ∃ j, l[j]? = some x.2 ∧ x.1 = k + j
  | [], k, x => by simp [idxE]
  | o :: l, k, x => by
    have e : idxE (o :: l) k = (k, o) :: idxE l (k + 1) := rfl
    rw [e, List.mem_cons, mem_idxE l (k + 1) x]
    constructor
    · rintro (rfl | ⟨j, h1, h2⟩)
      · exact ⟨0, rfl, rfl⟩
      · exact ⟨j + 1, by simpa using h1, by omega⟩
    · rintro ⟨j, h1, h2⟩
      cases j with
      | zero =>
        left
        obtain ⟨a, b⟩ := x
        simp at h1 h2
        rw [h2, h1]
      | succ j => exact .inr ⟨j, by simpa using h1, by omega⟩
theorem mem_tmpsOf : ∀ (l : List Operand) (t : Nat), .tmp t ∈ l → t ∈ tmpsOf l
  | [], _, h => by cases h
  | x :: l, t, h => by
    have ih := mem_tmpsOf l t
    rcases List.mem_cons.1 h with rfl | h
    · show t ∈ t :: tmpsOf l; exact List.mem_cons_self
    · have := ih h
      cases x with
      | tmp u => exact List.mem_cons_of_mem _ this
      | const v => exact this
      | func f => exact this
      | global g => exact this

/-! ### what must have come before -/
def dn (ls : Array Bool) (i : Nat) : Bool := ls.getD i false

structure Closed (ops : Array Oper) (ls : Array Bool) : Prop where
  size : ls.size = ops.size
  clo : ∀ i o, ops[i]? = some o → dn ls i = true → ∀ e ∈ o.after, bindsE e = true → dn ls e.on = true

def MaskOk (ops : Array Oper) (M : Nat) : Prop := ∀ ls, Closed ops ls → ∀ i o, ops[i]? = some o → (∀ e ∈ o.after, bindsE e = true → dn ls e.on = true) → ∀ j, bitE (getW M i) j = true → dn ls j = true

theorem predM_bit (M : Nat) : ∀ (l : List Edge) (j : Nat), (predM M l).testBit j = true → ∃ e ∈ l, bindsE e = true ∧ (j = e.on ∨ (getW M e.on).testBit j = true)
  | [], j, h => by simp [predM] at h
  | e :: l, j, h => by
    have eq : predM M (e :: l) = sel (bindsE e) (predM M l ||| ((1 <<< e.on) ||| getW M e.on)) (predM M l) := rfl
    rw [eq, sel_eq] at h
    have ih := predM_bit M l j
    by_cases hb : bindsE e = true
    · rw [if_pos hb, Nat.testBit_or, Nat.testBit_or, Bool.or_eq_true, Bool.or_eq_true] at h
      rcases h with h | h | h
      · obtain ⟨e', h1, h2⟩ := ih h; exact ⟨e', List.mem_cons_of_mem _ h1, h2⟩
      · refine ⟨e, List.mem_cons_self, hb, .inl ?_⟩
        rw [Nat.testBit_shiftLeft] at h
        simp at h
        obtain ⟨h1, h2⟩ := h
        cases hk : j - e.on with
        | zero => omega
        | succ k => rw [hk, Nat.testBit_succ] at h2; simp at h2
      · exact ⟨e, List.mem_cons_self, hb, .inr h⟩
    · rw [if_neg hb] at h
      obtain ⟨e', h1, h2⟩ := ih h; exact ⟨e', List.mem_cons_of_mem _ h1, h2⟩

theorem masksE_ok {ops : Array Oper} {ls : Array Bool} (hc : Closed ops ls) : ∀ (l : List Oper) (k M : Nat), (∀ j, l[j]? = ops[k + j]?) →
    (∀ i o, ops[i]? = some o → i < k → (∀ e ∈ o.after, bindsE e = true → dn ls e.on = true) → ∀ j, (getW M i).testBit j = true → dn ls j = true) →
    (∀ i, k ≤ i → getW M i = 0) →
    ∀ i o, ops[i]? = some o → (∀ e ∈ o.after, bindsE e = true → dn ls e.on = true) → ∀ j, (getW (masksE l k M) i).testBit j = true → dn ls j = true
  | [], k, M, hl, h1, h2 => by
    intro i o ho hp j hj
    have e : masksE [] k M = M := rfl
    rw [e] at hj
    by_cases hi : i < k
    · exact h1 i o ho hi hp j hj
    · rw [h2 i (by omega)] at hj; simp at hj
  | o :: l, k, M, hl, h1, h2 => by
    have e : masksE (o :: l) k M = masksE l (k + 1) (setW M k ((predM M o.after.toList) % 2 ^ 128)) := rfl
    rw [e]
    have hk : ops[k]? = some o := by have := hl 0; simpa using this.symm
    have hlt : (predM M o.after.toList) % 2 ^ 128 < 2 ^ 128 := Nat.mod_lt _ (Nat.pow_pos (by omega))
    refine masksE_ok hc l (k + 1) _ (fun j => by have := hl (j + 1); simpa [Nat.add_assoc, Nat.add_comm 1 j] using this) ?_ ?_
    · intro i oi hoi hi hp j hj
      by_cases hik : i = k
      · subst hik
        rw [hk] at hoi; injection hoi with hoi; subst hoi
        rw [getW_setW_same _ _ _ hlt, Nat.testBit_mod_two_pow] at hj
        simp only [Bool.and_eq_true] at hj
        obtain ⟨e', he, hb, h⟩ := predM_bit M _ j hj.2
        have he' : e' ∈ o.after := by simpa using he
        have hd := hp e' he' hb
        rcases h with rfl | h
        · exact hd
        · by_cases hlt' : e'.on < i
          · have hs : e'.on < ops.size := Nat.lt_trans hlt' (Array.getElem?_eq_some_iff.1 hk).1
            have ho2 : ops[e'.on]? = some ops[e'.on] := by simp [hs]
            exact h1 e'.on _ ho2 hlt' (fun e2 h3 h4 => hc.clo _ _ ho2 hd e2 h3 h4) j h
          · rw [h2 e'.on (by omega)] at h; simp at h
      · rw [getW_setW_ne _ _ _ _ hlt hik] at hj
        exact h1 i oi hoi (by omega) hp j hj
    · intro i hi
      rw [getW_setW_ne _ _ _ _ hlt (by omega)]
      exact h2 i (by omega)

theorem maskOk (ops : Array Oper) : MaskOk ops (masksE ops.toList 0 0) := by
  intro ls hc i o ho hp j hj
  rw [bitE_iff] at hj
  exact masksE_ok hc ops.toList 0 0 (by simp) (fun i o _ h => absurd h (by omega)) (fun i _ => getW_zero i) i o ho hp j hj

/-! ### who writes -/
theorem writersE_bit : ∀ (l : List Num) (W : Nat), (∀ d j, (getW W d).testBit j = true → True) → (∀ x ∈ l, x.1 < 128) → ∀ d j,
    ((getW W d).testBit j = true ∨ ∃ x ∈ l, x.2.dst = some d ∧ x.1 = j) → (getW (writersE l W) d).testBit j = true
  | [], W, _, _, d, j, h => by
    have e : writersE [] W = W := rfl
    rw [e]
    rcases h with h | ⟨x, hx, _⟩
    · exact h
    · cases hx
  | x :: l, W, hW, hl, d, j, h => by
    have e : writersE (x :: l) W = writersE l (match x.2.dst with | some d => setW W d (getW W d ||| (1 <<< x.1)) | none => W) := rfl
    rw [e]
    refine writersE_bit l _ (fun _ _ _ => trivial) (fun y hy => hl y (List.mem_cons_of_mem _ hy)) d j ?_
    have hx := hl x List.mem_cons_self
    cases hd : x.2.dst with
    | none =>
      simp only
      rcases h with h | ⟨y, hy, h1, h2⟩
      · exact .inl h
      · rcases List.mem_cons.1 hy with rfl | hy
        · rw [hd] at h1; cases h1
        · exact .inr ⟨y, hy, h1, h2⟩
    | some d' =>
      simp only
      have hv : getW W d' ||| (1 <<< x.1) < 2 ^ 128 := by
        refine Nat.or_lt_two_pow (getW_lt _ _) ?_
        rw [Nat.one_shiftLeft]; exact Nat.pow_lt_pow_right (by omega) hx
      by_cases hdd : d = d'
      · subst hdd
        rw [getW_setW_same _ _ _ hv, Nat.testBit_or, Bool.or_eq_true]
        rcases h with h | ⟨y, hy, h1, h2⟩
        · exact .inl (.inl h)
        · rcases List.mem_cons.1 hy with rfl | hy
          · left; right; rw [h2, Nat.testBit_shiftLeft]; simp
          · exact .inr ⟨y, hy, h1, h2⟩
      · rw [getW_setW_ne _ _ _ _ hv hdd]
        rcases h with h | ⟨y, hy, h1, h2⟩
        · exact .inl h
        · rcases List.mem_cons.1 hy with rfl | hy
          · rw [hd] at h1; injection h1 with h1; exact absurd h1.symm hdd
          · exact .inr ⟨y, hy, h1, h2⟩

structure Stat (ops : Array Oper) (M R : Nat) : Prop where
  edge : ∀ i o, ops[i]? = some o → ∀ e ∈ o.after, bindsE e = true → e.on < i
  sole : ∀ (i : Nat) (o : Oper), ops[i]? = some o → allocOp o.op = true → ∃ d, o.dst = some d ∧ ∀ (j : Nat) (o' : Oper), ops[j]? = some o' → o'.dst = some d → j = i
  reads : ∀ i o d j o', ops[i]? = some o → (d ∈ tmpsOf o.op.operands.toList ∨ d ∈ guardT ops o) → ops[j]? = some o' → softX R (j, o') = true → o'.dst = some d → bitE (getW M i) j = true

theorem stat_of {ops : Array Oper} {M R : Nat} (h : statE ops M (writersE (idxE ops.toList 0) 0) (writersE (filt (softX R) (idxE ops.toList 0)) 0) R (idxE ops.toList 0) = true) :
    Stat ops M R ∧ chainE M (filt (effX R) (idxE ops.toList 0)) 0 = true := by
  unfold statE at h
  cases hs0 : allE (soleE (writersE (idxE ops.toList 0) 0)) (idxE ops.toList 0) with
  | false => rw [hs0] at h; cases h
  | true =>
  rw [hs0, sel_true] at h
  rw [allE_iff] at hs0
  rw [sel_eq] at h
  split at h
  · rename_i h1
    rw [allE_iff] at h1
    have key : ∀ i o, ops[i]? = some o → ((i, o) : Num) ∈ idxE ops.toList 0 := fun i o ho => (mem_idxE _ _ _).2 ⟨i, by simpa using ho, by simp⟩
    have yek : ∀ x : Num, x ∈ idxE ops.toList 0 → ops[x.1]? = some x.2 := fun x hx => by
      obtain ⟨k, hk, hk2⟩ := (mem_idxE _ _ _).1 hx
      rw [hk2]; simpa using hk
    have h2 : ∀ i o, ops[i]? = some o → i < 128 ∧ (∀ e ∈ o.after, bindsE e = true → e.on < i) ∧
        (∀ d, (d ∈ tmpsOf o.op.operands.toList ∨ d ∈ guardT ops o) → getW (writersE (filt (softX R) (idxE ops.toList 0)) 0) d ||| getW M i = getW M i) := by
      intro i o ho
      have h3 := h1 _ (key i o ho)
      simp only [sel_ltb] at h3
      split at h3
      · rename_i hi
        rw [sel_eq] at h3
        split at h3
        · rename_i he
          rw [sel_eq] at h3
          split at h3
          · rename_i hr
            rw [allE_iff] at he hr h3
            refine ⟨hi, fun e hme hb => ?_, fun d hd => ?_⟩
            · have := he e (by simpa using hme)
              rw [hb, sel_true, ltb_iff] at this
              exact this
            · rcases hd with hd | hd
              · exact Nat.eq_of_beq_eq_true (hr d hd)
              · exact Nat.eq_of_beq_eq_true (h3 d hd)
          · cases h3
        · cases h3
      · cases h3
    refine ⟨⟨fun i o ho => (h2 i o ho).2.1, fun i o ho ha => ?_, fun i o d j o' ho hd hj hsoft hdst => ?_⟩, h⟩
    · have h3 := hs0 _ (key i o ho)
      unfold soleE at h3
      simp only at h3
      rw [ha, sel_true] at h3
      cases hd : o.dst with
      | none => rw [hd] at h3; cases h3
      | some d =>
        rw [hd] at h3
        have h3 := Nat.eq_of_beq_eq_true h3
        refine ⟨d, rfl, fun j o' hj hdj => ?_⟩
        have h4 : (getW (writersE (idxE ops.toList 0) 0) d).testBit j = true :=
          writersE_bit _ 0 (fun _ _ _ => trivial) (fun x hx => (h2 _ _ (yek x hx)).1) d j (.inr ⟨(j, o'), key j o' hj, hdj, rfl⟩)
        rw [h3] at h4
        have e : Nat.shiftLeft 1 i = 1 <<< i := rfl
        rw [e, Nat.one_shiftLeft, Nat.testBit_two_pow] at h4
        have h4 := of_decide_eq_true h4
        exact h4.symm
    have h3 := (h2 i o ho).2.2 d hd
    have h4 : (getW (writersE (filt (softX R) (idxE ops.toList 0)) 0) d).testBit j = true :=
      writersE_bit _ 0 (fun _ _ _ => trivial) (fun x hx => (h2 _ _ (yek x ((mem_filt _ _ _).1 hx).1)).1) d j (.inr ⟨(j, o'), (mem_filt _ _ _).2 ⟨key j o' hj, hsoft⟩, hdst, rfl⟩)
    rw [bitE_iff, ← h3, Nat.testBit_or, h4, Bool.true_or]
  · cases h
end Go.Eng

/- Regions that draw their order: operations look at their operands alone. -/
namespace Go.Eng
set_option linter.unusedSectionVars false
set_option linter.unusedSimpArgs false
set_option linter.unusedVariables false
open Go Go.RowKit
variable [E : Env]

section
variable {base : Nat} {H H' : Trie} {n n' nt T T' v : Nat} {ρ : Rho} {L : Look} {w : World} {P : Program} {tmps : Array Value} {ops : Array Oper} {call : Nat → List Nat → Trie → Nat → OR}

theorem evs_congr : ∀ (l : List Operand), (∀ x ∈ l, ev T x = ev T' x) → evs T l = evs T' l
  | [], _ => rfl
  | x :: l, h => by
    have e : ∀ T, evs T (x :: l) = ev T x :: evs T l := fun _ => rfl
    rw [e, e, h x List.mem_cons_self, evs_congr l fun y hy => h y (List.mem_cons_of_mem _ hy)]
theorem fillE_congr (len : Nat) : ∀ (ps : List (Nat × Operand)) (c : Nat), (∀ x ∈ ps.map (·.2), ev T x = ev T' x) → fillE T len ps c = fillE T' len ps c
  | [], _, _ => rfl
  | p :: l, c, h => by
    have e : ∀ T c, fillE T len (p :: l) c = sel (ltb p.1 len) (sel (storable (ev T p.2)) (fillE T len l (setW c p.1 (ev T p.2))) .none) .none := fun _ _ => rfl
    rw [e, e, h p.2 (by simp), fillE_congr len l _ fun y hy => h y (by simp at hy ⊢; exact .inr hy)]
theorem optI_congr {x : Option Operand} {d : Nat} {k : Nat → OR} (h : ∀ y, x = some y → ev T y = ev T' y) : optI x T d k = optI x T' d k := by
  cases x with
  | none => rfl
  | some y => show isI (ev T y) k = isI (ev T' y) k; rw [h y rfl]

theorem fillS_congr {fs : Array Field} {tot : Nat} : ∀ (ps : List (Nat × Operand)) (c : Nat), (∀ x ∈ ps.map (·.2), ev T x = ev T' x) → fillS P H T fs tot ps c = fillS P H T' fs tot ps c
  | [], _, _ => rfl
  | p :: l, c, h => by
    have e : ∀ T c, fillS P H T fs tot (p :: l) c = match fs[p.1]? with
      | some f => (match cellsN H (ev T p.2) (tsz P f.type) with
        | .some d => sel (Nat.ble (Nat.add f.offset (tsz P f.type)) tot) (fillS P H T fs tot l (splice c f.offset (tsz P f.type) tot d)) .none
        | .none => .none)
      | none => .none := fun _ _ => rfl
    rw [e, e, h p.2 (by simp)]
    cases fs[p.1]? with
    | none => rfl
    | some f =>
      simp only
      cases cellsN H (ev T' p.2) (tsz P f.type) with
      | none => rfl
      | some d => simp only; rw [fillS_congr l _ fun y hy => h y (by simp at hy ⊢; exact .inr hy)]
theorem fillR_congr {sz tot : Nat} : ∀ (ps : List (Nat × Operand)) (c : Nat), (∀ x ∈ ps.map (·.2), ev T x = ev T' x) → fillR H T sz tot ps c = fillR H T' sz tot ps c
  | [], _, _ => rfl
  | p :: l, c, h => by
    have e : ∀ T c, fillR H T sz tot (p :: l) c = match cellsN H (ev T p.2) sz with
      | .some d => sel (Nat.ble (Nat.add (Nat.mul p.1 sz) sz) tot) (fillR H T sz tot l (splice c (Nat.mul p.1 sz) sz tot d)) .none
      | .none => .none := fun _ _ => rfl
    rw [e, e, h p.2 (by simp)]
    cases cellsN H (ev T' p.2) sz with
    | none => rfl
    | some d => simp only; rw [fillR_congr l _ fun y hy => h y (by simp at hy ⊢; exact .inr hy)]
theorem opE_congr {op : Op} (h : ∀ x ∈ op.operands, ev T x = ev T' x) : opE P call T H n op = opE P call T' H n op := by
  cases op with
  | move x => simp only [opE_eq, opX, h x (by simp [Op.operands])]
  | assign x => simp only [opE_eq, opX, h x (by simp [Op.operands])]
  | pick c a b => simp only [opE_eq, opX, h c (by simp [Op.operands]), h a (by simp [Op.operands]), h b (by simp [Op.operands])]
  | alloc t => rfl
  | box t x => simp only [opE_eq, opX, h x (by simp [Op.operands])]
  | buildSlice t len ps =>
    simp only [opE_eq, opX]
    have e : fillE T len ps.toList = fillE T' len ps.toList := funext fun c => fillE_congr len ps.toList c fun x hx => h x (by simpa [Op.operands] using hx)
    have e2 : ∀ sz tot, fillR H T sz tot ps.toList = fillR H T' sz tot ps.toList := fun sz tot => funext fun c => fillR_congr ps.toList c fun x hx => h x (by simpa [Op.operands] using hx)
    rw [e]
    simp only [buildSliceA, e2]
  | build t ps =>
    simp only [opE_eq, opX, buildA]
    have e1 : ∀ fs tot, fillS P H T fs tot ps.toList = fillS P H T' fs tot ps.toList := fun fs tot => funext fun c => fillS_congr ps.toList c fun x hx => h x (by simpa [Op.operands] using hx)
    have e2 : ∀ sz tot, fillR H T sz tot ps.toList = fillR H T' sz tot ps.toList := fun sz tot => funext fun c => fillR_congr ps.toList c fun x hx => h x (by simpa [Op.operands] using hx)
    simp only [e1, e2]
  | field t x i => simp only [opE_eq, opX, h x (by simp [Op.operands])]
  | fieldAddr t x i => simp only [opE_eq, opX, h x (by simp [Op.operands])]
  | index t x i => simp only [opE_eq, opX, h x (by simp [Op.operands]), h i (by simp [Op.operands])]
  | lookup t x i ok => simp only [opE_eq, opX, h x (by simp [Op.operands]), h i (by simp [Op.operands])]
  | mapUpdate t x i y => simp only [opE_eq, opX, h x (by simp [Op.operands]), h i (by simp [Op.operands]), h y (by simp [Op.operands])]
  | makeMap t r =>
    simp only [opE_eq, opX]
    exact optI_congr fun y hy => h y (by simp [Op.operands, hy])
  | load t a => simp only [opE_eq, opX, h a (by simp [Op.operands])]
  | store t a x => simp only [opE_eq, opX, h a (by simp [Op.operands]), h x (by simp [Op.operands])]
  | binOp o t x y yt => simp only [opE_eq, opX, h x (by simp [Op.operands]), h y (by simp [Op.operands])]
  | unOp o t x => simp only [opE_eq, opX, h x (by simp [Op.operands])]
  | makeFunc t first cap =>
    cases t with
    | func f =>
      have e := evs_congr (T := T) (T' := T') cap.toList fun x hx => h x (by simp [Op.operands]; right; simpa using hx)
      simp only [opE_eq, opX]
      rw [e]
    | _ => rfl
  | makeSlice t l c => simp only [opE_eq, opX, h l (by simp [Op.operands]), h c (by simp [Op.operands])]
  | slice t x lo hi mx =>
    simp only [opE_eq, opX, h x (by simp [Op.operands]), sliceE, sliceY, sliceZ, sliceArr]
    simp only [optI_congr (x := lo) (T := T) (T' := T') fun y hy => h y (by simp [Op.operands, hy]),
      optI_congr (x := hi) (T := T) (T' := T') fun y hy => h y (by simp [Op.operands, hy]),
      optI_congr (x := mx) (T := T) (T' := T') fun y hy => h y (by simp [Op.operands, hy])]
  | indexAddr t x i => simp only [opE_eq, opX, h x (by simp [Op.operands]), h i (by simp [Op.operands])]
  | nilCheck x => simp only [opE_eq, opX, h x (by simp [Op.operands])]
  | extract x i => simp only [opE_eq, opX, h x (by simp [Op.operands])]
  | makeInterface t x => simp only [opE_eq, opX, h x (by simp [Op.operands])]
  | convert s t x => simp only [opE_eq, opX, h x (by simp [Op.operands])]
  | call c =>
    simp only [opE_eq, opX, callE]
    rw [evs_congr c.args.toList fun x hx => h x (by simp [Op.operands, Call.operands]; right; simpa using hx)]
    cases hc : c.callee with
    | value f => simp only; rw [h f (by simp [Op.operands, Call.operands, hc])]
    | builtin b => rfl
    | invoke r m => simp only; rw [h r (by simp [Op.operands, Call.operands, hc])]
  | _ => rfl

theorem ev_of_tmps {l : List Operand} (h : ∀ d ∈ tmpsOf l, getW T d = getW T' d) : ∀ x ∈ l, ev T x = ev T' x := by
  intro x hx
  cases x with
  | tmp t => exact h t (mem_tmpsOf l t hx)
  | const v => rfl
  | func f => rfl
  | global g => rfl

theorem optI_same {x : Option Operand} {d : Nat} {k : Nat → OR} (h : optI x T d k = .ok v H' n') (hk : ∀ m, k m = .ok v H' n' → H' = H ∧ n' = n) : H' = H ∧ n' = n := by
  cases x with
  | none => exact hk d h
  | some y =>
    have h' : isI (ev T y) k = .ok v H' n' := h
    unfold isI at h'
    rw [sel_eq] at h'
    split at h'
    · exact hk _ h'
    · cases h'
theorem sel_ok {b : Bool} {r : OR} {q : Nat} (h : sel b r (.bad q) = .ok v H' n') : r = .ok v H' n' := by
  cases b with
  | true => exact h
  | false => cases h
theorem sel_ok' {b : Bool} {r : OR} {q : Nat} (h : sel b (.bad q) r = .ok v H' n') : r = .ok v H' n' := by
  cases b with
  | false => exact h
  | true => cases h
theorem ok_same (h : OR.ok (v) H n = .ok T H' n') : H' = H ∧ n' = n := by injection h with a b c; exact ⟨b.symm, c.symm⟩
theorem okv_same {x : Nat} (h : okv x H n = .ok v H' n') : H' = H ∧ n' = n := let ⟨_, _, a, b⟩ := okv_inv h; ⟨a, b⟩

/-- The heap is left alone, or has a new box. -/
def QB (H : Trie) (n : Nat) (H' : Trie) (n' : Nat) : Prop := (H' = H ∧ n' = n) ∨ ∃ k, IsBox k ∧ H' = hset H n k ∧ n' = n + 1 ∧ n < 16384
theorem qb_newBox {kd len c x : Nat} (h : newBox H n kd len c x = .ok v H' n') : QB H n H' n' := by
  obtain ⟨h1, _, h2, h3⟩ := newBox_inv h
  exact .inr ⟨.box kd len c, trivial, h2, h3, h1⟩
theorem qb_poly {op : BinOp} {x y : Nat} (h : polyBin op x y H n = .ok v H' n') : QB H n H' n' := by
  rcases polyBin_heap h with h | ⟨p, q, s, d, lo, hi, h1, h2, h3, h4⟩
  · exact .inl h
  · exact .inr ⟨.poly p q s d lo hi, h4, h1, h2, h3⟩
theorem qb_okv {x : Nat} (h : okv x H n = .ok v H' n') : QB H n H' n' := .inl (okv_same h)
theorem qb_part {t : TypeId} {m c off : Nat} (h : partE P t m c off H n = .ok v H' n') : QB H n H' n' := by
  unfold partE at h
  rw [sel_eq] at h
  split at h
  · exact qb_okv (sel_ok h)
  · exact qb_newBox (sel_ok (sel_ok h))
theorem qb_ptrAt {x d : Nat} (h : ptrAt x d H n = .ok v H' n') : QB H n H' n' := by
  unfold ptrAt at h
  exact .inl (ok_same (sel_ok (sel_ok' (sel_ok h))))
theorem qb_optI {x : Option Operand} {d : Nat} {k : Nat → OR} (h : optI x T d k = .ok v H' n') (hk : ∀ m, k m = .ok v H' n' → QB H n H' n') : QB H n H' n' := by
  cases x with
  | none => exact hk d h
  | some y =>
    have h' : isI (ev T y) k = .ok v H' n' := h
    unfold isI at h'
    rw [sel_eq] at h'
    split at h'
    · exact hk _ h'
    · cases h'

theorem quiet_box {op : Op} (hq : quietOp op = true) (h : opE P call T H n op = .ok v H' n') : QB H n H' n' := by
  cases op with
  | move x => exact qb_okv h
  | convert s t x =>
    simp only [opE_eq, opX] at h
    rw [sel_eq] at h
    split at h
    · exact .inl (ok_same (sel_ok (sel_ok h)))
    · have h := sel_ok (sel_ok h)
      rw [sel_eq] at h
      split at h
      · exact .inl (ok_same h)
      · exact .inl (ok_same (sel_ok h))
  | nilCheck a =>
    simp only [opE_eq, opX] at h
    exact qb_okv (sel_ok' (sel_ok h))
  | pick c a b =>
    simp only [opE_eq, opX] at h
    rw [sel_eq] at h
    split at h
    · exact qb_okv h
    · exact qb_okv (sel_ok h)
  | load t a =>
    simp only [opE_eq, opX] at h
    rw [sel_eq] at h
    split at h
    · exact qb_okv (sel_ok' (sel_ok h))
    · unfold loadA at h
      obtain ⟨_, _, h⟩ := calm_boxN (sel_ok' (sel_ok (sel_ok h)))
      exact qb_newBox h
  | binOp o t x y yt =>
    simp only [opE_eq, opX] at h
    rw [sel_eq] at h
    split at h
    · exact qb_okv h
    rw [sel_eq] at h
    split at h
    · exact .inl (eqA_same h)
    · rw [sel_eq] at h
      split at h
      · exact qb_okv h
      · rw [sel_eq] at h
        split at h
        · exact qb_poly h
        · rw [sel_eq] at h
          split at h
          · exact qb_okv h
          · exact qb_okv h
  | unOp o t x =>
    simp only [opE_eq, opX] at h
    rw [sel_eq] at h
    split at h
    · unfold negP at h
      split at h
      · exact qb_poly h
      · cases h
    · exact qb_okv h
  | slice t x lo hi mx =>
    simp only [opE_eq, opX] at h
    rw [sel_eq] at h
    split at h
    · unfold sliceArr at h
      split at h
      · have h := sel_ok' (sel_ok (sel_ok h))
        split at h
        · exact qb_optI (sel_ok h) fun m h => qb_optI h fun m2 h => qb_optI h fun m3 h => .inl (ok_same (sel_ok h))
        · cases h
      · cases h
    · simp only [sliceE] at h
      rw [sel_eq] at h
      split at h
      · simp only [sliceZ] at h
        obtain ⟨e, _, _, h2⟩ := telem_inv (sel_ok h) rfl (by simp)
        exact qb_optI h2 fun m h3 => qb_optI h3 fun m2 h4 => qb_optI h4 fun m3 h5 => .inl (ok_same (sel_ok (sel_ok (sel_ok h5))))
      simp only [sliceY] at h
      have h1 := sel_ok h
      obtain ⟨e, _, _, h2⟩ := telem_inv h1 rfl (by simp)
      refine qb_optI h2 fun m h3 => qb_optI h3 fun m2 h4 => qb_optI h4 fun m3 h5 => .inl ?_
      have h6 := sel_ok (sel_ok (sel_ok h5))
      rw [sel_eq] at h6
      split at h6
      · exact ok_same h6
      · exact ok_same (sel_ok h6)
  | indexAddr t x i =>
    simp only [opE_eq, opX] at h
    rw [sel_eq] at h
    split at h
    · obtain ⟨e, _, _, h2⟩ := telem_inv h rfl (by simp)
      unfold isI at h2
      exact .inl (ok_same (sel_ok (sel_ok' (sel_ok (sel_ok h2)))))
    · unfold indexAddrA at h
      split at h
      · exact qb_ptrAt (sel_ok (sel_ok (sel_ok h)))
      · cases h
  | extract x i =>
    simp only [opE_eq, opX] at h
    have h1 := sel_ok h
    split at h1
    · exact qb_okv (sel_ok h1)
    · cases h1
  | build t ps =>
    simp only [opE_eq, opX, buildA] at h
    obtain ⟨i, z, c, _, _, h, _⟩ := zcells_inv h (by simp)
    split at h
    · obtain ⟨_, _, h⟩ := calm_boxN (sel_ok h)
      exact qb_newBox h
    · obtain ⟨_, _, h⟩ := calm_boxN (sel_ok h)
      exact qb_newBox h
    · cases h
  | field t x i =>
    simp only [opE_eq, opX, fieldA] at h
    have h := sel_ok h
    split at h
    · split at h
      · split at h
        · exact qb_part h
        · cases h
      · cases h
    · cases h
  | index t x i =>
    simp only [opE_eq, opX, indexA] at h
    have h := sel_ok h
    split at h
    · split at h
      · exact qb_part (sel_ok (sel_ok (sel_ok h)))
      · cases h
    · cases h
  | fieldAddr t x i =>
    simp only [opE_eq, opX, fieldAddrA] at h
    split at h
    · split at h
      · exact qb_ptrAt (sel_ok' (sel_ok h))
      · cases h
    · cases h
  | lookup t x i ok =>
    simp only [opE_eq, opX, lookupE] at h
    obtain ⟨kt, et, h⟩ := tmap_ok h
    have fin : ∀ {q : Nat} {b : Bool}, lookFin q b ok H n = .ok v H' n' → QB H n H' n' := fun h => by
      unfold lookFin at h
      cases ok with
      | true => exact qb_newBox h
      | false => exact qb_okv h
    have zero : lookZero P et ok H n = .ok v H' n' → QB H n H' n' := fun h => by
      unfold lookZero at h
      exact fin (sel_ok h)
    unfold keyE at h
    have h := sel_ok h
    split at h
    · have h := sel_ok (sel_ok h)
      dsimp only at h
      rw [sel_eq] at h
      split at h
      · exact zero h
      · have h := sel_ok h
        split at h
        · have h := sel_ok h
          split at h
          · exact fin h
          · exact zero h
        · cases h
    · cases h
  | makeInterface t x =>
    simp only [opE_eq, opX, mkIface] at h
    exact qb_newBox (sel_ok (sel_ok' (sel_ok h)))
  | makeFunc fn first cap =>
    cases fn with
    | func f =>
      simp only [opE_eq, opX] at h
      have h := sel_ok h
      rw [sel_eq] at h
      split at h
      · exact .inl (ok_same h)
      · exact qb_newBox (sel_ok (sel_ok h))
    | _ => cases h
  | call c =>
    simp only [opE_eq, opX, callE] at h
    have h1 := sel_ok h
    cases hc : c.callee with
    | value f => simp [quietOp, hc] at hq
    | invoke r m => simp [quietOp, hc] at hq
    | builtin b =>
      rw [hc] at h1
      simp only at h1
      cases b <;> simp [quietOp, hc] at hq
      all_goals (unfold builtinE at h1; split at h1 <;> first | exact qb_okv h1 | cases h1 | simp_all)
  | _ => cases hq

/-- What such an operation does, wherever its box lies. -/
theorem calm_call {o : Oper} {cfr : Frame} {ccs : List Frame} (c : Ctx base H n ρ L w) (ht : TR ρ L nt T tmps) {q : Call} (ho : o.op = .call q) (hq : quietOp o.op = true) (h : opE P call T H n o.op = .ok v H' n') :
    CalmD ρ L H n w v H' n' (OpDone P tmps o w cfr ccs) := by
  rw [ho] at h hq
  simp only [opE_eq, opX, callE] at h
  rw [sel_eq] at h
  split at h
  · rename_i hnb
    have ha := evs_sound ht q.args.toList hnb
    have hargs : (q.args.map (evT tmps)) = (q.args.toList.map (evT tmps)).toArray := by apply Array.ext'; simp
    have ets : q.argTypes.toList.toArray = q.argTypes := by simp
    have done : ∀ (b : Builtin) (x : Value), q.callee = .builtin b → (builtin b q.argTypes o.type (q.args.map fun | .const _ => true | _ => false) (q.args.toList.map (evT tmps)).toArray).run P w = .ok (.value x) w → OpDone P tmps o w cfr ccs x w := by
      intro b x hcal hx
      refine .value ?_
      rw [← hargs] at hx
      simp only [execOp, ho, resolve, hcal, invoke]
      exact hx
    cases hcal : q.callee with
    | value f => simp [quietOp, hcal] at hq
    | invoke r m => simp [quietOp, hcal] at hq
    | builtin b =>
      rw [hcal] at h
      simp only at h
      generalize hvs : q.args.toList.map (evT tmps) = vs at *
      generalize hws : evs T q.args.toList = args at *
      unfold builtinE at h
      split at h
      · rename_i x
        obtain ⟨h1, rfl, rfl, rfl⟩ := okv_inv h
        cases ha with
        | cons _ vx _ _ hx ha' =>
          cases ha'
          obtain ⟨r, hr1, hr2⟩ := lenE_sound (w := w) (ty := o.type) hx h1
          rw [ets] at hr2
          exact .pure c hr1 (done _ _ hcal (by simp [builtin, hr2]))
      · rename_i x
        obtain ⟨h1, rfl, rfl, rfl⟩ := okv_inv h
        cases ha with
        | cons _ vx _ _ hx ha' =>
          cases ha'
          obtain ⟨r, hr1, hr2⟩ := capE_sound (w := w) (ty := o.type) hx h1
          rw [ets] at hr2
          exact .pure c hr1 (done _ _ hcal (by simp [builtin, hr2]))
      · simp [quietOp, hcal] at hq
      · obtain ⟨h1, rfl, rfl, rfl⟩ := okv_inv h
        obtain ⟨a, b, z, rfl, hz, e, _⟩ := minE_sound (P := P) (w := w) (.inl rfl) ha h1
        refine .pure c hz (done _ _ hcal ?_)
        rw [e rfl]
        by_cases hlt : b < a <;> simp [builtin, Builtin.min_, Builtin.min2, hlt]
      · obtain ⟨h1, rfl, rfl, rfl⟩ := okv_inv h
        obtain ⟨a, b, z, rfl, hz, _, e⟩ := minE_sound (P := P) (w := w) (.inr rfl) ha h1
        refine .pure c hz (done _ _ hcal ?_)
        rw [e rfl]
        by_cases hlt : a < b <;> simp [builtin, Builtin.max_, Builtin.max2, hlt]
      · simp [quietOp, hcal] at hq
      · simp [quietOp, hcal] at hq
      · cases h
  · cases h

theorem calm_sound {o : Oper} {cfr : Frame} {ccs : List Frame} (c : Ctx base H n ρ L w) (ht : TR ρ L nt T tmps) (hq : quietOp o.op = true) (h : opE P call T H n o.op = .ok v H' n') :
    CalmD ρ L H n w v H' n' (OpDone P tmps o w cfr ccs) := by
  cases hop : o.op with
  | move x => rw [hop] at h; exact op_move c ht (.inl hop) h
  | nilCheck x => exact op_nil c ht hop h
  | pick q a b => exact op_pick c ht hop h
  | load t a => exact op_load c ht hop h
  | binOp op t x y yt => exact op_bin c ht hop h
  | unOp op t x => exact op_un c ht hop h
  | makeInterface t x => exact op_makeInterface c ht hop h
  | makeFunc fn first cap =>
    cases fn with
    | func f => exact op_makeFunc c ht hop h
    | _ => rw [hop] at h; cases h
  | slice t x lo hi mx => exact op_slice c ht hop h
  | indexAddr t x i => exact op_indexAddr c ht hop h
  | extract x i => exact op_extract c ht hop h
  | call q => exact calm_call c ht hop hq h
  | convert s t x => exact op_convert c ht hop h
  | build t ps => exact op_build c ht hop h
  | field t x i => exact op_field c ht hop h
  | index t x i => exact op_index c ht hop h
  | fieldAddr t x i => exact op_fieldAddr c ht hop h
  | lookup t x i ok => exact op_lookup c ht hop h
  | _ => rw [hop] at hq; cases hq
end
end Go.Eng
