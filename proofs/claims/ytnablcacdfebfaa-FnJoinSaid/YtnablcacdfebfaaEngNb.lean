/- Regions that draw their order: operations look at their operands alone. -/
import Derived.Test.YtnablcacdfebfaaEngNa
namespace Go.Eng
set_option linter.unusedSectionVars false
set_option linter.unusedSimpArgs false
set_option linter.unusedVariables false
open Go Go.RowKit
variable [E : Env]

section
variable {base : Nat} {H H' : Trie} {n n' nt T T' v : Nat} {ρ : Rho} {L : Look} {w : World} {P : Program} {tmps : Array Value} {ops : Array Oper} {call : Nat → List Nat → Trie → Nat → OR}

theorem evs_congr : ∀ (l : List Operand), (∀ x ∈ l, ev T x = ev T' x) → evs T l = evs T' l
  | [], _ => rfl
  | x :: l, h => by
    have e : ∀ T, evs T (x :: l) = ev T x :: evs T l := fun _ => rfl
    rw [e, e, h x List.mem_cons_self, evs_congr l fun y hy => h y (List.mem_cons_of_mem _ hy)]
theorem fillE_congr (len : Nat) : ∀ (ps : List (Nat × Operand)) (c : Nat), (∀ x ∈ ps.map (·.2), ev T x = ev T' x) → fillE T len ps c = fillE T' len ps c
  | [], _, _ => rfl
  | p :: l, c, h => by
    have e : ∀ T c, fillE T len (p :: l) c = sel (ltb p.1 len) (sel (storable (ev T p.2)) (fillE T len l (setW c p.1 (ev T p.2))) .none) .none := fun _ _ => rfl
    rw [e, e, h p.2 (by simp), fillE_congr len l _ fun y hy => h y (by simp at hy ⊢; exact .inr hy)]
theorem optI_congr {x : Option Operand} {d : Nat} {k : Nat → OR} (h : ∀ y, x = some y → ev T y = ev T' y) : optI x T d k = optI x T' d k := by
  cases x with
  | none => rfl
  | some y => show isI (ev T y) k = isI (ev T' y) k; rw [h y rfl]

theorem opE_congr {op : Op} (h : ∀ x ∈ op.operands, ev T x = ev T' x) : opE P call T H n op = opE P call T' H n op := by
  cases op with
  | move x => simp only [opE_eq, opX, h x (by simp [Op.operands])]
  | assign x => simp only [opE_eq, opX, h x (by simp [Op.operands])]
  | pick c a b => simp only [opE_eq, opX, h c (by simp [Op.operands]), h a (by simp [Op.operands]), h b (by simp [Op.operands])]
  | alloc t => rfl
  | box t x => simp only [opE_eq, opX, h x (by simp [Op.operands])]
  | buildSlice t len ps =>
    simp only [opE_eq, opX]
    have e : fillE T len ps.toList = fillE T' len ps.toList := funext fun c => fillE_congr len ps.toList c fun x hx => h x (by simpa [Op.operands] using hx)
    rw [e]
  | load t a => simp only [opE_eq, opX, h a (by simp [Op.operands])]
  | store t a x => simp only [opE_eq, opX, h a (by simp [Op.operands]), h x (by simp [Op.operands])]
  | binOp o t x y yt => simp only [opE_eq, opX, h x (by simp [Op.operands]), h y (by simp [Op.operands])]
  | unOp o t x => simp only [opE_eq, opX, h x (by simp [Op.operands])]
  | makeFunc t first cap =>
    cases t with
    | func f =>
      have e := evs_congr (T := T) (T' := T') cap.toList fun x hx => h x (by simp [Op.operands]; right; simpa using hx)
      simp only [opE_eq, opX]
      rw [e]
    | _ => rfl
  | makeSlice t l c => simp only [opE_eq, opX, h l (by simp [Op.operands]), h c (by simp [Op.operands])]
  | slice t x lo hi mx =>
    simp only [opE_eq, opX, h x (by simp [Op.operands]), sliceE]
    simp only [optI_congr (x := lo) (T := T) (T' := T') fun y hy => h y (by simp [Op.operands, hy]),
      optI_congr (x := hi) (T := T) (T' := T') fun y hy => h y (by simp [Op.operands, hy]),
      optI_congr (x := mx) (T := T) (T' := T') fun y hy => h y (by simp [Op.operands, hy])]
  | indexAddr t x i => simp only [opE_eq, opX, h x (by simp [Op.operands]), h i (by simp [Op.operands])]
  | extract x i => simp only [opE_eq, opX, h x (by simp [Op.operands])]
  | convert s t x => simp only [opE_eq, opX, h x (by simp [Op.operands])]
  | call c =>
    simp only [opE_eq, opX, callE]
    rw [evs_congr c.args.toList fun x hx => h x (by simp [Op.operands, Call.operands]; right; simpa using hx)]
    cases hc : c.callee with
    | value f => simp only; rw [h f (by simp [Op.operands, Call.operands, hc])]
    | builtin b => rfl
    | invoke r m => rfl
  | _ => rfl

theorem ev_of_tmps {l : List Operand} (h : ∀ d ∈ tmpsOf l, getW T d = getW T' d) : ∀ x ∈ l, ev T x = ev T' x := by
  intro x hx
  cases x with
  | tmp t => exact h t (mem_tmpsOf l t hx)
  | const v => rfl
  | func f => rfl
  | global g => rfl

theorem optI_same {x : Option Operand} {d : Nat} {k : Nat → OR} (h : optI x T d k = .ok v H' n') (hk : ∀ m, k m = .ok v H' n' → H' = H ∧ n' = n) : H' = H ∧ n' = n := by
  cases x with
  | none => exact hk d h
  | some y =>
    have h' : isI (ev T y) k = .ok v H' n' := h
    unfold isI at h'
    rw [sel_eq] at h'
    split at h'
    · exact hk _ h'
    · cases h'
theorem sel_ok {b : Bool} {r : OR} {q : Nat} (h : sel b r (.bad q) = .ok v H' n') : r = .ok v H' n' := by
  cases b with
  | true => exact h
  | false => cases h
theorem sel_ok' {b : Bool} {r : OR} {q : Nat} (h : sel b (.bad q) r = .ok v H' n') : r = .ok v H' n' := by
  cases b with
  | false => exact h
  | true => cases h
theorem ok_same (h : OR.ok (v) H n = .ok T H' n') : H' = H ∧ n' = n := by injection h with a b c; exact ⟨b.symm, c.symm⟩
theorem okv_same {x : Nat} (h : okv x H n = .ok v H' n') : H' = H ∧ n' = n := let ⟨_, _, a, b⟩ := okv_inv h; ⟨a, b⟩

theorem quiet_same {op : Op} (hq : quietOp op = true) (h : opE P call T H n op = .ok v H' n') : H' = H ∧ n' = n := by
  cases op with
  | move x => exact okv_same h
  | convert s t x =>
    simp only [opE_eq, opX] at h
    exact ok_same (sel_ok (sel_ok (sel_ok h)))
  | pick c a b =>
    simp only [opE_eq, opX] at h
    rw [sel_eq] at h
    split at h
    · exact okv_same h
    · exact okv_same (sel_ok h)
  | load t a =>
    simp only [opE_eq, opX] at h
    exact okv_same (sel_ok' (sel_ok (sel_ok h)))
  | binOp o t x y yt => exact okv_same h
  | unOp o t x => exact okv_same h
  | slice t x lo hi mx =>
    simp only [opE_eq, opX, sliceE] at h
    have h1 := sel_ok h
    obtain ⟨e, _, _, h2⟩ := telem_inv h1 rfl (by simp)
    refine optI_same h2 fun m h3 => optI_same h3 fun m2 h4 => optI_same h4 fun m3 h5 => ?_
    have h6 := sel_ok (sel_ok (sel_ok h5))
    rw [sel_eq] at h6
    split at h6
    · exact ok_same h6
    · exact ok_same (sel_ok h6)
  | indexAddr t x i =>
    simp only [opE_eq, opX] at h
    obtain ⟨e, _, _, h2⟩ := telem_inv (sel_ok h) rfl (by simp)
    unfold isI at h2
    exact ok_same (sel_ok (sel_ok' (sel_ok (sel_ok h2))))
  | extract x i =>
    simp only [opE_eq, opX] at h
    have h1 := sel_ok h
    split at h1
    · exact okv_same (sel_ok h1)
    · cases h1
  | call c =>
    simp only [opE_eq, opX, callE] at h
    have h1 := sel_ok h
    cases hc : c.callee with
    | value f => simp [quietOp, hc] at hq
    | invoke r m => simp [quietOp, hc] at hq
    | builtin b =>
      rw [hc] at h1
      simp only at h1
      cases b <;> simp [quietOp, hc] at hq
      all_goals (unfold builtinE at h1; split at h1 <;> first | exact okv_same h1 | cases h1 | simp_all)
  | _ => cases hq
end
end Go.Eng
