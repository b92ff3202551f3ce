/- Regions that draw their order: operations look at their operands alone. -/
import Derived.Test.YthcdiaahpodkoabEngNa
namespace Go.Eng
set_option linter.unusedSectionVars false
set_option linter.unusedSimpArgs false
set_option linter.unusedVariables false
open Go Go.RowKit
variable [E : Env]

section
variable {base : Nat} {H H' : Trie} {n n' nt T T' v : Nat} {ρ : Rho} {L : Look} {w : World} {P : Program} {tmps : Array Value} {ops : Array Oper} {call : Nat → List Nat → Trie → Nat → OR}

theorem evs_congr : ∀ (l : List Operand), (∀ x ∈ l, ev T x = ev T' x) → evs T l = evs T' l
  | [], _ => rfl
  | x :: l, h => by
    have e : ∀ T, evs T (x :: l) = ev T x :: evs T l := fun _ => rfl
    rw [e, e, h x List.mem_cons_self, evs_congr l fun y hy => h y (List.mem_cons_of_mem _ hy)]
theorem fillE_congr (len : Nat) : ∀ (ps : List (Nat × Operand)) (c : Nat), (∀ x ∈ ps.map (·.2), ev T x = ev T' x) → fillE T len ps c = fillE T' len ps c
  | [], _, _ => rfl
  | p :: l, c, h => by
    have e : ∀ T c, fillE T len (p :: l) c = sel (ltb p.1 len) (sel (storable (ev T p.2)) (fillE T len l (setW c p.1 (ev T p.2))) .none) .none := fun _ _ => rfl
    rw [e, e, h p.2 (by simp), fillE_congr len l _ fun y hy => h y (by simp at hy ⊢; exact .inr hy)]
theorem optI_congr {x : Option Operand} {d : Nat} {k : Nat → OR} (h : ∀ y, x = some y → ev T y = ev T' y) : optI x T d k = optI x T' d k := by
  cases x with
  | none => rfl
  | some y => show isI (ev T y) k = isI (ev T' y) k; rw [h y rfl]

theorem fillS_congr {fs : Array Field} {tot : Nat} : ∀ (ps : List (Nat × Operand)) (c : Nat), (∀ x ∈ ps.map (·.2), ev T x = ev T' x) → fillS P H T fs tot ps c = fillS P H T' fs tot ps c
  | [], _, _ => rfl
  | p :: l, c, h => by
    have e : ∀ T c, fillS P H T fs tot (p :: l) c = match fs[p.1]? with
      | some f => (match cellsN H (ev T p.2) (tsz P f.type) with
        | .some d => sel (Nat.ble (Nat.add f.offset (tsz P f.type)) tot) (fillS P H T fs tot l (splice c f.offset (tsz P f.type) tot d)) .none
        | .none => .none)
      | none => .none := fun _ _ => rfl
    rw [e, e, h p.2 (by simp)]
    cases fs[p.1]? with
    | none => rfl
    | some f =>
      simp only
      cases cellsN H (ev T' p.2) (tsz P f.type) with
      | none => rfl
      | some d => simp only; rw [fillS_congr l _ fun y hy => h y (by simp at hy ⊢; exact .inr hy)]
theorem fillR_congr {sz tot : Nat} : ∀ (ps : List (Nat × Operand)) (c : Nat), (∀ x ∈ ps.map (·.2), ev T x = ev T' x) → fillR H T sz tot ps c = fillR H T' sz tot ps c
  | [], _, _ => rfl
  | p :: l, c, h => by
    have e : ∀ T c, fillR H T sz tot (p :: l) c = match cellsN H (ev T p.2) sz with
      | .some d => sel (Nat.ble (Nat.add (Nat.mul p.1 sz) sz) tot) (fillR H T sz tot l (splice c (Nat.mul p.1 sz) sz tot d)) .none
      | .none => .none := fun _ _ => rfl
    rw [e, e, h p.2 (by simp)]
    cases cellsN H (ev T' p.2) sz with
    | none => rfl
    | some d => simp only; rw [fillR_congr l _ fun y hy => h y (by simp at hy ⊢; exact .inr hy)]
theorem opE_congr {op : Op} (h : ∀ x ∈ op.operands, ev T x = ev T' x) : opE P call T H n op = opE P call T' H n op := by
  cases op with
  | move x => simp only [opE_eq, opX, h x (by simp [Op.operands])]
  | assign x => simp only [opE_eq, opX, h x (by simp [Op.operands])]
  | pick c a b => simp only [opE_eq, opX, h c (by simp [Op.operands]), h a (by simp [Op.operands]), h b (by simp [Op.operands])]
  | alloc t => rfl
  | box t x => simp only [opE_eq, opX, h x (by simp [Op.operands])]
  | buildSlice t len ps =>
    simp only [opE_eq, opX]
    have e : fillE T len ps.toList = fillE T' len ps.toList := funext fun c => fillE_congr len ps.toList c fun x hx => h x (by simpa [Op.operands] using hx)
    have e2 : ∀ sz tot, fillR H T sz tot ps.toList = fillR H T' sz tot ps.toList := fun sz tot => funext fun c => fillR_congr ps.toList c fun x hx => h x (by simpa [Op.operands] using hx)
    rw [e]
    simp only [buildSliceA, e2]
  | build t ps =>
    simp only [opE_eq, opX, buildA]
    have e1 : ∀ fs tot, fillS P H T fs tot ps.toList = fillS P H T' fs tot ps.toList := fun fs tot => funext fun c => fillS_congr ps.toList c fun x hx => h x (by simpa [Op.operands] using hx)
    have e2 : ∀ sz tot, fillR H T sz tot ps.toList = fillR H T' sz tot ps.toList := fun sz tot => funext fun c => fillR_congr ps.toList c fun x hx => h x (by simpa [Op.operands] using hx)
    simp only [e1, e2]
  | field t x i => simp only [opE_eq, opX, h x (by simp [Op.operands])]
  | fieldAddr t x i => simp only [opE_eq, opX, h x (by simp [Op.operands])]
  | index t x i => simp only [opE_eq, opX, h x (by simp [Op.operands]), h i (by simp [Op.operands])]
  | lookup t x i ok => simp only [opE_eq, opX, h x (by simp [Op.operands]), h i (by simp [Op.operands])]
  | mapUpdate t x i y => simp only [opE_eq, opX, h x (by simp [Op.operands]), h i (by simp [Op.operands]), h y (by simp [Op.operands])]
  | makeMap t r =>
    simp only [opE_eq, opX]
    exact optI_congr fun y hy => h y (by simp [Op.operands, hy])
  | load t a => simp only [opE_eq, opX, h a (by simp [Op.operands])]
  | store t a x => simp only [opE_eq, opX, h a (by simp [Op.operands]), h x (by simp [Op.operands])]
  | binOp o t x y yt => simp only [opE_eq, opX, h x (by simp [Op.operands]), h y (by simp [Op.operands])]
  | unOp o t x => simp only [opE_eq, opX, h x (by simp [Op.operands])]
  | makeFunc t first cap =>
    cases t with
    | func f =>
      have e := evs_congr (T := T) (T' := T') cap.toList fun x hx => h x (by simp [Op.operands]; right; simpa using hx)
      simp only [opE_eq, opX]
      rw [e]
    | _ => rfl
  | makeSlice t l c => simp only [opE_eq, opX, h l (by simp [Op.operands]), h c (by simp [Op.operands])]
  | slice t x lo hi mx =>
    simp only [opE_eq, opX, h x (by simp [Op.operands]), sliceE, sliceArr]
    simp only [optI_congr (x := lo) (T := T) (T' := T') fun y hy => h y (by simp [Op.operands, hy]),
      optI_congr (x := hi) (T := T) (T' := T') fun y hy => h y (by simp [Op.operands, hy]),
      optI_congr (x := mx) (T := T) (T' := T') fun y hy => h y (by simp [Op.operands, hy])]
  | indexAddr t x i => simp only [opE_eq, opX, h x (by simp [Op.operands]), h i (by simp [Op.operands])]
  | extract x i => simp only [opE_eq, opX, h x (by simp [Op.operands])]
  | convert s t x => simp only [opE_eq, opX, h x (by simp [Op.operands])]
  | call c =>
    simp only [opE_eq, opX, callE]
    rw [evs_congr c.args.toList fun x hx => h x (by simp [Op.operands, Call.operands]; right; simpa using hx)]
    cases hc : c.callee with
    | value f => simp only; rw [h f (by simp [Op.operands, Call.operands, hc])]
    | builtin b => rfl
    | invoke r m => rfl
  | _ => rfl

theorem ev_of_tmps {l : List Operand} (h : ∀ d ∈ tmpsOf l, getW T d = getW T' d) : ∀ x ∈ l, ev T x = ev T' x := by
  intro x hx
  cases x with
  | tmp t => exact h t (mem_tmpsOf l t hx)
  | const v => rfl
  | func f => rfl
  | global g => rfl

theorem optI_same {x : Option Operand} {d : Nat} {k : Nat → OR} (h : optI x T d k = .ok v H' n') (hk : ∀ m, k m = .ok v H' n' → H' = H ∧ n' = n) : H' = H ∧ n' = n := by
  cases x with
  | none => exact hk d h
  | some y =>
    have h' : isI (ev T y) k = .ok v H' n' := h
    unfold isI at h'
    rw [sel_eq] at h'
    split at h'
    · exact hk _ h'
    · cases h'
theorem sel_ok {b : Bool} {r : OR} {q : Nat} (h : sel b r (.bad q) = .ok v H' n') : r = .ok v H' n' := by
  cases b with
  | true => exact h
  | false => cases h
theorem sel_ok' {b : Bool} {r : OR} {q : Nat} (h : sel b (.bad q) r = .ok v H' n') : r = .ok v H' n' := by
  cases b with
  | false => exact h
  | true => cases h
theorem ok_same (h : OR.ok (v) H n = .ok T H' n') : H' = H ∧ n' = n := by injection h with a b c; exact ⟨b.symm, c.symm⟩
theorem okv_same {x : Nat} (h : okv x H n = .ok v H' n') : H' = H ∧ n' = n := let ⟨_, _, a, b⟩ := okv_inv h; ⟨a, b⟩

/-- The heap is left alone, or has a new box. -/
def QB (H : Trie) (n : Nat) (H' : Trie) (n' : Nat) : Prop := (H' = H ∧ n' = n) ∨ ∃ k, IsBox k ∧ H' = hset H n k ∧ n' = n + 1 ∧ n < 16384
theorem qb_newBox {kd len c x : Nat} (h : newBox H n kd len c x = .ok v H' n') : QB H n H' n' := by
  obtain ⟨h1, _, h2, h3⟩ := newBox_inv h
  exact .inr ⟨.box kd len c, trivial, h2, h3, h1⟩
theorem qb_poly {op : BinOp} {x y : Nat} (h : polyBin op x y H n = .ok v H' n') : QB H n H' n' := by
  rcases polyBin_heap h with h | ⟨p, q, s, d, lo, hi, h1, h2, h3⟩
  · exact .inl h
  · exact .inr ⟨.poly p q s d lo hi, trivial, h1, h2, h3⟩
theorem qb_okv {x : Nat} (h : okv x H n = .ok v H' n') : QB H n H' n' := .inl (okv_same h)
theorem qb_part {t : TypeId} {m c off : Nat} (h : partE P t m c off H n = .ok v H' n') : QB H n H' n' := by
  unfold partE at h
  rw [sel_eq] at h
  split at h
  · exact qb_okv (sel_ok h)
  · exact qb_newBox (sel_ok (sel_ok h))
theorem qb_ptrAt {x d : Nat} (h : ptrAt x d H n = .ok v H' n') : QB H n H' n' := by
  unfold ptrAt at h
  exact .inl (ok_same (sel_ok (sel_ok' (sel_ok h))))
theorem qb_optI {x : Option Operand} {d : Nat} {k : Nat → OR} (h : optI x T d k = .ok v H' n') (hk : ∀ m, k m = .ok v H' n' → QB H n H' n') : QB H n H' n' := by
  cases x with
  | none => exact hk d h
  | some y =>
    have h' : isI (ev T y) k = .ok v H' n' := h
    unfold isI at h'
    rw [sel_eq] at h'
    split at h'
    · exact hk _ h'
    · cases h'

theorem quiet_box {op : Op} (hq : quietOp op = true) (h : opE P call T H n op = .ok v H' n') : QB H n H' n' := by
  cases op with
  | move x => exact qb_okv h
  | convert s t x =>
    simp only [opE_eq, opX] at h
    rw [sel_eq] at h
    split at h
    · exact .inl (ok_same (sel_ok (sel_ok h)))
    · have h := sel_ok (sel_ok h)
      rw [sel_eq] at h
      split at h
      · exact .inl (ok_same h)
      · exact .inl (ok_same (sel_ok h))
  | pick c a b =>
    simp only [opE_eq, opX] at h
    rw [sel_eq] at h
    split at h
    · exact qb_okv h
    · exact qb_okv (sel_ok h)
  | load t a =>
    simp only [opE_eq, opX] at h
    rw [sel_eq] at h
    split at h
    · exact qb_okv (sel_ok' (sel_ok h))
    · unfold loadA at h
      obtain ⟨_, _, h⟩ := calm_boxN (sel_ok' (sel_ok (sel_ok h)))
      exact qb_newBox h
  | binOp o t x y yt =>
    simp only [opE_eq, opX] at h
    rw [sel_eq] at h
    split at h
    · exact qb_okv h
    rw [sel_eq] at h
    split at h
    · unfold eqA at h
      have h := sel_ok (sel_ok h)
      split at h
      · have h := sel_ok h
        split at h
        · exact .inl (ok_same h)
        · exact .inl (ok_same h)
        · cases h
      · cases h
    · rw [sel_eq] at h
      split at h
      · exact qb_okv h
      · rw [sel_eq] at h
        split at h
        · exact qb_poly h
        · rw [sel_eq] at h
          split at h
          · exact qb_okv h
          · exact qb_okv h
  | unOp o t x => exact qb_okv h
  | slice t x lo hi mx =>
    simp only [opE_eq, opX] at h
    rw [sel_eq] at h
    split at h
    · unfold sliceArr at h
      split at h
      · have h := sel_ok' (sel_ok (sel_ok h))
        split at h
        · exact qb_optI (sel_ok h) fun m h => qb_optI h fun m2 h => qb_optI h fun m3 h => .inl (ok_same (sel_ok h))
        · cases h
      · cases h
    · simp only [sliceE] at h
      have h1 := sel_ok h
      obtain ⟨e, _, _, h2⟩ := telem_inv h1 rfl (by simp)
      refine qb_optI h2 fun m h3 => qb_optI h3 fun m2 h4 => qb_optI h4 fun m3 h5 => .inl ?_
      have h6 := sel_ok (sel_ok (sel_ok h5))
      rw [sel_eq] at h6
      split at h6
      · exact ok_same h6
      · exact ok_same (sel_ok h6)
  | indexAddr t x i =>
    simp only [opE_eq, opX] at h
    rw [sel_eq] at h
    split at h
    · obtain ⟨e, _, _, h2⟩ := telem_inv h rfl (by simp)
      unfold isI at h2
      exact .inl (ok_same (sel_ok (sel_ok' (sel_ok (sel_ok h2)))))
    · unfold indexAddrA at h
      split at h
      · exact qb_ptrAt (sel_ok (sel_ok (sel_ok h)))
      · cases h
  | extract x i =>
    simp only [opE_eq, opX] at h
    have h1 := sel_ok h
    split at h1
    · exact qb_okv (sel_ok h1)
    · cases h1
  | build t ps =>
    simp only [opE_eq, opX, buildA] at h
    obtain ⟨i, z, c, _, _, h, _⟩ := zcells_inv h (by simp)
    split at h
    · obtain ⟨_, _, h⟩ := calm_boxN (sel_ok h)
      exact qb_newBox h
    · obtain ⟨_, _, h⟩ := calm_boxN (sel_ok h)
      exact qb_newBox h
    · cases h
  | field t x i =>
    simp only [opE_eq, opX, fieldA] at h
    have h := sel_ok h
    split at h
    · split at h
      · split at h
        · exact qb_part h
        · cases h
      · cases h
    · cases h
  | index t x i =>
    simp only [opE_eq, opX, indexA] at h
    have h := sel_ok h
    split at h
    · split at h
      · exact qb_part (sel_ok (sel_ok (sel_ok h)))
      · cases h
    · cases h
  | fieldAddr t x i =>
    simp only [opE_eq, opX, fieldAddrA] at h
    split at h
    · split at h
      · exact qb_ptrAt (sel_ok' (sel_ok h))
      · cases h
    · cases h
  | lookup t x i ok =>
    simp only [opE_eq, opX, lookupE] at h
    obtain ⟨kt, et, h⟩ := tmap_ok h
    have fin : ∀ {q : Nat} {b : Bool}, lookFin q b ok H n = .ok v H' n' → QB H n H' n' := fun h => by
      unfold lookFin at h
      cases ok with
      | true => exact qb_newBox h
      | false => exact qb_okv h
    have zero : lookZero P et ok H n = .ok v H' n' → QB H n H' n' := fun h => by
      unfold lookZero at h
      exact fin (sel_ok h)
    unfold keyE at h
    have h := sel_ok h
    split at h
    · have h := sel_ok (sel_ok h)
      dsimp only at h
      rw [sel_eq] at h
      split at h
      · exact zero h
      · have h := sel_ok h
        split at h
        · have h := sel_ok h
          split at h
          · exact fin h
          · exact zero h
        · cases h
    · cases h
  | makeFunc fn first cap =>
    cases fn with
    | func f =>
      simp only [opE_eq, opX] at h
      have h := sel_ok h
      rw [sel_eq] at h
      split at h
      · exact .inl (ok_same h)
      · exact qb_newBox (sel_ok (sel_ok h))
    | _ => cases h
  | call c =>
    simp only [opE_eq, opX, callE] at h
    have h1 := sel_ok h
    cases hc : c.callee with
    | value f => simp [quietOp, hc] at hq
    | invoke r m => simp [quietOp, hc] at hq
    | builtin b =>
      rw [hc] at h1
      simp only at h1
      cases b <;> simp [quietOp, hc] at hq
      all_goals (unfold builtinE at h1; split at h1 <;> first | exact qb_okv h1 | cases h1 | simp_all)
  | _ => cases hq

/-- What such an operation does, wherever its box lies. -/
theorem calm_call {o : Oper} {cfr : Frame} {ccs : List Frame} (c : Ctx base H n ρ L w) (ht : TR ρ L nt T tmps) {q : Call} (ho : o.op = .call q) (hq : quietOp o.op = true) (h : opE P call T H n o.op = .ok v H' n') :
    CalmD ρ L H n w v H' n' (OpDone P tmps o w cfr ccs) := by
  rw [ho] at h hq
  simp only [opE_eq, opX, callE] at h
  rw [sel_eq] at h
  split at h
  · rename_i hnb
    have ha := evs_sound ht q.args.toList hnb
    have hargs : (q.args.map (evT tmps)) = (q.args.toList.map (evT tmps)).toArray := by apply Array.ext'; simp
    have ets : q.argTypes.toList.toArray = q.argTypes := by simp
    have done : ∀ (b : Builtin) (x : Value), q.callee = .builtin b → (builtin b q.argTypes o.type (q.args.map fun | .const _ => true | _ => false) (q.args.toList.map (evT tmps)).toArray).run P w = .ok (.value x) w → OpDone P tmps o w cfr ccs x w := by
      intro b x hcal hx
      refine .value ?_
      rw [← hargs] at hx
      simp only [execOp, ho, resolve, hcal, invoke]
      exact hx
    cases hcal : q.callee with
    | value f => simp [quietOp, hcal] at hq
    | invoke r m => simp [quietOp, hcal] at hq
    | builtin b =>
      rw [hcal] at h
      simp only at h
      generalize hvs : q.args.toList.map (evT tmps) = vs at *
      generalize hws : evs T q.args.toList = args at *
      unfold builtinE at h
      split at h
      · rename_i x
        obtain ⟨h1, rfl, rfl, rfl⟩ := okv_inv h
        cases ha with
        | cons _ vx _ _ hx ha' =>
          cases ha'
          obtain ⟨r, hr1, hr2⟩ := lenE_sound (w := w) (ty := o.type) hx h1
          rw [ets] at hr2
          exact .pure c hr1 (done _ _ hcal (by simp [builtin, hr2]))
      · rename_i x
        obtain ⟨h1, rfl, rfl, rfl⟩ := okv_inv h
        cases ha with
        | cons _ vx _ _ hx ha' =>
          cases ha'
          obtain ⟨r, hr1, hr2⟩ := capE_sound (w := w) (ty := o.type) hx h1
          rw [ets] at hr2
          exact .pure c hr1 (done _ _ hcal (by simp [builtin, hr2]))
      · simp [quietOp, hcal] at hq
      · obtain ⟨h1, rfl, rfl, rfl⟩ := okv_inv h
        obtain ⟨a, b, rfl, rfl, ha1, hb1, e⟩ := minE_sound ha h1
        rw [e, iLt_iff b a hb1 ha1]
        by_cases hlt : sInt b < sInt a
        · refine .pure (x := .int .i64 (sInt b)) c ?_ (done _ _ hcal (by simp [builtin, Builtin.min_, Builtin.min2, hlt]))
          simp only [hlt, decide_true]; exact .int b hb1
        · refine .pure (x := .int .i64 (sInt a)) c ?_ (done _ _ hcal (by simp [builtin, Builtin.min_, Builtin.min2, hlt]))
          simp only [hlt, decide_false]; exact .int a ha1
      · obtain ⟨h1, rfl, rfl, rfl⟩ := okv_inv h
        obtain ⟨a, b, rfl, rfl, ha1, hb1, e⟩ := minE_sound ha h1
        rw [e, iLt_iff a b ha1 hb1]
        by_cases hlt : sInt a < sInt b
        · refine .pure (x := .int .i64 (sInt b)) c ?_ (done _ _ hcal (by simp [builtin, Builtin.max_, Builtin.max2, hlt]))
          simp only [hlt, decide_true]; exact .int b hb1
        · refine .pure (x := .int .i64 (sInt a)) c ?_ (done _ _ hcal (by simp [builtin, Builtin.max_, Builtin.max2, hlt]))
          simp only [hlt, decide_false]; exact .int a ha1
      · simp [quietOp, hcal] at hq
      · simp [quietOp, hcal] at hq
      · cases h
  · cases h

theorem calm_sound {o : Oper} {cfr : Frame} {ccs : List Frame} (c : Ctx base H n ρ L w) (ht : TR ρ L nt T tmps) (hq : quietOp o.op = true) (h : opE P call T H n o.op = .ok v H' n') :
    CalmD ρ L H n w v H' n' (OpDone P tmps o w cfr ccs) := by
  cases hop : o.op with
  | move x => rw [hop] at h; exact op_move c ht (.inl hop) h
  | pick q a b => exact op_pick c ht hop h
  | load t a => exact op_load c ht hop h
  | binOp op t x y yt => exact op_bin c ht hop h
  | unOp op t x => exact op_un c ht hop h
  | makeFunc fn first cap =>
    cases fn with
    | func f => exact op_makeFunc c ht hop h
    | _ => rw [hop] at h; cases h
  | slice t x lo hi mx => exact op_slice c ht hop h
  | indexAddr t x i => exact op_indexAddr c ht hop h
  | extract x i => exact op_extract c ht hop h
  | call q => exact calm_call c ht hop hq h
  | convert s t x => exact op_convert c ht hop h
  | build t ps => exact op_build c ht hop h
  | field t x i => exact op_field c ht hop h
  | index t x i => exact op_index c ht hop h
  | fieldAddr t x i => exact op_fieldAddr c ht hop h
  | lookup t x i ok => exact op_lookup c ht hop h
  | _ => rw [hop] at hq; cases hq
end
end Go.Eng
