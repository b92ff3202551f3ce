/- The operations, one by one. -/
import Derived.Test.YthcdiaahpodkoabEngGc
namespace Go.Eng
set_option linter.unusedSectionVars false
set_option linter.unusedSimpArgs false
set_option linter.unusedVariables false
open Go Go.RowKit
variable [E : Env]

inductive AR (ρ : Rho) (L : Look) : List Nat → List Value → Prop
  | nil : AR ρ L [] []
  | cons (x : Nat) (v : Value) (xs : List Nat) (vs : List Value) : VR ρ L x v → AR ρ L xs vs → AR ρ L (x :: xs) (v :: vs)

theorem AR.mono {ρ ρ' : Rho} {L L' : Look} (e : Ext ρ L ρ' L') {xs : List Nat} {vs : List Value} (h : AR ρ L xs vs) : AR ρ' L' xs vs := by
  induction h with
  | nil => exact .nil
  | cons x v xs vs h _ ih => exact .cons _ _ _ _ (h.mono e) ih
theorem AR.length {ρ : Rho} {L : Look} {xs : List Nat} {vs : List Value} (h : AR ρ L xs vs) : vs.length = xs.length := by
  induction h with
  | nil => rfl
  | cons _ _ _ _ _ _ ih => simp [ih]

theorem noBad_cons {x : Nat} {xs : List Nat} (h : noBad (x :: xs) = true) : tagOf x ≠ 15 ∧ noBad xs = true := by
  have e : noBad (x :: xs) = sel (Nat.beq (tagOf x) 15) false (noBad xs) := rfl
  rw [e, sel_beq] at h
  split at h
  · cases h
  · exact ⟨by assumption, h⟩
theorem evs_sound {ρ : Rho} {L : Look} {nt T : Nat} {tmps : Array Value} (h : TR ρ L nt T tmps) : ∀ (l : List Operand), noBad (evs T l) = true → AR ρ L (evs T l) (l.map (evT tmps))
  | [], _ => .nil
  | o :: l, hb => by
    have e : evs T (o :: l) = ev T o :: evs T l := rfl
    rw [e] at hb ⊢
    obtain ⟨h1, h2⟩ := noBad_cons hb
    exact .cons _ _ _ _ (ev_sound h o h1) (evs_sound h l h2)

/-- Calls of function words. -/
def CallS (P : Program) (call : Nat → List Nat → Trie → Nat → OR) : Prop :=
  ∀ (base : Nat) (H : Trie) (n : Nat) (ρ : Rho) (L : Look) (w : World) (fw : Nat) (args : List Nat) (fv : Value) (vs : Array Value) (v : Nat) (H' : Trie) (n' : Nat) (cfr : Frame) (ccs : List Frame),
    Ctx base H n ρ L w → VR ρ L fw fv → AR ρ L args vs.toList → call fw args H n = .ok v H' n' →
    After base H n ρ L w v H' n' (fun x w' => Does P (do let d ← Deferred.ofValue fv vs; invoke d.target d.args) w x w' cfr ccs)

theorem AR.get {ρ : Rho} {L : Look} {xs : List Nat} {vs : List Value} (h : AR ρ L xs vs) : ∀ i (hi : i < vs.length), VR ρ L (xs.getD i 0) vs[i] := by
  induction h with
  | nil => intro i hi; exact absurd hi (by simp)
  | cons x v xs vs hv _ ih =>
    intro i hi
    cases i with
    | zero => exact hv
    | succ i => simpa using ih i (by simpa using hi)

section
variable {base : Nat} {H H' : Trie} {n n' nt T v : Nat} {ρ : Rho} {L : Look} {w : World} {P : Program} {tmps : Array Value} {o : Oper} {call : Nat → List Nat → Trie → Nat → OR} {cfr : Frame} {ccs : List Frame}

abbrev OpDone (P : Program) (tmps : Array Value) (o : Oper) (w : World) (cfr : Frame) (ccs : List Frame) : Value → World → Prop := fun x w' => Does P (execOp (evT tmps) o) w x w' cfr ccs

theorem op_move (c : Ctx base H n ρ L w) (ht : TR ρ L nt T tmps) {x : Operand} (ho : o.op = .move x ∨ o.op = .assign x) (h : okv (ev T x) H n = .ok v H' n') :
    CalmD ρ L H n w v H' n' (OpDone P tmps o w cfr ccs) := by
  obtain ⟨h1, rfl, rfl, rfl⟩ := okv_inv h
  refine .pure c (ev_sound ht x h1) (.value ?_)
  rcases ho with ho | ho <;> simp [execOp, ho]

theorem run_newVar {t : TypeId} {x : Value} (hx : x.cells = #[x]) : (newVar t x).run P w = .ok ⟨w.heap.size, 0, none⟩ { w with heap := w.heap.push (.cells #[x] t) } := by
  simp [newVar, newRow, hx]

theorem one_cell_row {v : Nat} {x : Value} (hv : VR ρ L v x) (hs : storable v = true) : ∀ i, i < 1 → ∃ u, (#[x] : Array Value)[i]? = some u ∧ VR ρ L (getW v i) u ∧ storable (getW v i) = true := by
  intro i hi
  obtain rfl : i = 0 := by omega
  have hlt := ((storable_iff _).1 hs).2.2.2
  have e : getW v 0 = v := by rw [getW_eq]; simpa using hlt
  rw [e]
  exact ⟨x, rfl, hv, hs⟩

theorem op_box (c : Ctx base H n ρ L w) (ht : TR ρ L nt T tmps) {x : Operand} {t : TypeId} (ho : o.op = .box t x) (h : opE P call T H n o.op = .ok v H' n') :
    After base H n ρ L w v H' n' (OpDone P tmps o w cfr ccs) := by
  rw [ho] at h
  simp only [opE_eq, opX] at h
  rw [sel_eq] at h
  split at h
  · rename_i hs
    obtain ⟨hn, hk, hmk⟩ := fresh_sound c h (by simp)
    injection hk with h1 h2 h3
    subst h1; subst h2; subst h3
    have hx := ev_sound ht x ((storable_iff _).1 hs).2.2.1
    obtain ⟨hc1, hc2⟩ := hx.cell hs
    obtain ⟨c', e, hb, hl⟩ := hmk { w with heap := w.heap.push (.cells #[evT tmps x] t) } #[evT tmps x] t rfl rfl rfl rfl (by simp) (one_cell_row hx hs)
    refine ⟨_, _, _, _, c', e, hb, hl, Nat.le_succ _, vr_ptr_new (updR_same _ _ _), .value ?_⟩
    simp [execOp, ho, Instr.box, run_newVar hc1]
  · rename_i hs
    by_cases hnb : tagOf (ev T x) = 6
    · refine ((makes_boxA (P := P) (t := t) c (ev_sound ht x (by omega)) h).after c).mono fun y w' hy => .value ?_
      simp [execOp, ho, hy]
    · unfold boxA at h
      rw [sel_beq, if_neg hnb] at h
      cases h

theorem op_alloc (c : Ctx base H n ρ L w) {t : TypeId} (ho : o.op = .alloc t) (h : opE P call T H n o.op = .ok v H' n') :
    After base H n ρ L w v H' n' (OpDone P tmps o w cfr ccs) := by
  rw [ho] at h
  simp only [opE_eq, opX] at h
  rw [sel_eq, sel_eq] at h
  split at h
  · rename_i hp
    split at h
    · rename_i hs
      obtain ⟨hn, hk, hmk⟩ := fresh_sound c h (by simp)
      injection hk with h1 h2 h3
      subst h1; subst h2; subst h3
      obtain ⟨i, z, hi, hz, hx⟩ := tzero_sound ρ L hs
      obtain ⟨hc1, hc2⟩ := hx.cell hs
      obtain ⟨c', e, hb, hl⟩ := hmk { w with heap := w.heap.push (.cells #[z] t) } #[z] t rfl rfl rfl rfl (by simp) (one_cell_row hx hs)
      refine ⟨_, _, _, _, c', e, hb, hl, Nat.le_succ _, vr_ptr_new (updR_same _ _ _), .value ?_⟩
      have hzv : (zeroValue t).run P w = .ok z w := by simp [zeroValue, typeInfo, hi, hz]
      simp [execOp, ho, Instr.alloc, hzv, run_newVar hc1]
    · cases h
  · refine ((makes_allocA (ρ := ρ) (L := L) h).after c).mono fun y w' hy => .value ?_
    simp [execOp, ho, hy]

theorem op_pick (c : Ctx base H n ρ L w) (ht : TR ρ L nt T tmps) {q a b : Operand} (ho : o.op = .pick q a b) (h : opE P call T H n o.op = .ok v H' n') :
    CalmD ρ L H n w v H' n' (OpDone P tmps o w cfr ccs) := by
  rw [ho] at h
  simp only [opE_eq, opX] at h
  rw [sel_beq, sel_beq] at h
  split at h
  · rename_i hq
    obtain ⟨h1, rfl, rfl, rfl⟩ := okv_inv h
    have hv := ev_sound ht q (by rw [hq]; decide)
    rw [hq] at hv
    have := hv.true_inv
    exact .pure c (ev_sound ht a h1) (.value (by simp [execOp, ho, asBool, this]))
  · split at h
    · rename_i hq
      obtain ⟨h1, rfl, rfl, rfl⟩ := okv_inv h
      have hv := ev_sound ht q (by rw [hq]; decide)
      rw [hq] at hv
      have := hv.false_inv
      exact .pure c (ev_sound ht b h1) (.value (by simp [execOp, ho, asBool, this]))
    · cases h

theorem run_eqGuard_int (op : BinOp) (t : TypeId) (x y : Operand) (k : IntKind) (a b : Int) : (eqGuard op t x y (.int k a) (.int k b)).run P w = .ok () w := by
  unfold eqGuard; cases op <;> simp
theorem run_eqGuard_bool (op : BinOp) (t : TypeId) (x y : Operand) (a b : Bool) : (eqGuard op t x y (.bool a) (.bool b)).run P w = .ok () w := by
  unfold eqGuard; cases op <;> simp
theorem run_eqGuard_slice (op : BinOp) (t : TypeId) (x y : Operand) (a a' : Option Addr) (l c l' c' : Nat) : (eqGuard op t x y (.slice a l c) (.slice a' l' c')).run P w = .ok () w := by
  unfold eqGuard; cases op <;> simp

theorem isBoolT_inv {t : TypeId} (h : isBoolT P t = true) : P.underlying t = some .bool := by
  unfold isBoolT at h; split at h
  · assumption
  · cases h
theorem isSliceT_inv {t : TypeId} (h : isSliceT P t = true) : ∃ e, P.underlying t = some (.slice e) := by
  unfold isSliceT at h; split at h
  · exact ⟨_, by assumption⟩
  · cases h

theorem run_equal_bool {t : TypeId} (hu : P.underlying t = some .bool) (a b : Bool) : (Op.equal t (.bool a) (.bool b)).run P w = .ok (a == b) w := by
  have : ∀ d, (Op.equalIn (d + 1) t (.bool a) (.bool b)).run P w = .ok (a == b) w := fun d => by simp only [Op.equalIn, Sem.run_bind, run_underlying hu, Result.andThen_ok, Sem.run_pure]
  exact this 9999
theorem run_equal_nil {t e : TypeId} (hu : P.underlying t = some (.slice e)) : (Op.equal t (.slice none 0 0) (.slice none 0 0)).run P w = .ok true w := by
  have : ∀ d, (Op.equalIn (d + 1) t (.slice none 0 0) (.slice none 0 0)).run P w = .ok true w := fun d => by simp only [Op.equalIn, Sem.run_bind, run_underlying hu, Result.andThen_ok, Sem.run_pure, Option.isNone_none]
  exact this 9999
theorem run_equal_some {t e : TypeId} (hu : P.underlying t = some (.slice e)) (a : Addr) (n c : Nat) : (Op.equal t (.slice (some a) n c) (.slice none 0 0)).run P w = .ok false w := by
  have : ∀ d, (Op.equalIn (d + 1) t (.slice (some a) n c) (.slice none 0 0)).run P w = .ok false w := fun d => by simp only [Op.equalIn, Sem.run_bind, run_underlying hu, Result.andThen_ok, Sem.run_pure]
  exact this 9999
theorem run_eql_of {t : TypeId} {x y : Value} {r : Bool} (h : (Op.equal t x y).run P w = .ok r w) : (do pure (.bool (← Op.equal t x y)) : Sem Value).run P w = .ok (.bool r) w ∧
    (do pure (.bool (!(← Op.equal t x y))) : Sem Value).run P w = .ok (.bool (!r)) w := by
  constructor <;> simp only [Sem.run_bind, h, Result.andThen_ok, Sem.run_pure]

theorem binE_sound {op : BinOp} {t : TypeId} {x y : Nat} {vx vy : Value} (hx : VR ρ L x vx) (hy : VR ρ L y vy) (h : tagOf (binE P op t x y) ≠ 15) (ox oy : Operand) :
    ∃ r, VR ρ L (binE P op t x y) r ∧ (do eqGuard op t ox oy vx vy; binOp op t vx vy : Sem Value).run P w = .ok r w := by
  unfold binE at h ⊢
  rw [sel_beq] at h ⊢
  by_cases h1 : tagOf x = 1
  · rw [if_pos h1, sel_beq] at h ⊢
    by_cases h2 : tagOf y = 1
    · rw [if_pos h2] at h ⊢
      obtain ⟨a, ha, rfl, hpa, rfl⟩ := hx.int_inv h1
      obtain ⟨b, hb, rfl, hpb, rfl⟩ := hy.int_inv h2
      rw [hpa, hpb] at h ⊢
      obtain ⟨r, hr1, hr2⟩ := binI_sound (P := P) (ρ := ρ) (L := L) (w := w) op t a b ha hb h
      exact ⟨r, hr1, by simp [run_eqGuard_int, hr2]⟩
    · rw [if_neg h2, sel_beq] at h ⊢
      by_cases h9 : tagOf y = 12
      · rw [if_pos h9] at h ⊢
        obtain ⟨a, ha, rfl, hpa, rfl⟩ := hx.int_inv h1
        obtain ⟨j, lo, hi, q1, q2, q3, q4, rfl, rfl⟩ := hy.var_inv h9
        rw [hpa] at h ⊢
        obtain ⟨c, c0, _, hcs, hnb⟩ := nearB_inv ha h
        rw [hnb] at h ⊢
        have hff := flip_flip h
        obtain ⟨r, hr1, _, hr2⟩ := cmpV_sound (P := P) (w := w) (ty := t) q1 q2 q3 q4 c0 h
        rw [hff] at hr2
        rw [hr1]
        exact ⟨_, .bool r, by rw [hcs]; simp [run_eqGuard_int, hr2]⟩
      · rw [if_neg h9] at h; exact absurd rfl h
  · rw [if_neg h1, sel_beq] at h ⊢
    by_cases h2 : tagOf x = 2
    · rw [if_pos h2, sel_beq] at h ⊢
      by_cases h3 : tagOf y = 2
      · rw [if_pos h3, sel_eq] at h ⊢
        obtain ⟨a, rfl, rfl⟩ := hx.bool_inv h2
        obtain ⟨b, rfl, rfl⟩ := hy.bool_inv h3
        by_cases h4 : isBoolT P t = true
        · rw [if_pos h4] at h ⊢
          have hu := isBoolT_inv h4
          have key : Nat.beq (wB a) (wB b) = (a == b) := by cases a <;> cases b <;> rfl
          cases op <;> simp only [key, wB_sel] at h ⊢ <;> try (with_reducible exact absurd tag_bad h)
          case eql => exact ⟨_, .bool _, by rw [Sem.run_bind, run_eqGuard_bool]; exact (run_eql_of (run_equal_bool hu a b)).1⟩
          case neq => exact ⟨_, .bool _, by rw [Sem.run_bind, run_eqGuard_bool]; exact (run_eql_of (run_equal_bool hu a b)).2⟩
        · rw [if_neg h4] at h; exact absurd rfl h
      · rw [if_neg h3] at h; exact absurd rfl h
    · rw [if_neg h2, sel_beq] at h ⊢
      by_cases h3 : tagOf x = 4
      · rw [if_pos h3, sel_beq] at h ⊢
        by_cases h4 : y = sNil
        · rw [if_pos h4, sel_eq] at h ⊢
          by_cases h5 : isSliceT P t = true
          · rw [if_pos h5] at h ⊢
            obtain ⟨e, hu⟩ := isSliceT_inv h5
            rcases hy.slice_inv (by rw [h4]; rfl) with ⟨_, rfl⟩ | ⟨b, e', o', n', k', rb, d, sz, cc, a, _, he, hoo, hnn, hkk, _, _, _, _, hw, rfl⟩
            · rcases hx.slice_inv h3 with ⟨rfl, rfl⟩ | ⟨b, e', o', n', k', rb, d, sz, cc, a, _, he, hoo, hnn, hkk, _, _, _, _, rfl, rfl⟩
              · have hz : Nat.beq (sBlk (payOf sNil)) 0 = true := rfl
                cases op <;> simp only [hz, sel_true] at h ⊢ <;> try (with_reducible exact absurd tag_bad h)
                case eql => exact ⟨_, .bool _, by rw [Sem.run_bind, run_eqGuard_slice]; exact (run_eql_of (run_equal_nil hu)).1⟩
                case neq => exact ⟨_, .bool _, by rw [Sem.run_bind, run_eqGuard_slice]; exact (run_eql_of (run_equal_nil hu)).2⟩
              · have hz : Nat.beq (sBlk (payOf (wS b e' o' n' k'))) 0 = false := by
                  rw [(s_parts b e' o' n' k' he hoo hnn hkk).2.2.2.2.2]; rfl
                cases op <;> simp only [hz, sel_false] at h ⊢ <;> try (with_reducible exact absurd tag_bad h)
                case eql => exact ⟨_, .bool _, by rw [Sem.run_bind, run_eqGuard_slice]; exact (run_eql_of (run_equal_some hu _ _ _)).1⟩
                case neq => exact ⟨_, .bool _, by rw [Sem.run_bind, run_eqGuard_slice]; exact (run_eql_of (run_equal_some hu _ _ _)).2⟩
            · exfalso
              rw [h4] at hw
              have := (s_parts b e' o' n' k' he hoo hnn hkk).2.2.2.2.2
              rw [← hw, s_nil.2.2.2.2.2] at this
              omega
          · rw [if_neg h5] at h; exact absurd rfl h
        · rw [if_neg h4] at h; exact absurd rfl h
      · rw [if_neg h3, sel_beq] at h ⊢
        by_cases h9 : tagOf x = 12
        · rw [if_pos h9, sel_beq] at h ⊢
          by_cases h4 : tagOf y = 1
          · rw [if_pos h4] at h ⊢
            obtain ⟨b, hb, rfl, hpb, rfl⟩ := hy.int_inv h4
            obtain ⟨j, lo, hi, q1, q2, q3, q4, rfl, rfl⟩ := hx.var_inv h9
            rw [hpb] at h ⊢
            rw [sel_eq] at h ⊢
            by_cases hqu : isQuo op = true
            · rw [if_pos hqu] at h ⊢
              obtain ⟨r, hr1, hr2⟩ := quoV_sound (P := P) (ρ := ρ) (L := L) (w := w) (ty := t) hqu hb q1 q2 q3 q4 h
              exact ⟨r, hr1, by simp [run_eqGuard_int, hr2]⟩
            · rw [if_neg hqu, sel_eq] at h ⊢
              by_cases hre : isRem op = true
              · rw [if_pos hre] at h ⊢
                obtain ⟨r, hr1, hr2⟩ := remV_sound (P := P) (ρ := ρ) (L := L) (w := w) (ty := t) hre q1 q2 h
                exact ⟨r, hr1, by simp [run_eqGuard_int, hr2]⟩
              rw [if_neg hre] at h ⊢
              obtain ⟨c, c0, _, hcs, hnb⟩ := nearB_inv hb h
              rw [hnb] at h ⊢
              obtain ⟨r, hr1, hr2, _⟩ := cmpV_sound (P := P) (w := w) (ty := t) q1 q2 q3 q4 c0 h
              rw [hr1]
              exact ⟨_, .bool r, by rw [hcs]; simp [run_eqGuard_int, hr2]⟩
          · rw [if_neg h4] at h; exact absurd (tag_mk15 _) h
        · rw [if_neg h9, sel_beq] at h ⊢
          by_cases h10 : tagOf x = 9
          · rw [if_pos h10, sel_beq] at h ⊢
            by_cases h4 : tagOf y = 1
            · rw [if_pos h4] at h ⊢
              obtain ⟨b, hb, rfl, hpb, rfl⟩ := hy.int_inv h4
              obtain ⟨tt, u, z, q1, q2, q3, _, q5, q6, rfl⟩ := hx.btw_inv h10
              rw [hpb, sel_eq] at h ⊢
              by_cases hadd : isAdd op = true
              · rw [if_pos hadd] at h ⊢
                obtain ⟨r, hr1, hr2⟩ := addG_sound (P := P) (ρ := ρ) (L := L) (w := w) (ty := t) hadd q5 q6 q2 q3 h
                exact ⟨r, hr1, by simp [run_eqGuard_int, hr2]⟩
              · rw [if_neg hadd] at h ⊢
                obtain ⟨r, hr1, hr2⟩ := cmpG_sound (P := P) (w := w) (ty := t) q5 q2 h
                rw [hr1]
                exact ⟨_, .bool r, by simp [run_eqGuard_int, hr2]⟩
            · rw [if_neg h4] at h; exact absurd rfl h
          · rw [if_neg h10] at h; exact absurd rfl h

theorem binE_args {op : BinOp} {t : TypeId} {x y : Nat} (h : tagOf (binE P op t x y) ≠ 15) : tagOf x ≠ 15 ∧ tagOf y ≠ 15 := by
  unfold binE at h
  rw [sel_beq] at h
  split at h
  · rename_i h1
    rw [sel_beq] at h
    split at h
    · rename_i h2; omega
    · rw [sel_beq] at h
      split at h
      · rename_i h2; omega
      · exact absurd rfl h
  · rw [sel_beq] at h
    split at h
    · rename_i h1
      rw [sel_beq] at h
      split at h
      · rename_i h2; omega
      · exact absurd rfl h
    · rw [sel_beq] at h
      split at h
      · rename_i h1
        rw [sel_beq] at h
        split at h
        · rename_i h2; exact ⟨by omega, by rw [h2]; decide⟩
        · exact absurd rfl h
      · rw [sel_beq] at h
        split at h
        · rw [sel_beq] at h
          split at h
          · rename_i h2; exact ⟨by omega, by omega⟩
          · exact absurd (tag_mk15 _) h
        · rw [sel_beq] at h
          split at h
          · rw [sel_beq] at h
            split at h
            · rename_i h2; exact ⟨by omega, by omega⟩
            · exact absurd rfl h
          · exact absurd rfl h

theorem sel_okX {b : Bool} {r : OR} {q : Nat} (h : sel b r (.bad q) = .ok v H' n') : r = .ok v H' n' := by
  cases b with
  | true => exact h
  | false => cases h
theorem op_bin (c : Ctx base H n ρ L w) (ht : TR ρ L nt T tmps) {op : BinOp} {t yt : TypeId} {x y : Operand} (ho : o.op = .binOp op t x y yt) (h : opE P call T H n o.op = .ok v H' n') :
    CalmD ρ L H n w v H' n' (OpDone P tmps o w cfr ccs) := by
  rw [ho] at h
  simp only [opE_eq, opX] at h
  have fin : okv (binE P op t (ev T x) (ev T y)) H n = .ok v H' n' → CalmD ρ L H n w v H' n' (OpDone P tmps o w cfr ccs) := by
    intro h
    obtain ⟨h1, rfl, rfl, rfl⟩ := okv_inv h
    obtain ⟨hx, hy⟩ := binE_args h1
    obtain ⟨r, hr1, hr2⟩ := binE_sound (w := w) (ev_sound ht x hx) (ev_sound ht y hy) h1 x y
    refine .pure c hr1 (.value ?_)
    simp only [execOp, ho]
    simp only [Sem.run_bind, hr2, Result.andThen_ok, Sem.run_pure]
  rw [sel_eq] at h
  split at h
  · rename_i hb
    unfold bothI at hb
    rw [sel_beq] at hb
    split at hb
    · rename_i hx1
      have hy1 := Nat.eq_of_beq_eq_true hb
      refine fin ?_
      unfold binE
      rw [sel_beq, if_pos hx1, sel_beq, if_pos hy1]
      exact h
    · cases hb
  rw [sel_beq] at h
  split at h
  · rename_i h6
    by_cases hyb : tagOf (ev T y) = 15
    · exfalso
      unfold eqA at h
      have := sel_okX h
      rw [sel_beq, if_neg (by omega)] at this
      cases this
    refine (eqA_calm c (ev_sound ht x (by omega)) (ev_sound ht y hyb) h6 x y h).mono fun r hr => .value ?_
    simp only [execOp, ho]
    simp only [Sem.run_bind] at hr ⊢
    rw [hr]; rfl
  rw [sel_beq] at h
  split at h
  · rename_i h5
    obtain ⟨h1, rfl, rfl, rfl⟩ := okv_inv h
    by_cases hyb : tagOf (ev T y) = 15
    · exfalso
      unfold binU at h1
      simp only at h1
      rw [sel_beq, if_neg (by omega), sel_beq, if_neg (by omega)] at h1
      exact h1 rfl
    have hy := ev_sound ht y hyb
    obtain ⟨p, _, _, hxv⟩ := (ev_sound ht x (by omega)).u64_inv h5
    obtain ⟨r, hr1, hr2⟩ := binU_sound (P := P) (w := w) op t (ev_sound ht x (by omega)) h5 hy h1
    refine .pure c hr1 (.value ?_)
    have hgd : (eqGuard op t x y (evT tmps x) (evT tmps y)).run P w = .ok () w := by
      rw [hxv]
      unfold eqGuard
      cases op <;> simp
    simp only [execOp, ho]
    simp only [Sem.run_bind, hgd, hr2, Result.andThen_ok, Sem.run_pure]
  rw [sel_eq] at h
  split at h
  · obtain ⟨hx, hy⟩ := polyBin_args h
    obtain ⟨zx, zy, e1, e2, hc⟩ := polyBin_calm (P := P) c (ev_sound ht x hx) (ev_sound ht y hy) (t := t) h
    refine hc.mono fun r hr => .value ?_
    have hgd : (eqGuard op t x y (evT tmps x) (evT tmps y)).run P w = .ok () w := by
      rw [e1]
      unfold eqGuard
      cases op <;> simp
    simp only [execOp, ho]
    simp only [Sem.run_bind, hgd, hr, Result.andThen_ok, Sem.run_pure]
  rw [sel_eq] at h
  split at h
  · rename_i hs
    obtain ⟨h1, rfl, rfl, rfl⟩ := okv_inv h
    have hs1 : isStr (ev T x) = true := by
      cases hq : isStr (ev T x) with
      | true => rfl
      | false => rw [hq] at hs; cases hs
    have hs2 : isStr (ev T y) = true := by rw [hs1] at hs; exact hs
    have tg : ∀ w, isStr w = true → tagOf w ≠ 15 := fun w hw h15 => by unfold isStr at hw; rw [h15] at hw; cases hw
    obtain ⟨a, b, r, e1, e2, hr1, hr2⟩ := binS_sound (P := P) (w := w) (t := t) (ev_sound ht x (tg _ hs1)) (ev_sound ht y (tg _ hs2)) hs1 hs2 h1
    refine .pure c hr1 (.value ?_)
    have hgd : (eqGuard op t x y (evT tmps x) (evT tmps y)).run P w = .ok () w := by
      rw [e1]
      unfold eqGuard
      cases op <;> simp
    simp only [execOp, ho]
    simp only [Sem.run_bind, hgd, hr2, Result.andThen_ok, Sem.run_pure]
  · exact fin h

theorem op_un (c : Ctx base H n ρ L w) (ht : TR ρ L nt T tmps) {op : UnOp} {t : TypeId} {x : Operand} (ho : o.op = .unOp op t x) (h : opE P call T H n o.op = .ok v H' n') :
    CalmD ρ L H n w v H' n' (OpDone P tmps o w cfr ccs) := by
  rw [ho] at h
  simp only [opE_eq, opX] at h
  obtain ⟨h1, rfl, rfl, rfl⟩ := okv_inv h
  unfold unE at h1 ⊢
  cases op <;> simp only at h1 ⊢ <;> try (with_reducible exact absurd tag_bad h1)
  case neg =>
    rw [sel_beq] at h1 ⊢
    by_cases hx : tagOf (ev T x) = 1
    · rw [if_pos hx]
      obtain ⟨a, ha, _, hpa, hv⟩ := (ev_sound ht x (by omega)).int_inv hx
      rw [hpa]
      refine .pure c (.int _ (mod64_lt _)) (.value ?_)
      have : uInt (0 - sInt a) = Nat.mod (Nat.sub 18446744073709551616 a) 18446744073709551616 := by
        show _ = (18446744073709551616 - a) % 18446744073709551616
        unfold uInt sInt; split <;> omega
      simp only [execOp, ho, Op.unary, hv, Op.intArith, Sem.run_bind, Sem.run_pure, Result.andThen_ok, wrap_sInt, this]
    · rw [if_neg hx] at h1; exact absurd rfl h1
  case not =>
    rw [sel_beq] at h1 ⊢
    by_cases hx : ev T x = 18
    · rw [if_pos hx]
      have hv := ev_sound ht x (by rw [hx]; decide)
      rw [hx] at hv
      exact .pure c (.bool false) (.value (by simp [execOp, ho, Op.unary, hv.true_inv]))
    · rw [if_neg hx, sel_beq] at h1 ⊢
      by_cases hx : ev T x = 2
      · rw [if_pos hx]
        have hv := ev_sound ht x (by rw [hx]; decide)
        rw [hx] at hv
        exact .pure c (.bool true) (.value (by simp [execOp, ho, Op.unary, hv.false_inv]))
      · rw [if_neg hx] at h1; exact absurd rfl h1

theorem op_extract (c : Ctx base H n ρ L w) (ht : TR ρ L nt T tmps) {x : Operand} {i : Nat} (ho : o.op = .extract x i) (h : opE P call T H n o.op = .ok v H' n') :
    CalmD ρ L H n w v H' n' (OpDone P tmps o w cfr ccs) := by
  rw [ho] at h
  simp only [opE_eq, opX] at h
  rw [sel_beq] at h
  split at h
  · rename_i h6
    obtain ⟨id, kd, m, ch, vs, hw, hp, hL, hk, hsz, hvs⟩ := (ev_sound ht x (by omega)).box_inv h6
    split at h
    · rename_i m' c' hget
      have := c.agree.2 _ _ hget
      rw [hp, hL] at this
      injection this with this; injection this with e1 e2 e3
      subst e1; subst e2; subst e3
      rw [sel_ltb] at h
      split at h
      · rename_i hi
        obtain ⟨h1, rfl, rfl, rfl⟩ := okv_inv h
        rcases hk with ⟨hk, _⟩ | ⟨_, hv⟩
        · cases hk
        · have hi' : i < vs.size := by rw [hsz]; exact hi
          exact .pure c (hvs i hi') (.value (by simp [execOp, ho, Instr.extract, hv, hi']))
      · cases h
    · cases h
  · cases h

theorem op_load (c : Ctx base H n ρ L w) (ht : TR ρ L nt T tmps) {a : Operand} {t : TypeId} (ho : o.op = .load t a) (h : opE P call T H n o.op = .ok v H' n') :
    CalmD ρ L H n w v H' n' (OpDone P tmps o w cfr ccs) := by
  rw [ho] at h
  simp only [opE_eq, opX] at h
  rw [sel_eq] at h
  split at h
  · rename_i hp
    rw [sel_beq] at h
    split at h
    · rename_i h3
      rw [sel_beq] at h
      split at h
      · cases h
      · rename_i hnz
        obtain ⟨h1, rfl, rfl, rfl⟩ := okv_inv h
        rcases (ev_sound ht a (by omega)).ptr_inv h3 with ⟨h4, _⟩ | ⟨b, off, rb, d, sz, hb, ho', hw, hv⟩
        · rw [h4] at hnz; exact absurd rfl hnz
        · obtain ⟨_, p2, p3⟩ := p_parts b off ho'
          rw [hw, p2, p3, Nat.pred_succ] at h1 ⊢
          obtain ⟨u, hc, hu⟩ := rd_sound c hb h1
          refine .pure c hu (.value ?_)
          simp [execOp, ho, Instr.loadAt, hv, Instr.sureAddr, loadVar, run_isAgg_plain hp, hc]
    · cases h
  · by_cases hnb : tagOf (ev T a) = 15
    · exfalso
      unfold loadA at h
      have := sel_okX h
      rw [sel_beq, if_neg (by omega)] at this
      cases this
    refine (loadA_calm c (ev_sound ht a hnb) h).mono fun r hr => .value ?_
    simp [execOp, ho, hr]

theorem op_build (c : Ctx base H n ρ L w) (ht : TR ρ L nt T tmps) {t : TypeId} {ps : Array (Nat × Operand)} (ho : o.op = .build t ps) (h : opE P call T H n o.op = .ok v H' n') :
    CalmD ρ L H n w v H' n' (OpDone P tmps o w cfr ccs) := by
  rw [ho] at h
  simp only [opE_eq, opX] at h
  refine (buildA_calm c ht h).mono fun r hr => .value ?_
  simp only [execOp, ho, Sem.run_bind]
  rw [hr]; rfl
theorem op_field (c : Ctx base H n ρ L w) (ht : TR ρ L nt T tmps) {t : TypeId} {x : Operand} {i : Nat} (ho : o.op = .field t x i) (h : opE P call T H n o.op = .ok v H' n') :
    CalmD ρ L H n w v H' n' (OpDone P tmps o w cfr ccs) := by
  rw [ho] at h
  simp only [opE_eq, opX] at h
  by_cases hnb : tagOf (ev T x) = 15
  · exfalso
    unfold fieldA at h
    rw [sel_beq, if_neg (by omega)] at h
    cases h
  refine (fieldA_calm c (ev_sound ht x hnb) h).mono fun r hr => .value ?_
  simp [execOp, ho, hr]
theorem op_index (c : Ctx base H n ρ L w) (ht : TR ρ L nt T tmps) {t : TypeId} {x i : Operand} (ho : o.op = .index t x i) (h : opE P call T H n o.op = .ok v H' n') :
    CalmD ρ L H n w v H' n' (OpDone P tmps o w cfr ccs) := by
  rw [ho] at h
  simp only [opE_eq, opX] at h
  by_cases hnb : tagOf (ev T x) = 15
  · exfalso
    unfold indexA at h
    rw [sel_beq, if_neg (by omega)] at h
    cases h
  by_cases hib : tagOf (ev T i) = 15
  · exfalso
    unfold indexA at h
    have h := sel_okX h
    split at h
    · split at h
      · have h := sel_okX h
        rw [sel_beq, if_neg (by omega)] at h
        cases h
      · cases h
    · cases h
  refine (indexA_calm c (ev_sound ht x hnb) (ev_sound ht i hib) h).mono fun r hr => .value ?_
  simp [execOp, ho, hr]
theorem keyE_bad {kt : TypeId} {x : Nat} {k : Nat → OR} (hb : tagOf x = 15) (h : keyE P kt H x k = .ok v H' n') : False := by
  unfold keyE at h
  rw [sel_beq, if_neg (by omega)] at h
  cases h
theorem tmap_ok {t : TypeId} {k : TypeId → TypeId → OR} (h : tmap P t k = .ok v H' n') : ∃ kt et, k kt et = .ok v H' n' := by
  obtain ⟨kt, et, _, _, h⟩ := tmap_inv h (by simp)
  exact ⟨kt, et, h⟩
theorem op_lookup (c : Ctx base H n ρ L w) (ht : TR ρ L nt T tmps) {t : TypeId} {x i : Operand} {ok : Bool} (ho : o.op = .lookup t x i ok) (h : opE P call T H n o.op = .ok v H' n') :
    CalmD ρ L H n w v H' n' (OpDone P tmps o w cfr ccs) := by
  rw [ho] at h
  simp only [opE_eq, opX] at h
  have nb : tagOf (ev T x) ≠ 15 ∧ tagOf (ev T i) ≠ 15 := by
    unfold lookupE at h
    obtain ⟨kt, et, h⟩ := tmap_ok h
    refine ⟨fun hb => ?_, fun hb => keyE_bad hb h⟩
    unfold keyE at h
    have h := sel_okX h
    split at h
    · have h := sel_okX (sel_okX h)
      dsimp only at h
      rw [sel_beq] at h
      split at h
      · rename_i h39; rw [h39] at hb; cases hb
      · unfold isMapW at h
        rw [sel_eq] at h
        split at h
        · rename_i hm
          rw [sel_beq] at hm
          split at hm
          · omega
          · cases hm
        · cases h
    · cases h
  refine (lookupE_calm c (ev_sound ht x nb.1) (ev_sound ht i nb.2) h).mono fun r hr => .value ?_
  simp [execOp, ho, hr]
theorem op_mapUpdate (c : Ctx base H n ρ L w) (ht : TR ρ L nt T tmps) {t : TypeId} {x i y : Operand} (ho : o.op = .mapUpdate t x i y) (h : opE P call T H n o.op = .ok v H' n') :
    After base H n ρ L w v H' n' (OpDone P tmps o w cfr ccs) := by
  rw [ho] at h
  simp only [opE_eq, opX] at h
  have nb : tagOf (ev T x) ≠ 15 ∧ tagOf (ev T i) ≠ 15 ∧ tagOf (ev T y) ≠ 15 := by
    unfold mapUpE at h
    obtain ⟨kt, et, h⟩ := tmap_ok h
    refine ⟨fun hb => ?_, fun hb => keyE_bad hb h, fun hb => ?_⟩
    all_goals
      unfold keyE at h
      have h := sel_okX h
      split at h
      · have h := sel_okX (sel_okX h)
        dsimp only at h
        rw [sel_eq] at h
        split at h
        · rename_i hst
          have hs3 := ((storable_iff _).1 hst).2.2.1
          have h := h
          rw [sel_eq] at h
          split at h
          · rename_i hm
            unfold isMapW at hm
            rw [sel_beq] at hm
            split at hm
            · first | omega | exact hs3 hb
            · cases hm
          · cases h
        · cases h
      · cases h
  refine (mapUpE_sound c (ev_sound ht x nb.1) (ev_sound ht i nb.2.1) (ev_sound ht y nb.2.2) h).mono fun r W hr => .skip ?_ hr.1
  simp [execOp, ho, hr.2]
theorem op_makeMap (c : Ctx base H n ρ L w) (ht : TR ρ L nt T tmps) {t : TypeId} {r : Option Operand} (ho : o.op = .makeMap t r) (h : opE P call T H n o.op = .ok v H' n') :
    After base H n ρ L w v H' n' (OpDone P tmps o w cfr ccs) := by
  rw [ho] at h
  simp only [opE_eq, opX] at h
  obtain ⟨p, hp, h⟩ := optI_inv' h (by simp) ht
  have hr : r.map (evT tmps) = none ∨ ∃ k z, r.map (evT tmps) = some (.int k z) := by
    rcases hp with ⟨rfl, _⟩ | ⟨x, rfl, _, hv⟩
    · exact .inl rfl
    · exact .inr ⟨_, _, by simp [hv]; exact ⟨rfl, rfl⟩⟩
  refine (makeMapE_sound c hr h).mono fun x W hx => .value ?_
  simp [execOp, ho, hx]
theorem op_fieldAddr (c : Ctx base H n ρ L w) (ht : TR ρ L nt T tmps) {t : TypeId} {x : Operand} {i : Nat} (ho : o.op = .fieldAddr t x i) (h : opE P call T H n o.op = .ok v H' n') :
    CalmD ρ L H n w v H' n' (OpDone P tmps o w cfr ccs) := by
  rw [ho] at h
  simp only [opE_eq, opX] at h
  by_cases hnb : tagOf (ev T x) = 15
  · exfalso
    unfold fieldAddrA at h
    split at h
    · split at h
      · have h := sel_okX h
        rw [sel_beq] at h
        split at h
        · cases h
        · unfold ptrAt at h
          rw [sel_beq, if_neg (by omega)] at h
          cases h
      · cases h
    · cases h
  refine (fieldAddrA_calm c (ev_sound ht x hnb) h).mono fun r hr => .value ?_
  simp [execOp, ho, hr]

theorem op_convert (c : Ctx base H n ρ L w) (ht : TR ρ L nt T tmps) {x : Operand} {s t : TypeId} (ho : o.op = .convert s t x) (h : opE P call T H n o.op = .ok v H' n') :
    CalmD ρ L H n w v H' n' (OpDone P tmps o w cfr ccs) := by
  rw [ho] at h
  simp only [opE_eq, opX] at h
  have ty : ∀ {t : TypeId} {k : IntKind}, isIntT P t k = true → P.underlying t = some (.int k) := by
    intro t k h
    unfold isIntT at h
    split at h
    · rename_i k' hu
      rw [hu, of_decide_eq_true h]
    · cases h
  rw [sel_beq] at h
  split at h
  · rename_i h1
    rw [sel_eq] at h
    split at h
    · rename_i h2
      rw [sel_eq] at h
      split at h
      · rename_i h3
        injection h with e1 e2 e3
        subst e1; subst e2; subst e3
        obtain ⟨p, hp, _, hpp, hv⟩ := (ev_sound ht x (by omega)).int_inv h1
        have u1 := ty h2
        have u2 := ty h3
        have hw : IntKind.u64.wrap (sInt p) = (p : Int) := by
          simp only [IntKind.wrap, IntKind.bits, IntKind.signed, sInt]
          simp
          split <;> omega
        rw [hpp]
        refine .pure c (.u64 p hp) (.value ?_)
        simp [execOp, ho, convert, run_underlying u1, run_underlying u2, hv, Conv.intToInt, hw]
      · cases h
    · cases h
  · rw [sel_beq] at h
    split at h
    · rename_i h1
      rw [sel_eq] at h
      split at h
      · rename_i h2
        have u1 := ty h2
        obtain ⟨p, hp, hpp, hv⟩ := (ev_sound ht x (by omega)).u64_inv h1
        rw [sel_eq] at h
        split at h
        · rename_i h3
          injection h with e1 e2 e3
          subst e1; subst e2; subst e3
          have u2 := ty h3
          rw [hpp]
          refine .pure c (.int p hp) (.value ?_)
          have hw : IntKind.i64.wrap (p : Int) = sInt p := by
            rw [wrap_sInt]
            congr 1
            unfold uInt; omega
          simp [execOp, ho, convert, run_underlying u1, run_underlying u2, hv, Conv.intToInt, hw]
        · rw [sel_eq] at h
          split at h
          · rename_i h3
            injection h with e1 e2 e3
            subst e1; subst e2; subst e3
            have u2 := ty h3
            refine .pure c (ev_sound ht x (by omega)) (.value ?_)
            have hw : IntKind.u64.wrap (p : Int) = (p : Int) := by
              simp only [IntKind.wrap, IntKind.bits, IntKind.signed]
              simp
              omega
            simp [execOp, ho, convert, run_underlying u1, run_underlying u2, hv, Conv.intToInt, hw]
          · cases h
      · cases h
    · cases h

theorem op_makeFunc (c : Ctx base H n ρ L w) (ht : TR ρ L nt T tmps) {f : FuncId} {first cap : Array Operand} (ho : o.op = .makeFunc (.func f) first cap) (h : opE P call T H n o.op = .ok v H' n') :
    CalmD ρ L H n w v H' n' (OpDone P tmps o w cfr ccs) := by
  rw [ho] at h
  simp only [opE_eq, opX] at h
  rw [sel_beq] at h
  split at h
  · rename_i hf
    have hf0 : first = #[] := Array.eq_empty_of_size_eq_zero hf
    subst hf0
    rw [sel_beq] at h
    split at h
    · rename_i hcp
      have hc0 : cap = #[] := Array.eq_empty_of_size_eq_zero hcp
      subst hc0
      injection h with h1 h2 h3
      subst h1; subst h2; subst h3
      exact .pure c (.fn f) (.value (by simp [execOp, ho, Instr.makeFunc]))
    · rw [sel_eq] at h
      split at h
      · rename_i hnb
        rw [sel_eq] at h
        split at h
        · rename_i hsl
          obtain ⟨hn, e1, e2, e3⟩ := newBox_inv h
          have hs := evs_sound ht cap.toList hnb
          refine ⟨.func (.func f) #[] (cap.map (evT tmps)), .inr ⟨.box 2 cap.size (listW (f :: evs T cap.toList)), trivial, e2, e3, hn, e1, fun ρ' L' id e hL => ?_⟩, .value (by simp [execOp, ho, Instr.makeFunc])⟩
          refine .clo id _ _ f _ hL ?_ (by simp) fun i hi => ?_
          · rw [getW_listW _ hsl]; rfl
          · rw [getW_listW _ hsl]
            have hi' : i < (cap.toList.map (evT tmps)).length := by simpa using hi
            have := (hs.get i hi').mono0 e
            simpa using this
        · cases h
      · cases h
  · cases h
end
end Go.Eng
