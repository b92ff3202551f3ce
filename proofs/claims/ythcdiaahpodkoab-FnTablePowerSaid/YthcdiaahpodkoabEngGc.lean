/- Sums of products of variables: what the operations give. -/
import Derived.Test.YthcdiaahpodkoabEngGb
import Derived.Laws.Strings
import Derived.WideShapes
namespace Go.Eng
set_option linter.unusedSectionVars false
set_option linter.unusedSimpArgs false
set_option linter.unusedVariables false
open Go Go.RowKit
variable [E : Env]
section
variable {base : Nat} {H H' : Trie} {n n' nt T v : Nat} {ρ : Rho} {L : Look} {w : World} {P : Program} {R R' : Value → World → Prop}

theorem sel_okB {b : Bool} {r : OR} {q : Nat} (h : sel b r (.bad q) = .ok v H' n') : r = .ok v H' n' := by
  cases b with
  | true => exact h
  | false => cases h
theorem newPoly_inv {p q s d lo hi : Nat} (h : newPoly p q s d lo hi H n = .ok v H' n') : n < 16384 ∧ v = polyW n ∧ H' = hset H n (.poly p q s d lo hi) ∧ n' = n + 1 := by
  unfold newPoly at h
  rw [sel_ltb] at h
  split at h
  · rename_i hn
    simp only [force_eq] at h
    injection h with h1 h2 h3
    exact ⟨hn, h1.symm, h2.symm, h3.symm⟩
  · cases h
theorem pget_heap {x : Nat} {k : Nat → Nat → Nat → Nat → Nat → Nat → OR} (h : pget H x k = .ok v H' n') : ∃ p q s d lo hi, k p q s d lo hi = .ok v H' n' := by
  unfold pget at h
  rw [sel_beq] at h
  split at h
  · rw [sel_ltb] at h
    split at h
    · exact ⟨_, _, _, _, _, _, h⟩
    · exact ⟨_, _, _, _, _, _, h⟩
  · rw [sel_beq] at h
    split at h
    · have h := sel_okB h
      exact ⟨_, _, _, _, _, _, h⟩
    · have h := sel_okB h
      split at h
      · exact ⟨_, _, _, _, _, _, h⟩
      · cases h
theorem pget_tag {x : Nat} {k : Nat → Nat → Nat → Nat → Nat → Nat → OR} (h : pget H x k = .ok v H' n') : tagOf x ≠ 15 := by
  intro hx
  unfold pget at h
  rw [hx] at h
  cases h
theorem polyBin_args {op : BinOp} {x y : Nat} (h : polyBin op x y H n = .ok v H' n') : tagOf x ≠ 15 ∧ tagOf y ≠ 15 := by
  unfold polyBin at h
  refine ⟨pget_tag h, ?_⟩
  obtain ⟨p, q, s, d, lo, hi, h⟩ := pget_heap h
  exact pget_tag h
theorem polyBin_heap {op : BinOp} {x y : Nat} (h : polyBin op x y H n = .ok v H' n') : (H' = H ∧ n' = n) ∨ ∃ p q s d lo hi, H' = hset H n (.poly p q s d lo hi) ∧ n' = n + 1 ∧ n < 16384 := by
  unfold polyBin at h
  obtain ⟨p, q, s, d, lo, hi, h⟩ := pget_heap h
  obtain ⟨p', q', s', d', lo', hi', h⟩ := pget_heap h
  have np : ∀ {p q s d lo hi : Nat}, newPoly p q s d lo hi H n = .ok v H' n' → (H' = H ∧ n' = n) ∨ ∃ p q s d lo hi, H' = hset H n (.poly p q s d lo hi) ∧ n' = n + 1 ∧ n < 16384 := fun h =>
    let ⟨a, _, b, c⟩ := newPoly_inv h
    .inr ⟨_, _, _, _, _, _, b, c, a⟩
  have same : ∀ {x : Nat}, OR.ok x H n = .ok v H' n' → (H' = H ∧ n' = n) ∨ ∃ p q s d lo hi, H' = hset H n (.poly p q s d lo hi) ∧ n' = n + 1 ∧ n < 16384 := fun h => by
    injection h with a b c
    exact .inl ⟨b.symm, c.symm⟩
  have two : ∀ {b : Bool} {r r' : OR}, (r = .ok v H' n' → (H' = H ∧ n' = n) ∨ ∃ p q s d lo hi, H' = hset H n (.poly p q s d lo hi) ∧ n' = n + 1 ∧ n < 16384) → (r' = .ok v H' n' → (H' = H ∧ n' = n) ∨ ∃ p q s d lo hi, H' = hset H n (.poly p q s d lo hi) ∧ n' = n + 1 ∧ n < 16384) → sel b r r' = .ok v H' n' → (H' = H ∧ n' = n) ∨ ∃ p q s d lo hi, H' = hset H n (.poly p q s d lo hi) ∧ n' = n + 1 ∧ n < 16384 := by
    intro b r r' h1 h2 h
    cases b with
    | true => exact h1 h
    | false => exact h2 h
  have bad : ∀ {q : Nat}, OR.bad q = .ok v H' n' → (H' = H ∧ n' = n) ∨ ∃ p q s d lo hi, H' = hset H n (.poly p q s d lo hi) ∧ n' = n + 1 ∧ n < 16384 := fun h => by cases h
  cases op <;> simp only at h
  case add => exact two np np h
  case sub => exact two np np h
  case mul => exact two np bad h
  case eql => exact two same (two same bad) h
  case neq => exact two same (two same bad) h
  case lss => exact two same (two same bad) h
  case leq => exact two same (two same bad) h
  case gtr => exact two same (two same bad) h
  case geq => exact two same (two same bad) h
  all_goals cases h

theorem VR.poly_inv {x : Nat} {u : Value} (h : VR ρ L x u) (h2 : tagOf x = 7) (hk : xKind (payOf x) = 0) :
    ∃ p q s d lo hi z, L (xNum (payOf x)) = some (.poly p q s d lo hi) ∧ PolyZ p q s d lo hi z ∧ u = .int .i64 z := by
  cases h with
  | poly id p q s d lo hi z hL hz =>
    have hp : payOf (polyW id) = 16 + 4 * id := by
      show (16 * (16 + 4 * id) + 7) / 16 = _
      omega
    have hn : xNum (payOf (polyW id)) = id := by rw [hp]; show (16 + 4 * id - 16) / 4 = id; omega
    rw [hn]
    exact ⟨p, q, s, d, lo, hi, z, hL, hz, rfl⟩
  | int p hp => rw [tag_wI] at h2; cases h2
  | bool b => rw [tag_wB] at h2; cases h2
  | ptr => rw [tag_wP] at h2; cases h2
  | slice => rw [tag_wS] at h2; cases h2
  | agg => rw [tag_mk6] at h2; cases h2
  | tup => rw [tag_mk6] at h2; cases h2
  | clo => rw [tag_mk10] at h2; cases h2
  | fn => rw [tag_mk8] at h2; cases h2
  | yld => rw [tag_mk13] at h2; cases h2
  | var => rw [tag_wV] at h2; cases h2
  | opq => rw [tag_wO] at h2; cases h2
  | btw => rw [tag_wG] at h2; cases h2
  | u64 => rw [tag_mk5] at h2; cases h2
  | sliceNil => cases h2
  | map b => rw [pay_mapW, xKind_of (by omega)] at hk; omega
  | str s =>
    unfold strW at hk
    rw [payOf_mk 7 _ (by omega)] at hk
    have h4 : Nat.add 19 (Nat.mul 4 (bytesW s.data.toList)) = 19 + 4 * bytesW s.data.toList := rfl
    rw [h4, xKind_of (by omega)] at hk; omega
  | _ => cases hk
theorem pget_sound (c : Ctx base H n ρ L w) {x : Nat} {vx : Value} (hx : VR ρ L x vx) {k : Nat → Nat → Nat → Nat → Nat → Nat → OR} {H1 : Trie} {n1 : Nat} (h : pget H x k = .ok v H1 n1) :
    ∃ p q s d lo hi z, vx = .int .i64 z ∧ PolyZ p q s d lo hi z ∧ k p q s d lo hi = .ok v H1 n1 := by
  unfold pget at h
  rw [sel_beq] at h
  split at h
  · rename_i h1
    obtain ⟨a, ha, _, hpa, hv⟩ := hx.int_inv h1
    rw [hpa] at h
    rw [sel_ltb] at h
    split at h
    · rename_i hlt
      refine ⟨_, _, _, _, _, _, sInt a, hv, ?_, h⟩
      have hs : sInt a = (a : Int) := by unfold sInt; rw [if_pos hlt]
      have e1 : Nat.add a 9223372036854775808 = a + 9223372036854775808 := rfl
      rw [hs, e1]
      exact ⟨by omega, by omega, by omega, by omega, (a : Int), .const _ (by omega) (by omega), by omega⟩
    · rename_i hlt
      refine ⟨_, _, _, _, _, _, sInt a, hv, ?_, h⟩
      have hs : sInt a = (a : Int) - 18446744073709551616 := by unfold sInt; rw [if_neg hlt]
      have e1 : Nat.sub a 9223372036854775808 = a - 9223372036854775808 := rfl
      have e2 : Nat.sub 18446744073709551616 a = 18446744073709551616 - a := rfl
      rw [hs, e1, e2]
      exact ⟨by omega, by omega, by omega, by omega, (a : Int) - 18446744073709551616, .const _ (by omega) (by omega), by omega⟩
  · rw [sel_beq] at h
    split at h
    · rename_i h12
      rw [sel_eq] at h
      split at h
      · rename_i hg
        obtain ⟨j, lo, hi, q1, q2, q3, q4, rfl, rfl⟩ := hx.var_inv h12
        obtain ⟨e1, e2, e3⟩ := v_parts j lo hi q1 q2
        rw [e3, sel_ble] at hg
        rw [e1, e2, e3] at h
        split at hg
        · rename_i hj
          have hj8 := (ltb_iff _ _).1 hg
          have es : Nat.sub j 2199023255552 = j - 2199023255552 := rfl
          rw [es] at h hj8
          refine ⟨_, _, _, _, _, _, E.int j, rfl, ?_, h⟩
          have hw := E.wf j
          have hjx : pvIx (j - 2199023255552) = j := by show 2199023255552 + (j - 2199023255552) = j; omega
          have a1 : Nat.add lo 9223371487098961920 = lo + 9223371487098961920 := rfl
          have a2 : Nat.add hi 9223371487098961920 = hi + 9223371487098961920 := rfl
          have hP := PolyR.var (x := fun i => E.int (pvIx i)) hj8
          simp only [hjx] at hP
          rw [sel_beq, sel_beq, a1, a2]
          refine ⟨by split <;> omega, by split <;> omega, by split <;> omega, by split <;> omega, E.int j, hP, by omega⟩
        · cases hg
      · cases h
    · rw [sel_eq] at h
      split at h
      · rename_i hg
        rw [sel_beq] at hg
        split at hg
        · rename_i h7
          have hk := Nat.eq_of_beq_eq_true hg
          split at h
          · rename_i p q s d lo hi hget
            have hL := c.agree.2 _ _ hget
            obtain ⟨p', q', s', d', lo', hi', z, hL', hz, rfl⟩ := hx.poly_inv h7 hk
            rw [hL] at hL'
            injection hL' with hL'
            injection hL' with a1 a2 a3 a4 a5 a6
            subst a1; subst a2; subst a3; subst a4; subst a5; subst a6
            exact ⟨_, _, _, _, _, _, z, rfl, hz, h⟩
          · cases h
        · cases hg
      · cases h

theorem wrap64_of (z : Int) : ∃ u : Int, IntKind.wrap .i64 z = u ∧ -9223372036854775808 ≤ u ∧ u < 9223372036854775808 ∧ (u - z) % 18446744073709551616 = 0 := by
  refine ⟨sInt (uInt z), wrap_sInt z, ?_, ?_, ?_⟩ <;> unfold sInt uInt <;> split <;> omega
theorem calm_poly {p q s d lo hi : Nat} {z : Int} (hz : PolyZ p q s d lo hi z) (h : newPoly p q s d lo hi H n = .ok v H' n') (hR : R (.int .i64 z) w) : CalmD ρ L H n w v H' n' R := by
  obtain ⟨h1, h2, h3, h4⟩ := newPoly_inv h
  exact ⟨.int .i64 z, .inr ⟨.poly p q s d lo hi, trivial, h3, h4, h1, h2, fun ρ' L' id e hL => .poly id p q s d lo hi z hL hz⟩, hR⟩

theorem polyBin_calm (c : Ctx base H n ρ L w) {op : BinOp} {t : TypeId} {x y : Nat} {vx vy : Value} (hx : VR ρ L x vx) (hy : VR ρ L y vy) (h : polyBin op x y H n = .ok v H' n') :
    ∃ zx zy, vx = .int .i64 zx ∧ vy = .int .i64 zy ∧ CalmD ρ L H n w v H' n' (fun r w' => (binOp op t vx vy : Sem Value).run P w' = .ok r w') := by
  unfold polyBin at h
  obtain ⟨p, q, s, d, lo, hi, zx, rfl, X, h⟩ := pget_sound c hx h
  obtain ⟨p', q', s', d', lo', hi', zy, rfl, Y, h⟩ := pget_sound c hy h
  refine ⟨zx, zy, rfl, rfl, ?_⟩
  obtain ⟨x1, x2, x3, x4, ux, X5, x6⟩ := X
  obtain ⟨y1, y2, y3, y4, uy, Y5, y6⟩ := Y
  have mx1 : d ≤ mxN d d' := by unfold mxN; rw [sel_ble]; split <;> omega
  have mx2 : d' ≤ mxN d d' := by unfold mxN; rw [sel_ble]; split <;> omega
  have bool : ∀ {k : Nat} {b : Bool}, k = wB b → OR.ok k H n = .ok v H' n' → (∀ w : World, (binOp op t (.int .i64 zx) (.int .i64 zy) : Sem Value).run P w = .ok (.bool b) w) → CalmD ρ L H n w v H' n' (fun r w' => (binOp op t (.int .i64 zx) (.int .i64 zy) : Sem Value).run P w' = .ok r w') := by
    intro k b hk h hr
    injection h with e1 e2 e3
    subst e1; subst e2; subst e3; subst hk
    exact .pure c (.bool b) (hr w)
  have addZ : PolyR (fun i => E.int (pvIx i)) (p + p') (q + q') (s + s') (mxN d d') (ux + uy) := X5.add Y5 mx1 mx2
  have subZ : PolyR (fun i => E.int (pvIx i)) (p + q') (q + p') (s + s') (mxN d d') (ux + -uy) := X5.add Y5.neg mx1 mx2
  cases op <;> simp only at h <;> try cases h
  case add =>
    obtain ⟨u, hu, u1, u2, u3⟩ := wrap64_of (zx + zy)
    have run : ∀ w : World, (binOp .add t (.int .i64 zx) (.int .i64 zy) : Sem Value).run P w = .ok (.int .i64 u) w := fun w => by simp [binOp, Op.intArith, hu]
    rw [sel_eq] at h
    split at h
    · rename_i hg
      rw [sel_ble] at hg
      split at hg
      · rename_i g1
        have g2 := (ltb_iff _ _).1 hg
        have a1 : Nat.add lo lo' = lo + lo' := rfl
        have a2 : Nat.add hi hi' = hi + hi' := rfl
        have a3 : ∀ a b, Nat.sub a b = a - b := fun _ _ => rfl
        rw [a1] at g1 h; rw [a2] at g2 h; rw [a3, a3] at h
        refine calm_poly ⟨by omega, by omega, ?_, ?_, ux + uy, addZ, by omega⟩ h (run w) <;> omega
      · cases hg
    · exact calm_poly ⟨by omega, by omega, by omega, by omega, ux + uy, addZ, by omega⟩ h (run w)
  case sub =>
    obtain ⟨u, hu, u1, u2, u3⟩ := wrap64_of (zx - zy)
    have run : ∀ w : World, (binOp .sub t (.int .i64 zx) (.int .i64 zy) : Sem Value).run P w = .ok (.int .i64 u) w := fun w => by simp [binOp, Op.intArith, hu]
    rw [sel_eq] at h
    split at h
    · rename_i hg
      rw [sel_ble] at hg
      split at hg
      · rename_i g1
        have g2 := (ltb_iff _ _).1 hg
        have a1 : Nat.add lo 9223372036854775808 = lo + 9223372036854775808 := rfl
        have a2 : Nat.add lo' 9223372036854775808 = lo' + 9223372036854775808 := rfl
        have a4 : Nat.add hi 9223372036854775808 = hi + 9223372036854775808 := rfl
        have a3 : ∀ a b, Nat.sub a b = a - b := fun _ _ => rfl
        rw [a1] at g1 h; rw [a2] at g2; rw [a4] at h; rw [a3, a3] at h
        refine calm_poly ⟨by omega, by omega, ?_, ?_, ux + -uy, subZ, by omega⟩ h (run w) <;> omega
      · cases hg
    · exact calm_poly ⟨by omega, by omega, by omega, by omega, ux + -uy, subZ, by omega⟩ h (run w)
  case mul =>
    obtain ⟨u, hu, u1, u2, u3⟩ := wrap64_of (zx * zy)
    have run : ∀ w : World, (binOp .mul t (.int .i64 zx) (.int .i64 zy) : Sem Value).run P w = .ok (.int .i64 u) w := fun w => by simp [binOp, Op.intArith, hu]
    rw [sel_ltb] at h
    split at h
    · rename_i hd
      have hmul : (zx * zy - ux * uy) % 18446744073709551616 = 0 := by
        have e : zx * zy - ux * uy = (zx - ux) * zy + ux * (zy - uy) := by
          rw [Int.sub_mul, Int.mul_sub]; omega
        rw [e]
        obtain ⟨a, ha⟩ := Int.dvd_of_emod_eq_zero x6
        obtain ⟨b, hb⟩ := Int.dvd_of_emod_eq_zero y6
        rw [ha, hb, Int.mul_assoc, Int.mul_left_comm ux]
        omega
      exact calm_poly ⟨by omega, by omega, by omega, by omega, ux * uy, X5.mul Y5 hd, by omega⟩ h (run w)
    · cases h
  case eql =>
    rw [sel_eq] at h
    split at h
    · rename_i hg
      rw [sel_beq] at hg
      split at hg
      · rename_i e
        have hs := (ltb_iff _ _).1 hg
        have := PolyR.same X5 Y5 hs e
        exact bool (b := true) rfl h (fun w => by simp [binOp, Op.intCmp]; omega)
      · cases hg
    · rw [sel_eq] at h
      split at h
      · rename_i hg
        have hne : hi < lo' ∨ hi' < lo := by
          rw [sel_ltb] at hg
          split at hg
          · exact .inl (by assumption)
          · exact .inr ((ltb_iff _ _).1 hg)
        exact bool (b := false) rfl h (fun w => by simp [binOp, Op.intCmp]; omega)
      · cases h
  case neq =>
    rw [sel_eq] at h
    split at h
    · rename_i hg
      rw [sel_beq] at hg
      split at hg
      · rename_i e
        have hs := (ltb_iff _ _).1 hg
        have := PolyR.same X5 Y5 hs e
        exact bool (b := false) rfl h (fun w => by simp [binOp, Op.intCmp]; omega)
      · cases hg
    · rw [sel_eq] at h
      split at h
      · rename_i hg
        have hne : hi < lo' ∨ hi' < lo := by
          rw [sel_ltb] at hg
          split at hg
          · exact .inl (by assumption)
          · exact .inr ((ltb_iff _ _).1 hg)
        exact bool (b := true) rfl h (fun w => by simp [binOp, Op.intCmp]; omega)
      · cases h
  case lss =>
    rw [sel_ltb] at h
    split at h
    · exact bool (b := true) rfl h (fun w => by simp [binOp, Op.intCmp]; omega)
    · rw [sel_ble] at h
      split at h
      · exact bool (b := false) rfl h (fun w => by simp [binOp, Op.intCmp]; omega)
      · cases h
  case geq =>
    rw [sel_ltb] at h
    split at h
    · exact bool (b := false) rfl h (fun w => by simp [binOp, Op.intCmp]; omega)
    · rw [sel_ble] at h
      split at h
      · exact bool (b := true) rfl h (fun w => by simp [binOp, Op.intCmp]; omega)
      · cases h
  case gtr =>
    rw [sel_ltb] at h
    split at h
    · exact bool (b := true) rfl h (fun w => by simp [binOp, Op.intCmp]; omega)
    · rw [sel_ble] at h
      split at h
      · exact bool (b := false) rfl h (fun w => by simp [binOp, Op.intCmp]; omega)
      · cases h
  case leq =>
    rw [sel_ltb] at h
    split at h
    · exact bool (b := false) rfl h (fun w => by simp [binOp, Op.intCmp]; omega)
    · rw [sel_ble] at h
      split at h
      · exact bool (b := true) rfl h (fun w => by simp [binOp, Op.intCmp]; omega)
      · cases h

/-! ### texts -/
theorem bytesW_inj : ∀ {a b : List UInt8}, bytesW a = bytesW b → a = b
  | [], [], _ => rfl
  | [], y :: b, h => by
    have e : bytesW (y :: b) = y.toNat + 256 * bytesW b := rfl
    have e0 : bytesW [] = 1 := rfl
    have hp : ∀ l : List UInt8, 1 ≤ bytesW l := fun l => by
      induction l with
      | nil => exact Nat.le_refl _
      | cons x l ih => have : bytesW (x :: l) = x.toNat + 256 * bytesW l := rfl; omega
    have := hp b
    omega
  | x :: a, [], h => by
    have e : bytesW (x :: a) = x.toNat + 256 * bytesW a := rfl
    have e0 : bytesW [] = 1 := rfl
    have hp : ∀ l : List UInt8, 1 ≤ bytesW l := fun l => by
      induction l with
      | nil => exact Nat.le_refl _
      | cons x l ih => have : bytesW (x :: l) = x.toNat + 256 * bytesW l := rfl; omega
    have := hp a
    omega
  | x :: a, y :: b, h => by
    have e : bytesW (x :: a) = x.toNat + 256 * bytesW a := rfl
    have e2 : bytesW (y :: b) = y.toNat + 256 * bytesW b := rfl
    have hx := x.toNat_lt
    have hy := y.toNat_lt
    rw [e, e2] at h
    have h1 : x.toNat = y.toNat := by omega
    have h2 : bytesW a = bytesW b := by omega
    rw [bytesW_inj h2, UInt8.toNat_inj.1 h1]
theorem strW_inj {a b : ByteArray} (h : strW a = strW b) : a = b := by
  have h1 : 16 * (19 + 4 * bytesW a.data.toList) + 7 = 16 * (19 + 4 * bytesW b.data.toList) + 7 := h
  have h2 : bytesW a.data.toList = bytesW b.data.toList := by omega
  exact WideShapes.bytes_inj (bytesW_inj h2)
theorem VR.str_inv {x : Nat} {u : Value} (h : VR ρ L x u) (hx : isStr x = true) : ∃ s, x = strW s ∧ u = .string s := by
  unfold isStr at hx
  rw [sel_beq] at hx
  split at hx
  · rename_i h2
    have hk := Nat.eq_of_beq_eq_true hx
    cases h with
    | str s => exact ⟨s, rfl, rfl⟩
    | int p hp => rw [tag_wI] at h2; cases h2
    | bool b => rw [tag_wB] at h2; cases h2
    | ptr => rw [tag_wP] at h2; cases h2
    | slice => rw [tag_wS] at h2; cases h2
    | agg => rw [tag_mk6] at h2; cases h2
    | tup => rw [tag_mk6] at h2; cases h2
    | clo => rw [tag_mk10] at h2; cases h2
    | fn => rw [tag_mk8] at h2; cases h2
    | yld => rw [tag_mk13] at h2; cases h2
    | var => rw [tag_wV] at h2; cases h2
    | opq => rw [tag_wO] at h2; cases h2
    | btw => rw [tag_wG] at h2; cases h2
    | u64 => rw [tag_mk5] at h2; cases h2
    | map b => rw [pay_mapW, xKind_of (by omega)] at hk; omega
    | poly id =>
      unfold polyW at hk
      rw [payOf_mk 7 _ (by omega)] at hk
      have h4 : Nat.add 16 (Nat.mul 4 id) = 16 + 4 * id := rfl
      rw [h4, xKind_of (by omega)] at hk; omega
    | _ => cases hk
  · cases hx
theorem binS_sound {op : BinOp} {t : TypeId} {x y : Nat} {vx vy : Value} (hx : VR ρ L x vx) (hy : VR ρ L y vy) (h1 : isStr x = true) (h2 : isStr y = true) (h : tagOf (binS op x y) ≠ 15) :
    ∃ a b r, vx = .string a ∧ vy = .string b ∧ VR ρ L (binS op x y) r ∧ (binOp op t vx vy).run P w = .ok r w := by
  obtain ⟨a, rfl, rfl⟩ := hx.str_inv h1
  obtain ⟨b, rfl, rfl⟩ := hy.str_inv h2
  have key : Nat.beq (strW a) (strW b) = (a.toList == b.toList) := by
    by_cases hab : a = b
    · subst hab; simp
    · have h3 : Nat.beq (strW a) (strW b) = false := by
        cases hq : Nat.beq (strW a) (strW b) with
        | false => rfl
        | true => exact absurd (strW_inj (Nat.eq_of_beq_eq_true hq)) hab
      rw [h3]
      cases hq : (a.toList == b.toList) with
      | false => rfl
      | true =>
        have := eq_of_beq hq
        rw [ByteArray.toList_eq, ByteArray.toList_eq] at this
        exact absurd (WideShapes.bytes_inj this) hab
  refine ⟨a, b, ?_⟩
  unfold binS at h ⊢
  cases op <;> first | exact absurd rfl h | skip
  case eql => exact ⟨_, rfl, rfl, .bool _, by rw [key, binOp_string_eql]; rfl⟩
  case neq =>
    refine ⟨_, rfl, rfl, .bool _, ?_⟩
    have : sel (Nat.beq (strW a) (strW b)) false true = !(a.toList == b.toList) := by rw [← key]; cases Nat.beq (strW a) (strW b) <;> rfl
    rw [this, binOp_string_neq]; rfl
end
end Go.Eng
