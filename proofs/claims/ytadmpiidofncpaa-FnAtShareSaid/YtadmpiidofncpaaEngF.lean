/- Part of the evaluator: F. -/
import Derived.Test.YtadmpiidofncpaaEngE

/- Operations on values: the evaluator's words stand for what the model computes. -/
namespace Go.Eng
set_option linter.unusedSectionVars false
set_option linter.unusedSimpArgs false
set_option linter.unusedVariables false
open Go Go.RowKit
variable [E : Env]

/-! ### what a word's tag tells of the value -/
theorem tag_bad : tagOf badW = 15 := rfl
theorem tag_wI (p : Nat) : tagOf (wI p) = 1 := tagOf_mk 1 p (by omega)
theorem pay_wI (p : Nat) : payOf (wI p) = p := payOf_mk 1 p (by omega)
theorem tag_wB (b : Bool) : tagOf (wB b) = 2 := by cases b <;> rfl
theorem tag_wP (b o : Nat) : tagOf (wP b o) = 3 := tagOf_mk 3 _ (by omega)
theorem tag_wS (b e o n k : Nat) : tagOf (wS b e o n k) = 4 := tagOf_mk 4 _ (by omega)
theorem tag_mk6 (p : Nat) : tagOf (mk 6 p) = 6 := tagOf_mk 6 p (by omega)
theorem tag_mk8 (p : Nat) : tagOf (mk 8 p) = 8 := tagOf_mk 8 p (by omega)
theorem tag_mk10 (p : Nat) : tagOf (mk 10 p) = 10 := tagOf_mk 10 p (by omega)
theorem tag_mk13 (p : Nat) : tagOf (mk 13 p) = 13 := tagOf_mk 13 p (by omega)
theorem tag_wV (j lo hi : Nat) : tagOf (wV j lo hi) = 12 := tagOf_mk 12 _ (by omega)
theorem tag_wO (b j lo hi : Nat) : tagOf (wO b j lo hi) = 11 := tagOf_mk 11 _ (by omega)
theorem tag_wG (t u : Nat) : tagOf (wG t u) = 9 := tagOf_mk 9 _ (by omega)
theorem tag_mk5 (p : Nat) : tagOf (mk 5 p) = 5 := tagOf_mk 5 p (by omega)
theorem tag_mk7 (p : Nat) : tagOf (mk 7 p) = 7 := tagOf_mk 7 p (by omega)
theorem tag_mk15 (q : Nat) : tagOf (mk 15 q) = 15 := tagOf_mk 15 _ (by omega)
theorem v_parts (j lo hi : Nat) (h1 : lo < 1099511627776) (h2 : hi < 1099511627776) : vHi (payOf (wV j lo hi)) = hi ∧ vLo (payOf (wV j lo hi)) = lo ∧ vIx (payOf (wV j lo hi)) = j := by
  have hp : payOf (wV j lo hi) = 1099511627776 * (1099511627776 * j + lo) + hi := payOf_mk 12 _ (by omega)
  refine ⟨?_, ?_, ?_⟩ <;> rw [hp]
  · show _ % 1099511627776 = _; omega
  · show _ / 1099511627776 % 1099511627776 = _; omega
  · show _ / 1208925819614629174706176 = _; omega
theorem o_parts (b j lo hi : Nat) (h0 : j < 1048576) (h1 : lo < 4194304) (h2 : hi < 4194304) : oHi (payOf (wO b j lo hi)) = hi ∧ oLo (payOf (wO b j lo hi)) = lo ∧ oIx (payOf (wO b j lo hi)) = j ∧ oBlk (payOf (wO b j lo hi)) = b := by
  have hp : payOf (wO b j lo hi) = 4194304 * (4194304 * (1048576 * b + j) + lo) + hi := payOf_mk 11 _ (by omega)
  refine ⟨?_, ?_, ?_, ?_⟩ <;> rw [hp]
  · show _ % 4194304 = _; omega
  · show _ / 4194304 % 4194304 = _; omega
  · show _ / 17592186044416 % 1048576 = _; omega
  · show _ / 18446744073709551616 = _; omega

section
variable {ρ : Rho} {L : Look} {w : Nat} {v : Value}

theorem VR.int_inv (h : VR ρ L w v) (ht : tagOf w = 1) : ∃ p, p < 18446744073709551616 ∧ w = wI p ∧ payOf w = p ∧ v = .int .i64 (sInt p) := by
  cases h with
  | int p hp => exact ⟨p, hp, rfl, pay_wI p, rfl⟩
  | bool b => rw [tag_wB] at ht; cases ht
  | ptr => rw [tag_wP] at ht; cases ht
  | slice => rw [tag_wS] at ht; cases ht
  | agg => rw [tag_mk6] at ht; cases ht
  | tup => rw [tag_mk6] at ht; cases ht
  | clo => rw [tag_mk10] at ht; cases ht
  | iface => rw [tag_mk10] at ht; cases ht
  | chan => rw [tag_mk10] at ht; cases ht
  | fn => rw [tag_mk8] at ht; cases ht
  | yld => rw [tag_mk13] at ht; cases ht
  | var => rw [tag_wV] at ht; cases ht
  | opq => rw [tag_wO] at ht; cases ht
  | btw => rw [tag_wG] at ht; cases ht
  | u64 => rw [tag_mk5] at ht; cases ht
  | map => unfold mapW at ht; rw [tag_mk7] at ht; cases ht
  | str => unfold strW at ht; rw [tag_mk7] at ht; cases ht
  | ostr => unfold ostrW at ht; rw [tag_mk7] at ht; cases ht
  | poly => unfold polyW at ht; rw [tag_mk7] at ht; cases ht
  | _ => cases ht

theorem VR.bool_inv (h : VR ρ L w v) (ht : tagOf w = 2) : ∃ b, w = wB b ∧ v = .bool b := by
  cases h with
  | int p hp => rw [tag_wI] at ht; cases ht
  | bool b => exact ⟨b, rfl, rfl⟩
  | ptr => rw [tag_wP] at ht; cases ht
  | slice => rw [tag_wS] at ht; cases ht
  | agg => rw [tag_mk6] at ht; cases ht
  | tup => rw [tag_mk6] at ht; cases ht
  | clo => rw [tag_mk10] at ht; cases ht
  | iface => rw [tag_mk10] at ht; cases ht
  | chan => rw [tag_mk10] at ht; cases ht
  | fn => rw [tag_mk8] at ht; cases ht
  | yld => rw [tag_mk13] at ht; cases ht
  | var => rw [tag_wV] at ht; cases ht
  | opq => rw [tag_wO] at ht; cases ht
  | btw => rw [tag_wG] at ht; cases ht
  | u64 => rw [tag_mk5] at ht; cases ht
  | map => unfold mapW at ht; rw [tag_mk7] at ht; cases ht
  | str => unfold strW at ht; rw [tag_mk7] at ht; cases ht
  | ostr => unfold ostrW at ht; rw [tag_mk7] at ht; cases ht
  | poly => unfold polyW at ht; rw [tag_mk7] at ht; cases ht
  | _ => cases ht
theorem VR.true_inv (h : VR ρ L 18 v) : v = .bool true := by
  obtain ⟨b, hb, rfl⟩ := h.bool_inv rfl
  cases b
  · exact absurd hb (by decide)
  · rfl
theorem VR.false_inv (h : VR ρ L 2 v) : v = .bool false := by
  obtain ⟨b, hb, rfl⟩ := h.bool_inv rfl
  cases b
  · rfl
  · exact absurd hb (by decide)

theorem VR.ptr_inv (h : VR ρ L w v) (ht : tagOf w = 3) : (w = 3 ∧ v = .pointer none) ∨
    ∃ b o rb d sz, ρ b = some (rb, d, sz) ∧ o < 1048576 ∧ w = wP b o ∧ v = .pointer (some ⟨rb, d + o, none⟩) := by
  cases h with
  | int p hp => rw [tag_wI] at ht; cases ht
  | bool b => rw [tag_wB] at ht; cases ht
  | ptrNil => exact .inl ⟨rfl, rfl⟩
  | ptr b o rb d sz h1 h2 => exact .inr ⟨b, o, rb, d, sz, h1, h2, rfl, rfl⟩
  | slice => rw [tag_wS] at ht; cases ht
  | agg => rw [tag_mk6] at ht; cases ht
  | tup => rw [tag_mk6] at ht; cases ht
  | clo => rw [tag_mk10] at ht; cases ht
  | iface => rw [tag_mk10] at ht; cases ht
  | chan => rw [tag_mk10] at ht; cases ht
  | fn => rw [tag_mk8] at ht; cases ht
  | yld => rw [tag_mk13] at ht; cases ht
  | var => rw [tag_wV] at ht; cases ht
  | opq => rw [tag_wO] at ht; cases ht
  | btw => rw [tag_wG] at ht; cases ht
  | u64 => rw [tag_mk5] at ht; cases ht
  | map => unfold mapW at ht; rw [tag_mk7] at ht; cases ht
  | str => unfold strW at ht; rw [tag_mk7] at ht; cases ht
  | ostr => unfold ostrW at ht; rw [tag_mk7] at ht; cases ht
  | poly => unfold polyW at ht; rw [tag_mk7] at ht; cases ht
  | _ => cases ht

theorem VR.slice_inv (h : VR ρ L w v) (ht : tagOf w = 4) : (w = sNil ∧ v = .slice none 0 0) ∨
    ∃ b e o n k rb d sz c a, ρ b = some (rb, d, sz) ∧ e < 256 ∧ o < 1048576 ∧ n < 1048576 ∧ k < 1048576 ∧ n ≤ c ∧ c < 9223372036854775808 ∧ (k = 0 ∨ k = c + 1) ∧
      (c = 0 ∨ (a = (⟨rb, d + o, none⟩ : Addr) ∧ o + c * e ≤ sz)) ∧ w = wS b e o n k ∧ v = .slice (some a) n c := by
  cases h with
  | int p hp => rw [tag_wI] at ht; cases ht
  | bool b => rw [tag_wB] at ht; cases ht
  | ptr => rw [tag_wP] at ht; cases ht
  | sliceNil => exact .inl ⟨rfl, rfl⟩
  | slice b e o n k rb d sz c a h1 h2 h3 h4 h5 h6 h66 h7 h8 => exact .inr ⟨b, e, o, n, k, rb, d, sz, c, a, h1, h2, h3, h4, h5, h6, h66, h7, h8, rfl, rfl⟩
  | agg => rw [tag_mk6] at ht; cases ht
  | tup => rw [tag_mk6] at ht; cases ht
  | clo => rw [tag_mk10] at ht; cases ht
  | iface => rw [tag_mk10] at ht; cases ht
  | chan => rw [tag_mk10] at ht; cases ht
  | fn => rw [tag_mk8] at ht; cases ht
  | yld => rw [tag_mk13] at ht; cases ht
  | var => rw [tag_wV] at ht; cases ht
  | opq => rw [tag_wO] at ht; cases ht
  | btw => rw [tag_wG] at ht; cases ht
  | u64 => rw [tag_mk5] at ht; cases ht
  | map => unfold mapW at ht; rw [tag_mk7] at ht; cases ht
  | str => unfold strW at ht; rw [tag_mk7] at ht; cases ht
  | ostr => unfold ostrW at ht; rw [tag_mk7] at ht; cases ht
  | poly => unfold polyW at ht; rw [tag_mk7] at ht; cases ht
  | _ => cases ht

theorem VR.box_inv (h : VR ρ L w v) (ht : tagOf w = 6) : ∃ id kd m c vs, w = mk 6 id ∧ payOf w = id ∧ L id = some (.box kd m c) ∧ ((kd = 0 ∧ v = .agg vs) ∨ (kd = 1 ∧ v = .tuple vs)) ∧
    vs.size = m ∧ ∀ i (h : i < vs.size), VR ρ L (getW c i) vs[i] := by
  cases h with
  | int p hp => rw [tag_wI] at ht; cases ht
  | bool b => rw [tag_wB] at ht; cases ht
  | ptr => rw [tag_wP] at ht; cases ht
  | slice => rw [tag_wS] at ht; cases ht
  | agg id m c vs h1 h2 h3 h4 h5 => exact ⟨id, 0, m, c, vs, rfl, payOf_mk 6 id (by omega), h1, .inl ⟨rfl, rfl⟩, h2, h3⟩
  | tup id m c vs h1 h2 h3 => exact ⟨id, 1, m, c, vs, rfl, payOf_mk 6 id (by omega), h1, .inr ⟨rfl, rfl⟩, h2, h3⟩
  | clo => rw [tag_mk10] at ht; cases ht
  | iface => rw [tag_mk10] at ht; cases ht
  | chan => rw [tag_mk10] at ht; cases ht
  | fn => rw [tag_mk8] at ht; cases ht
  | yld => rw [tag_mk13] at ht; cases ht
  | var => rw [tag_wV] at ht; cases ht
  | opq => rw [tag_wO] at ht; cases ht
  | btw => rw [tag_wG] at ht; cases ht
  | u64 => rw [tag_mk5] at ht; cases ht
  | map => unfold mapW at ht; rw [tag_mk7] at ht; cases ht
  | str => unfold strW at ht; rw [tag_mk7] at ht; cases ht
  | ostr => unfold ostrW at ht; rw [tag_mk7] at ht; cases ht
  | poly => unfold polyW at ht; rw [tag_mk7] at ht; cases ht
  | _ => cases ht

/-- A struct or an array. -/
theorem VR.agg_inv {m c : Nat} (h : VR ρ L w v) (ht : tagOf w = 6) (hL : L (payOf w) = some (.box 0 m c)) : ∃ vs, v = .agg vs ∧ CellsR ρ L m c vs := by
  cases h with
  | int p hp => rw [tag_wI] at ht; cases ht
  | bool b => rw [tag_wB] at ht; cases ht
  | ptr => rw [tag_wP] at ht; cases ht
  | slice => rw [tag_wS] at ht; cases ht
  | agg id m' c' vs h1 h2 h3 h4 h5 =>
    rw [payOf_mk 6 id (by omega), h1] at hL
    injection hL with hL; injection hL with _ e1 e2
    subst e1; subst e2
    exact ⟨vs, rfl, h2, h4, fun i hi => ⟨vs[i]'(by rw [h2]; exact hi), by simp [h2, hi], h3 i (by rw [h2]; exact hi), h5 i hi⟩⟩
  | tup id m' c' vs h1 h2 h3 =>
    rw [payOf_mk 6 id (by omega), h1] at hL
    injection hL with hL; injection hL with e0
    cases e0
  | clo => rw [tag_mk10] at ht; cases ht
  | iface => rw [tag_mk10] at ht; cases ht
  | chan => rw [tag_mk10] at ht; cases ht
  | fn => rw [tag_mk8] at ht; cases ht
  | yld => rw [tag_mk13] at ht; cases ht
  | var => rw [tag_wV] at ht; cases ht
  | opq => rw [tag_wO] at ht; cases ht
  | btw => rw [tag_wG] at ht; cases ht
  | u64 => rw [tag_mk5] at ht; cases ht
  | map => unfold mapW at ht; rw [tag_mk7] at ht; cases ht
  | str => unfold strW at ht; rw [tag_mk7] at ht; cases ht
  | ostr => unfold ostrW at ht; rw [tag_mk7] at ht; cases ht
  | poly => unfold polyW at ht; rw [tag_mk7] at ht; cases ht
  | _ => cases ht

theorem VR.fn_inv (h : VR ρ L w v) (ht : tagOf w = 8) : v = .func (.func (payOf w)) #[] #[] := by
  cases h with
  | int p hp => rw [tag_wI] at ht; cases ht
  | bool b => rw [tag_wB] at ht; cases ht
  | ptr => rw [tag_wP] at ht; cases ht
  | slice => rw [tag_wS] at ht; cases ht
  | agg => rw [tag_mk6] at ht; cases ht
  | tup => rw [tag_mk6] at ht; cases ht
  | clo => rw [tag_mk10] at ht; cases ht
  | iface => rw [tag_mk10] at ht; cases ht
  | chan => rw [tag_mk10] at ht; cases ht
  | fn f => rw [payOf_mk 8 f (by omega)]
  | yld => rw [tag_mk13] at ht; cases ht
  | var => rw [tag_wV] at ht; cases ht
  | opq => rw [tag_wO] at ht; cases ht
  | btw => rw [tag_wG] at ht; cases ht
  | u64 => rw [tag_mk5] at ht; cases ht
  | map => unfold mapW at ht; rw [tag_mk7] at ht; cases ht
  | str => unfold strW at ht; rw [tag_mk7] at ht; cases ht
  | ostr => unfold ostrW at ht; rw [tag_mk7] at ht; cases ht
  | poly => unfold polyW at ht; rw [tag_mk7] at ht; cases ht
  | _ => cases ht

theorem VR.yld_inv (h : VR ρ L w v) (ht : tagOf w = 13) : ∃ rb d sz, ρ (payOf w) = some (rb, d, sz) ∧ v = .func (.yield rb) #[] #[] := by
  cases h with
  | int p hp => rw [tag_wI] at ht; cases ht
  | bool b => rw [tag_wB] at ht; cases ht
  | ptr => rw [tag_wP] at ht; cases ht
  | slice => rw [tag_wS] at ht; cases ht
  | agg => rw [tag_mk6] at ht; cases ht
  | tup => rw [tag_mk6] at ht; cases ht
  | clo => rw [tag_mk10] at ht; cases ht
  | iface => rw [tag_mk10] at ht; cases ht
  | chan => rw [tag_mk10] at ht; cases ht
  | fn f => rw [tag_mk8] at ht; cases ht
  | yld l rb d sz h1 => exact ⟨rb, d, sz, by rw [payOf_mk 13 l (by omega)]; exact h1, rfl⟩
  | var => rw [tag_wV] at ht; cases ht
  | opq => rw [tag_wO] at ht; cases ht
  | btw => rw [tag_wG] at ht; cases ht
  | u64 => rw [tag_mk5] at ht; cases ht
  | map => unfold mapW at ht; rw [tag_mk7] at ht; cases ht
  | str => unfold strW at ht; rw [tag_mk7] at ht; cases ht
  | ostr => unfold ostrW at ht; rw [tag_mk7] at ht; cases ht
  | poly => unfold polyW at ht; rw [tag_mk7] at ht; cases ht
  | _ => cases ht

theorem VR.clo_inv (h : VR ρ L w v) (ht : tagOf w = 10) (hk : ∃ m c, L (payOf w) = some (.box 2 m c)) : ∃ m c vs, L (payOf w) = some (.box 2 m c) ∧ vs.size = m ∧ (∀ i (h : i < vs.size), VR ρ L (getW c (i + 1)) vs[i]) ∧
    v = .func (.func (getW c 0)) #[] vs := by
  cases h with
  | int p hp => rw [tag_wI] at ht; cases ht
  | bool b => rw [tag_wB] at ht; cases ht
  | ptr => rw [tag_wP] at ht; cases ht
  | slice => rw [tag_wS] at ht; cases ht
  | agg => rw [tag_mk6] at ht; cases ht
  | tup => rw [tag_mk6] at ht; cases ht
  | clo id m c f vs h1 h2 h3 h4 => exact ⟨m, c, vs, by rw [payOf_mk 10 id (by omega)]; exact h1, h3, h4, by rw [h2]⟩
  | iface id t c v h1 h2 h3 =>
    obtain ⟨m, c, hk⟩ := hk
    rw [payOf_mk 10 id (by omega), h1] at hk
    injection hk with hk
    injection hk with hk
    omega
  | chan id b rb d sz h1 h2 =>
    obtain ⟨m, c, hk⟩ := hk
    rw [payOf_mk 10 id (by omega), h1] at hk
    injection hk with hk
    injection hk with hk
    omega
  | fn f => rw [tag_mk8] at ht; cases ht
  | yld => rw [tag_mk13] at ht; cases ht
  | var => rw [tag_wV] at ht; cases ht
  | opq => rw [tag_wO] at ht; cases ht
  | btw => rw [tag_wG] at ht; cases ht
  | u64 => rw [tag_mk5] at ht; cases ht
  | map => unfold mapW at ht; rw [tag_mk7] at ht; cases ht
  | str => unfold strW at ht; rw [tag_mk7] at ht; cases ht
  | ostr => unfold ostrW at ht; rw [tag_mk7] at ht; cases ht
  | poly => unfold polyW at ht; rw [tag_mk7] at ht; cases ht
  | _ => cases ht

theorem VR.iface_inv (h : VR ρ L w v) (ht : tagOf w = 10) {t c : Nat} (hk : L (payOf w) = some (.box 3 t c)) : ∃ u, v = .iface t u ∧ VR ρ L c u ∧ c < 340282366920938463463374607431768211456 := by
  cases h with
  | int p hp => rw [tag_wI] at ht; cases ht
  | bool b => rw [tag_wB] at ht; cases ht
  | ptr => rw [tag_wP] at ht; cases ht
  | slice => rw [tag_wS] at ht; cases ht
  | agg => rw [tag_mk6] at ht; cases ht
  | tup => rw [tag_mk6] at ht; cases ht
  | clo id m c f vs h1 h2 h3 h4 =>
    rw [payOf_mk 10 id (by omega), h1] at hk
    injection hk with hk
    injection hk with hk
    omega
  | iface id t c u h1 h2 h3 =>
    rw [payOf_mk 10 id (by omega), h1] at hk
    injection hk with hk
    injection hk with _ e1 e2
    subst e1; subst e2
    exact ⟨u, rfl, h2, h3⟩
  | chan id b rb d sz h1 h2 =>
    rw [payOf_mk 10 id (by omega), h1] at hk
    injection hk with hk
    injection hk with hk
    omega
  | fn f => rw [tag_mk8] at ht; cases ht
  | yld => rw [tag_mk13] at ht; cases ht
  | var => rw [tag_wV] at ht; cases ht
  | opq => rw [tag_wO] at ht; cases ht
  | btw => rw [tag_wG] at ht; cases ht
  | u64 => rw [tag_mk5] at ht; cases ht
  | map => unfold mapW at ht; rw [tag_mk7] at ht; cases ht
  | str => unfold strW at ht; rw [tag_mk7] at ht; cases ht
  | ostr => unfold ostrW at ht; rw [tag_mk7] at ht; cases ht
  | poly => unfold polyW at ht; rw [tag_mk7] at ht; cases ht
  | _ => cases ht

theorem VR.notBad (h : VR ρ L w v) : tagOf w ≠ 15 := by
  cases h with
  | int p hp => rw [tag_wI]; decide
  | bool b => rw [tag_wB]; decide
  | ptr => rw [tag_wP]; decide
  | slice => rw [tag_wS]; decide
  | agg => rw [tag_mk6]; decide
  | tup => rw [tag_mk6]; decide
  | clo => rw [tag_mk10]; decide
  | iface => rw [tag_mk10]; decide
  | chan => rw [tag_mk10]; decide
  | fn f => rw [tag_mk8]; decide
  | yld => rw [tag_mk13]; decide
  | var => rw [tag_wV]; decide
  | opq => rw [tag_wO]; decide
  | btw => rw [tag_wG]; decide
  | u64 => rw [tag_mk5]; decide
  | map => unfold mapW; rw [tag_mk7]; decide
  | str => unfold strW; rw [tag_mk7]; decide
  | ostr => unfold ostrW; rw [tag_mk7]; decide
  | poly => unfold polyW; rw [tag_mk7]; decide
  | _ => decide

theorem storable_iff (w : Nat) : storable w = true ↔ tagOf w ≠ 0 ∧ tagOf w ≠ 6 ∧ tagOf w ≠ 15 ∧ w < 2 ^ 128 := by
  unfold storable
  rw [sel_beq, sel_beq, sel_beq]
  by_cases h0 : tagOf w = 0
  · simp [h0]
  · by_cases h6 : tagOf w = 6
    · simp [h6]
    · by_cases h15 : tagOf w = 15
      · simp [h15]
      · simp only [h0, h6, h15, if_false, ne_eq, not_false_eq_true, true_and]; exact ltb_iff _ _

theorem VR.cell (h : VR ρ L w v) (hs : storable w = true) : v.cells = #[v] ∧ v.oneCell' = true := by
  rw [storable_iff] at hs
  cases h with
  | undef => exact absurd rfl hs.1
  | agg => exact absurd (tag_mk6 _) hs.2.1
  | tup => exact absurd (tag_mk6 _) hs.2.1
  | _ => exact ⟨rfl, rfl⟩
end

section
variable {ρ : Rho} {L : Look}
theorem VR.u64_inv {v : Value} {w : Nat} (h : VR ρ L w v) (ht : tagOf w = 5) : ∃ p, p < 18446744073709551616 ∧ payOf w = p ∧ v = .int .u64 (p : Int) := by
  cases h with
  | int p hp => rw [tag_wI] at ht; cases ht
  | bool b => rw [tag_wB] at ht; cases ht
  | ptr => rw [tag_wP] at ht; cases ht
  | slice => rw [tag_wS] at ht; cases ht
  | agg => rw [tag_mk6] at ht; cases ht
  | tup => rw [tag_mk6] at ht; cases ht
  | clo => rw [tag_mk10] at ht; cases ht
  | iface => rw [tag_mk10] at ht; cases ht
  | chan => rw [tag_mk10] at ht; cases ht
  | fn f => rw [tag_mk8] at ht; cases ht
  | yld => rw [tag_mk13] at ht; cases ht
  | var => rw [tag_wV] at ht; cases ht
  | opq => rw [tag_wO] at ht; cases ht
  | btw => rw [tag_wG] at ht; cases ht
  | u64 p hp => exact ⟨p, hp, payOf_mk 5 p (by omega), rfl⟩
  | map => unfold mapW at ht; rw [tag_mk7] at ht; cases ht
  | str => unfold strW at ht; rw [tag_mk7] at ht; cases ht
  | ostr => unfold ostrW at ht; rw [tag_mk7] at ht; cases ht
  | poly => unfold polyW at ht; rw [tag_mk7] at ht; cases ht
  | _ => cases ht

end

/-! ### constants -/
theorem sInt_uInt (n : Int) (h1 : -9223372036854775808 ≤ n) (h2 : n < 9223372036854775808) : sInt (uInt n) = n := by
  unfold sInt uInt
  split <;> omega
theorem uInt_lt (n : Int) : uInt n < 18446744073709551616 := by unfold uInt; omega

theorem encC_sound (ρ : Rho) (L : Look) (v : Value) (h : tagOf (encC v) ≠ 15) : VR ρ L (encC v) v := by
  unfold encC at h ⊢
  split at h
  · rename_i n
    split at h
    · rename_i hn
      rw [if_pos hn]
      have := VR.int (ρ := ρ) (L := L) (uInt n) (uInt_lt n)
      rw [sInt_uInt n hn.1 hn.2] at this
      exact this
    · exact absurd rfl h
  · rename_i n
    split at h
    · rename_i hn
      rw [if_pos hn]
      have := VR.u64 (ρ := ρ) (L := L) n.toNat (by omega)
      rw [show ((n.toNat : Nat) : Int) = n from by omega] at this
      exact this
    · exact absurd rfl h
  · exact .bool _
  · exact .ptrNil
  · exact .sliceNil
  · exact .nilFunc
  · exact .nilIface
  · exact .mapNil
  · exact .str _
  · rename_i f first captured
    split at h
    · rename_i hc
      rw [if_pos hc]
      have h1 : first = #[] := Array.eq_empty_of_size_eq_zero hc.1
      have h2 : captured = #[] := Array.eq_empty_of_size_eq_zero hc.2
      subst h1; subst h2
      exact .fn f
    · exact absurd rfl h
  · rename_i vs
    split at h
    · rename_i hc
      rw [if_pos hc]
      have h1 : vs = #[] := Array.eq_empty_of_size_eq_zero hc
      subst h1
      exact .undef
    · exact absurd rfl h
  · exact absurd rfl h

/-- Operands' values. -/
def evT (tmps : Array Value) : Operand → Value
  | .tmp t => tmps.getD t Go.undef
  | .const v => v
  | .global g => .pointer (some ⟨g, 0, none⟩)
  | .func f => .func (.func f) #[] #[]

theorem ev_sound {ρ : Rho} {L : Look} {nt T : Nat} {tmps : Array Value} (h : TR ρ L nt T tmps) (o : Operand) (hb : tagOf (ev T o) ≠ 15) : VR ρ L (ev T o) (evT tmps o) := by
  cases o with
  | tmp t => exact h.2 t
  | const v => exact encC_sound ρ L v hb
  | global g => exact absurd rfl hb
  | func f => exact .fn f

/-! ### arithmetic -/
theorem wrap_sInt (n : Int) : IntKind.i64.wrap n = sInt (uInt n) := by
  simp only [IntKind.wrap, IntKind.bits, IntKind.signed, sInt, uInt]
  simp
  split <;> split <;> omega

theorem uInt_add (a b : Nat) : uInt (sInt a + sInt b) = (a + b) % 18446744073709551616 := by
  unfold uInt sInt; split <;> split <;> omega
theorem uInt_sub (a b : Nat) (ha : a < 18446744073709551616) (hb : b < 18446744073709551616) : uInt (sInt a - sInt b) = (a + (18446744073709551616 - b)) % 18446744073709551616 := by
  unfold uInt sInt; split <;> split <;> omega
theorem sInt_mod (a : Nat) (ha : a < 18446744073709551616) : sInt a % 18446744073709551616 = (a : Int) := by
  unfold sInt; split <;> omega
theorem uInt_mul (a b : Nat) (ha : a < 18446744073709551616) (hb : b < 18446744073709551616) : uInt (sInt a * sInt b) = (a * b) % 18446744073709551616 := by
  unfold uInt
  rw [Int.mul_emod, sInt_mod a ha, sInt_mod b hb, ← Int.natCast_mul]
  omega

theorem bias_eq (a : Nat) : bias a = (a + 9223372036854775808) % 18446744073709551616 := rfl
theorem bias_lt_iff (a b : Nat) (ha : a < 18446744073709551616) (hb : b < 18446744073709551616) : bias a < bias b ↔ sInt a < sInt b := by
  rw [bias_eq, bias_eq]
  unfold sInt
  split <;> split <;> omega
theorem iLt_iff (a b : Nat) (ha : a < 18446744073709551616) (hb : b < 18446744073709551616) : iLt a b = decide (sInt a < sInt b) := by
  have h := bias_lt_iff a b ha hb
  have h2 := ltb_iff (bias a) (bias b)
  rw [Bool.eq_iff_iff, decide_eq_true_iff]
  exact h2.trans h
theorem mod64_lt (n : Nat) : Nat.mod n 18446744073709551616 < 18446744073709551616 := Nat.mod_lt n (by decide)
theorem sub64_eq (p : Nat) : Nat.sub 18446744073709551616 p = 18446744073709551616 - p := rfl

theorem sInt_inj (a b : Nat) (ha : a < 18446744073709551616) (hb : b < 18446744073709551616) : sInt a = sInt b ↔ a = b := by
  unfold sInt; split <;> split <;> omega

theorem iAbs_eq (p : Nat) (hp : p < 18446744073709551616) : (iAbs p : Int) = if sInt p < 0 then -sInt p else sInt p := by
  unfold iAbs
  rw [sel_ltb, sub64_eq]
  unfold sInt
  split <;> split <;> omega
theorem isNeg_iff (p : Nat) (hp : p < 18446744073709551616) : isNeg p = decide (sInt p < 0) := by
  unfold isNeg
  rw [nble]
  congr 1
  rw [eq_iff_iff]
  unfold sInt; split <;> omega

theorem nat_tdiv (a b : Nat) : Int.tdiv (a : Int) (b : Int) = ((a / b : Nat) : Int) := by simp
theorem nat_tmod (a b : Nat) : Int.tmod (a : Int) (b : Int) = ((a % b : Nat) : Int) := rfl

theorem sInt_abs (p : Nat) (hp : p < 18446744073709551616) : (sInt p < 0 → sInt p = -(iAbs p : Int)) ∧ (¬ sInt p < 0 → sInt p = (iAbs p : Int)) ∧ iAbs p ≤ 9223372036854775808 ∧ (¬ sInt p < 0 → iAbs p < 9223372036854775808) := by
  have h := iAbs_eq p hp
  refine ⟨fun h1 => ?_, fun h1 => ?_, ?_, fun h1 => ?_⟩
  · rw [if_pos h1] at h; omega
  · rw [if_neg h1] at h; omega
  · split at h
    · unfold sInt at h; split at h <;> omega
    · unfold sInt at h; split at h <;> omega
  · rw [if_neg h1] at h
    unfold sInt at h; split at h <;> omega

theorem tdiv_abs (a b : Nat) (ha : a < 18446744073709551616) (hb : b < 18446744073709551616) :
    (sInt a).tdiv (sInt b) = if decide (sInt a < 0) = decide (sInt b < 0) then ((iAbs a / iAbs b : Nat) : Int) else -((iAbs a / iAbs b : Nat) : Int) := by
  obtain ⟨a1, a2, _⟩ := sInt_abs a ha
  obtain ⟨b1, b2, _⟩ := sInt_abs b hb
  by_cases h1 : sInt a < 0 <;> by_cases h2 : sInt b < 0
  · rw [if_pos (by simp [h1, h2]), a1 h1, b1 h2, Int.neg_tdiv, Int.tdiv_neg, nat_tdiv]; omega
  · rw [if_neg (by simp [h1, h2]), a1 h1, b2 h2, Int.neg_tdiv, nat_tdiv]
  · rw [if_neg (by simp [h1, h2]), a2 h1, b1 h2, Int.tdiv_neg, nat_tdiv]
  · rw [if_pos (by simp [h1, h2]), a2 h1, b2 h2, nat_tdiv]
theorem tmod_abs (a b : Nat) (ha : a < 18446744073709551616) (hb : b < 18446744073709551616) :
    (sInt a).tmod (sInt b) = if sInt a < 0 then -((iAbs a % iAbs b : Nat) : Int) else ((iAbs a % iAbs b : Nat) : Int) := by
  obtain ⟨a1, a2, _⟩ := sInt_abs a ha
  obtain ⟨b1, b2, _⟩ := sInt_abs b hb
  by_cases h1 : sInt a < 0 <;> by_cases h2 : sInt b < 0
  · rw [if_pos h1, a1 h1, b1 h2, Int.neg_tmod, Int.tmod_neg, nat_tmod]
  · rw [if_pos h1, a1 h1, b2 h2, Int.neg_tmod, nat_tmod]
  · rw [if_neg h1, a2 h1, b1 h2, Int.tmod_neg, nat_tmod]
  · rw [if_neg h1, a2 h1, b2 h2, nat_tmod]

theorem iNeg_eq (q : Nat) (hq : q ≤ 18446744073709551616) : iNeg q = uInt (-(q : Int)) := by
  show (18446744073709551616 - q) % 18446744073709551616 = _
  unfold uInt; omega

theorem uInt_nat (q : Nat) : uInt (q : Int) = q % 18446744073709551616 := by unfold uInt; omega

theorem iQuo_eq (a b : Nat) (ha : a < 18446744073709551616) (hb : b < 18446744073709551616) : iQuo a b = uInt ((sInt a).tdiv (sInt b)) := by
  rw [tdiv_abs a b ha hb]
  unfold iQuo
  rw [isNeg_iff a ha, isNeg_iff b hb, sel_beq]
  obtain ⟨_, _, a3, _⟩ := sInt_abs a ha
  have hq : iAbs a / iAbs b ≤ iAbs a := Nat.div_le_self _ _
  by_cases h1 : sInt a < 0 <;> by_cases h2 : sInt b < 0
  · simp only [h1, h2, decide_true, if_true]; rw [uInt_nat]; rfl
  · simp only [h1, h2, decide_true, decide_false]
    rw [if_neg (by decide), if_neg (by decide)]
    exact iNeg_eq _ (by show iAbs a / iAbs b ≤ _; omega)
  · simp only [h1, h2, decide_true, decide_false]
    rw [if_neg (by decide), if_neg (by decide)]
    exact iNeg_eq _ (by show iAbs a / iAbs b ≤ _; omega)
  · simp only [h1, h2, decide_false, if_true]; rw [uInt_nat]; rfl
theorem iRem_eq (a b : Nat) (ha : a < 18446744073709551616) (hb : b < 18446744073709551616) : sInt (iRem a b) = (sInt a).tmod (sInt b) ∧ iRem a b < 18446744073709551616 := by
  rw [tmod_abs a b ha hb]
  unfold iRem
  rw [isNeg_iff a ha]
  obtain ⟨a1, a2, a3, a4⟩ := sInt_abs a ha
  have hr : iAbs a % iAbs b ≤ iAbs a := Nat.mod_le _ _
  by_cases h1 : sInt a < 0
  · simp only [h1, decide_true, if_true]
    show sInt (iNeg (iAbs a % iAbs b)) = _ ∧ iNeg (iAbs a % iAbs b) < _
    rw [iNeg_eq _ (by omega)]
    exact ⟨sInt_uInt _ (by omega) (by omega), uInt_lt _⟩
  · simp only [h1, decide_false, if_false]
    show sInt (iAbs a % iAbs b) = _ ∧ iAbs a % iAbs b < _
    have := a4 h1
    generalize iAbs a % iAbs b = r at *
    refine ⟨?_, by omega⟩
    unfold sInt; rw [if_pos (by omega)]

theorem wB_sel (b : Bool) : wB (sel b false true) = wB (!b) := by cases b <;> rfl
theorem decide_not_lt (x y : Int) : (!decide (y < x)) = decide (x ≤ y) := by
  by_cases h : y < x
  · have : ¬ x ≤ y := by omega
    simp [h, this]
  · have : x ≤ y := by omega
    simp [h, this]

section
variable {P : Program} {ρ : Rho} {L : Look} {w : World}

theorem VR.wI_of (n : Int) (p : Nat) (hp : p < 18446744073709551616) (h : sInt p = n) : VR ρ L (wI p) (.int .i64 n) := by subst h; exact .int p hp

theorem binU_sound (op : BinOp) (t : TypeId) {x y : Nat} {vx vy : Value} (hx : VR ρ L x vx) (h5 : tagOf x = 5) (hy : VR ρ L y vy) (h : tagOf (binU op x y) ≠ 15) :
    ∃ r, VR ρ L (binU op x y) r ∧ (binOp op t vx vy).run P w = .ok r w := by
  obtain ⟨a, ha, hpa, rfl⟩ := hx.u64_inv h5
  unfold binU at h ⊢
  simp only [hpa] at h ⊢
  have w64 : ∀ z : Int, IntKind.u64.wrap z = z % 18446744073709551616 := fun z => by simp only [IntKind.wrap, IntKind.bits, IntKind.signed]; simp
  have shr : ∀ (k : IntKind) (b : Nat), b < 64 → (Op.shift .shr .u64 (a : Int) k (b : Int)).run P w = .ok (.int .u64 ((Nat.shiftRight a b : Nat) : Int)) w := by
    intro k b hb
    have hneg : ¬ ((b : Int) < 0) := by omega
    have hmin : min ((b : Int).toNat) IntKind.u64.bits = b := by
      have : IntKind.u64.bits = 64 := rfl
      rw [this]; omega
    have hpow : (2 : Int) ^ b = ((2 ^ b : Nat) : Int) := by simp
    have hd : Int.fdiv (a : Int) ((2 ^ b : Nat) : Int) = ((Nat.shiftRight a b : Nat) : Int) := by
      have e : Nat.shiftRight a b = a / 2 ^ b := Nat.shiftRight_eq_div_pow a b
      rw [e, Int.fdiv_eq_ediv_of_nonneg _ (Int.natCast_nonneg _)]
      exact (Int.natCast_ediv a (2 ^ b)).symm
    simp only [Op.shift, if_neg hneg, hmin, Sem.run_pure, hpow, hd]
  have shrlt : ∀ b : Nat, Nat.shiftRight a b < 18446744073709551616 := fun b => by
    have e : Nat.shiftRight a b = a / 2 ^ b := Nat.shiftRight_eq_div_pow a b
    rw [e]; exact Nat.lt_of_le_of_lt (Nat.div_le_self _ _) ha
  rw [sel_beq] at h ⊢
  by_cases hy5 : tagOf y = 5
  · rw [if_pos hy5] at h ⊢
    obtain ⟨b, hb, hpb, rfl⟩ := hy.u64_inv hy5
    simp only [hpb] at h ⊢
    cases op <;> simp only at h ⊢ <;> try (with_reducible exact absurd tag_bad h)
    case add =>
      refine ⟨_, .u64 _ (mod64_lt _), ?_⟩
      have e : ((Nat.mod (Nat.add a b) 18446744073709551616 : Nat) : Int) = ((a : Int) + b) % 18446744073709551616 := by
        show (((a + b) % 18446744073709551616 : Nat) : Int) = _; omega
      rw [e]; simp [binOp, Op.intArith, w64]
    case sub =>
      refine ⟨_, .u64 _ (mod64_lt _), ?_⟩
      have e : ((Nat.mod (Nat.add a (Nat.sub 18446744073709551616 b)) 18446744073709551616 : Nat) : Int) = ((a : Int) - b) % 18446744073709551616 := by
        show (((a + (18446744073709551616 - b)) % 18446744073709551616 : Nat) : Int) = _; omega
      rw [e]; simp [binOp, Op.intArith, w64]
    case mul =>
      refine ⟨_, .u64 _ (mod64_lt _), ?_⟩
      have e : ((Nat.mod (Nat.mul a b) 18446744073709551616 : Nat) : Int) = ((a : Int) * b) % 18446744073709551616 := by
        show (((a * b) % 18446744073709551616 : Nat) : Int) = _
        rw [Int.natCast_emod, Int.natCast_mul]; rfl
      rw [e]; simp [binOp, Op.intArith, w64]
    case and =>
      have hl : Nat.land a b < 18446744073709551616 := Nat.lt_of_le_of_lt Nat.and_le_left ha
      refine ⟨_, .u64 _ hl, ?_⟩
      have e1 : (BitVec.ofInt 64 (a : Int)).toNat = a := by simp; omega
      have e2 : (BitVec.ofInt 64 (b : Int)).toNat = b := by simp; omega
      have e3 : (BitVec.ofInt IntKind.u64.bits (a : Int) &&& BitVec.ofInt IntKind.u64.bits (b : Int)).toNat = Nat.land a b := by
        rw [BitVec.toNat_and]
        show (BitVec.ofInt 64 (a : Int)).toNat &&& (BitVec.ofInt 64 (b : Int)).toNat = _
        rw [e1, e2]; rfl
      simp only [binOp, Op.intBits, ne_eq, not_true_eq_false, if_false, Sem.run_pure, e3, w64]
      congr 2
      omega
    case shr =>
      rw [sel_ltb] at h ⊢
      by_cases hb0 : b < 64
      · rw [if_pos hb0]
        exact ⟨_, .u64 _ (shrlt b), by simp only [binOp]; exact shr .u64 b hb0⟩
      · rw [if_neg hb0] at h; exact absurd rfl h
    case eql =>
      refine ⟨_, .bool _, ?_⟩
      rw [nbeq]
      by_cases hab : a = b
      · simp [binOp, Op.intCmp, hab]
      · have : ¬ (a : Int) = (b : Int) := by omega
        simp [binOp, Op.intCmp, hab, this]
    case neq =>
      refine ⟨_, .bool _, ?_⟩
      rw [sel_eq, nbeq]
      by_cases hab : a = b
      · simp [binOp, Op.intCmp, hab]
      · have : ¬ (a : Int) = (b : Int) := by omega
        simp [binOp, Op.intCmp, hab, this]
    case lss => exact ⟨_, .bool _, by have := ltb_iff a b; by_cases hab : a < b <;> simp [binOp, Op.intCmp, hab, this.2] <;> (try omega) <;> (rw [Bool.eq_false_iff]; intro hh; exact hab (this.1 hh))⟩
    case leq => exact ⟨_, .bool _, by rw [nble]; simp [binOp, Op.intCmp]⟩
    case gtr => exact ⟨_, .bool _, by have := ltb_iff b a; by_cases hab : b < a <;> simp [binOp, Op.intCmp, hab, this.2] <;> (try omega) <;> (rw [Bool.eq_false_iff]; intro hh; exact hab (this.1 hh))⟩
    case geq => exact ⟨_, .bool _, by rw [nble]; simp [binOp, Op.intCmp]⟩
  · rw [if_neg hy5, sel_beq] at h ⊢
    by_cases hy1 : tagOf y = 1
    · rw [if_pos hy1] at h ⊢
      obtain ⟨b, hb, _, hpb, rfl⟩ := hy.int_inv hy1
      simp only [hpb] at h ⊢
      cases op <;> simp only at h ⊢ <;> try (with_reducible exact absurd tag_bad h)
      case shr =>
        rw [sel_ltb] at h ⊢
        by_cases hb0 : b < 64
        · rw [if_pos hb0]
          have hs : sInt b = (b : Int) := by unfold sInt; rw [if_pos (by omega)]
          exact ⟨_, .u64 _ (shrlt b), by rw [hs]; simp only [binOp]; exact shr .i64 b hb0⟩
        · rw [if_neg hb0] at h; exact absurd rfl h
    · rw [if_neg hy1] at h; exact absurd rfl h
theorem wrap_small (m : Nat) (h : m < 9223372036854775808) : IntKind.i64.wrap (m : Int) = (m : Int) := by
  have e := wrap_sInt (m : Int)
  rw [e]
  have : uInt (m : Int) = m := by unfold uInt; omega
  rw [this]; unfold sInt; rw [if_pos h]
theorem binI_sound (op : BinOp) (t : TypeId) (a b : Nat) (ha : a < 18446744073709551616) (hb : b < 18446744073709551616) (h : tagOf (binI op a b) ≠ 15) :
    ∃ x, VR ρ L (binI op a b) x ∧ (binOp op t (.int .i64 (sInt a)) (.int .i64 (sInt b))).run P w = .ok x w := by
  have hlt := iLt_iff a b ha hb
  have hgt := iLt_iff b a hb ha
  have hinj := sInt_inj a b ha hb
  cases op <;> simp only [binI] at h ⊢ <;> try (with_reducible exact absurd tag_bad h)
  case add =>
    refine ⟨_, .int _ (mod64_lt _), ?_⟩
    simp [binOp, Op.intArith, wrap_sInt, uInt_add a b]; rfl
  case sub =>
    refine ⟨_, .int _ (mod64_lt _), ?_⟩
    simp [binOp, Op.intArith, wrap_sInt, uInt_sub a b ha hb]; rfl
  case mul =>
    refine ⟨_, .int _ (mod64_lt _), ?_⟩
    simp [binOp, Op.intArith, wrap_sInt, uInt_mul a b ha hb]; rfl
  case quo =>
    rw [sel_beq] at h ⊢
    by_cases hb0 : b = 0
    · rw [if_pos hb0] at h; exact absurd rfl h
    · rw [if_neg hb0]
      have hb1 : sInt b ≠ 0 := fun hh => hb0 ((sInt_inj b 0 hb (by omega)).1 hh)
      refine ⟨_, .int _ (by rw [iQuo_eq a b ha hb]; exact uInt_lt _), ?_⟩
      simp [binOp, Op.intDiv, hb1, wrap_sInt, iQuo_eq a b ha hb]
  case rem =>
    rw [sel_beq] at h ⊢
    by_cases hb0 : b = 0
    · rw [if_pos hb0] at h; exact absurd rfl h
    · rw [if_neg hb0]
      have hb1 : sInt b ≠ 0 := fun hh => hb0 ((sInt_inj b 0 hb (by omega)).1 hh)
      obtain ⟨r1, r2⟩ := iRem_eq a b ha hb
      exact ⟨_, .wI_of _ _ r2 r1, by simp [binOp, Op.intDiv, hb1]⟩
  case shl =>
    rw [sel_ltb] at h ⊢
    by_cases hb0 : b < 63
    · rw [if_pos hb0]
      have hp : 2 ^ b < 9223372036854775808 := by
        have := Nat.pow_lt_pow_right (show 1 < 2 by omega) hb0
        have e : (2 : Nat) ^ 63 = 9223372036854775808 := by decide
        omega
      have hs : sInt b = (b : Int) := by unfold sInt; rw [if_pos (by omega)]
      have hs2 : sInt (2 ^ b) = ((2 ^ b : Nat) : Int) := by unfold sInt; rw [if_pos hp]
      have hm := uInt_mul a (2 ^ b) ha (by omega)
      rw [hs2] at hm
      have e1 : Nat.mod (Nat.shiftLeft a b) 18446744073709551616 = a * 2 ^ b % 18446744073709551616 := by
        show (a <<< b) % 18446744073709551616 = _
        rw [Nat.shiftLeft_eq]
      refine ⟨_, .int _ (mod64_lt _), ?_⟩
      rw [e1, ← hm, hs]
      have hneg : ¬ ((b : Int) < 0) := by omega
      have hmin : min ((b : Int).toNat) IntKind.i64.bits = b := by
        have : IntKind.i64.bits = 64 := rfl
        rw [this]; omega
      have hpow : (2 : Int) ^ b = ((2 ^ b : Nat) : Int) := by simp
      simp only [binOp, Op.shift, if_neg hneg, hmin, Sem.run_pure, hpow, wrap_sInt]
    · rw [if_neg hb0] at h; exact absurd rfl h
  case shr =>
    rw [sel_ltb] at h ⊢
    by_cases ha0 : a < 9223372036854775808
    · rw [if_pos ha0, sel_ltb] at h ⊢
      by_cases hb0 : b < 64
      · rw [if_pos hb0]
        have e : Nat.shiftRight a b = a / 2 ^ b := Nat.shiftRight_eq_div_pow a b
        have hle : Nat.shiftRight a b ≤ a := by rw [e]; exact Nat.div_le_self _ _
        have hs : sInt b = (b : Int) := by unfold sInt; rw [if_pos (by omega)]
        have hsa : sInt a = (a : Int) := by unfold sInt; rw [if_pos ha0]
        have hneg : ¬ ((b : Int) < 0) := by omega
        have hmin : min ((b : Int).toNat) IntKind.i64.bits = b := by
          have : IntKind.i64.bits = 64 := rfl
          rw [this]; omega
        have hpow : (2 : Int) ^ b = ((2 ^ b : Nat) : Int) := by simp
        have hd : Int.fdiv (a : Int) ((2 ^ b : Nat) : Int) = ((Nat.shiftRight a b : Nat) : Int) := by
          rw [e, Int.fdiv_eq_ediv_of_nonneg _ (Int.natCast_nonneg _)]
          exact (Int.natCast_ediv a (2 ^ b)).symm
        refine ⟨_, .wI_of ((Nat.shiftRight a b : Nat) : Int) _ (by omega) (by unfold sInt; rw [if_pos (by omega)]), ?_⟩
        rw [hs, hsa]
        simp only [binOp, Op.shift, if_neg hneg, hmin, Sem.run_pure, hpow, hd]
      · rw [if_neg hb0] at h; exact absurd rfl h
    · rw [if_neg ha0] at h; exact absurd rfl h
  case and =>
    rw [sel_ltb] at h ⊢
    by_cases ha0 : a < 9223372036854775808
    · rw [if_pos ha0, sel_ltb] at h ⊢
      by_cases hb0 : b < 9223372036854775808
      · rw [if_pos hb0]
        have hle : Nat.land a b ≤ a := Nat.and_le_left
        have hsb : sInt b = (b : Int) := by unfold sInt; rw [if_pos hb0]
        have hsa : sInt a = (a : Int) := by unfold sInt; rw [if_pos ha0]
        have e1 : (BitVec.ofInt 64 (a : Int)).toNat = a := by simp; omega
        have e2 : (BitVec.ofInt 64 (b : Int)).toNat = b := by simp; omega
        have e3 : (BitVec.ofInt IntKind.i64.bits (a : Int) &&& BitVec.ofInt IntKind.i64.bits (b : Int)).toNat = Nat.land a b := by
          rw [BitVec.toNat_and]
          show (BitVec.ofInt 64 (a : Int)).toNat &&& (BitVec.ofInt 64 (b : Int)).toNat = _
          rw [e1, e2]; rfl
        refine ⟨_, .wI_of ((Nat.land a b : Nat) : Int) _ (by omega) (by unfold sInt; rw [if_pos (by omega)]), ?_⟩
        rw [hsb, hsa]
        simp only [binOp, Op.intBits, ne_eq, not_true_eq_false, if_false, Sem.run_pure, e3]
        rw [show IntKind.i64.wrap ((Nat.land a b : Nat) : Int) = ((Nat.land a b : Nat) : Int) from wrap_small _ (by omega)]
      · rw [if_neg hb0] at h; exact absurd rfl h
    · rw [if_neg ha0] at h; exact absurd rfl h
  case or =>
    rw [sel_ltb] at h ⊢
    by_cases ha0 : a < 9223372036854775808
    · rw [if_pos ha0, sel_ltb] at h ⊢
      by_cases hb0 : b < 9223372036854775808
      · rw [if_pos hb0]
        have hle : Nat.lor a b < 9223372036854775808 := Nat.or_lt_two_pow (n := 63) (by omega) (by omega)
        have hsb : sInt b = (b : Int) := by unfold sInt; rw [if_pos hb0]
        have hsa : sInt a = (a : Int) := by unfold sInt; rw [if_pos ha0]
        have e1 : (BitVec.ofInt 64 (a : Int)).toNat = a := by simp; omega
        have e2 : (BitVec.ofInt 64 (b : Int)).toNat = b := by simp; omega
        have e3 : (BitVec.ofInt IntKind.i64.bits (a : Int) ||| BitVec.ofInt IntKind.i64.bits (b : Int)).toNat = Nat.lor a b := by
          rw [BitVec.toNat_or]
          show (BitVec.ofInt 64 (a : Int)).toNat ||| (BitVec.ofInt 64 (b : Int)).toNat = _
          rw [e1, e2]; rfl
        refine ⟨_, .wI_of ((Nat.lor a b : Nat) : Int) _ (by omega) (by unfold sInt; rw [if_pos (by omega)]), ?_⟩
        rw [hsb, hsa]
        simp only [binOp, Op.intBits, ne_eq, not_true_eq_false, if_false, Sem.run_pure, e3]
        rw [show IntKind.i64.wrap ((Nat.lor a b : Nat) : Int) = ((Nat.lor a b : Nat) : Int) from wrap_small _ (by omega)]
      · rw [if_neg hb0] at h; exact absurd rfl h
    · rw [if_neg ha0] at h; exact absurd rfl h
  case eql =>
    refine ⟨_, .bool _, ?_⟩
    rw [nbeq]
    by_cases hab : a = b
    · simp [binOp, Op.intCmp, hab]
    · have : ¬ sInt a = sInt b := fun hh => hab (hinj.1 hh)
      simp [binOp, Op.intCmp, hab, this]
  case neq =>
    rw [wB_sel]
    refine ⟨_, .bool _, ?_⟩
    rw [nbeq]
    by_cases hab : a = b
    · simp [binOp, Op.intCmp, hab]
    · have : ¬ sInt a = sInt b := fun hh => hab (hinj.1 hh)
      simp [binOp, Op.intCmp, hab, this]
  case lss => exact ⟨_, .bool _, by rw [hlt]; simp [binOp, Op.intCmp]⟩
  case leq => rw [wB_sel]; exact ⟨_, .bool _, by rw [hgt, decide_not_lt]; simp [binOp, Op.intCmp]⟩
  case gtr => exact ⟨_, .bool _, by rw [hgt]; simp [binOp, Op.intCmp]⟩
  case geq => rw [wB_sel]; exact ⟨_, .bool _, by rw [hlt, decide_not_lt]; simp [binOp, Op.intCmp]⟩

theorem bias_int (b : Nat) (hb : b < 18446744073709551616) : ((bias b : Nat) : Int) = sInt b + 9223372036854775808 := by
  rw [bias_eq]; unfold sInt; split <;> omega
theorem VR.var_inv {v : Value} {w : Nat} (h : VR ρ L w v) (ht : tagOf w = 12) : ∃ j lo hi : Nat, lo < 1099511627776 ∧ hi < 1099511627776 ∧ (lo = 0 ∨ (lo : Int) - 549755813888 ≤ E.int j) ∧ (hi = 0 ∨ E.int j ≤ (hi : Int) - 549755813888) ∧ w = wV j lo hi ∧ v = .int .i64 (E.int j) := by
  cases h with
  | int p hp => rw [tag_wI] at ht; cases ht
  | bool b => rw [tag_wB] at ht; cases ht
  | ptr => rw [tag_wP] at ht; cases ht
  | slice => rw [tag_wS] at ht; cases ht
  | agg => rw [tag_mk6] at ht; cases ht
  | tup => rw [tag_mk6] at ht; cases ht
  | clo => rw [tag_mk10] at ht; cases ht
  | iface => rw [tag_mk10] at ht; cases ht
  | chan => rw [tag_mk10] at ht; cases ht
  | fn f => rw [tag_mk8] at ht; cases ht
  | yld => rw [tag_mk13] at ht; cases ht
  | var j lo hi h1 h2 h3 h4 => exact ⟨j, lo, hi, h1, h2, h3, h4, rfl, rfl⟩
  | opq => rw [tag_wO] at ht; cases ht
  | btw => rw [tag_wG] at ht; cases ht
  | u64 => rw [tag_mk5] at ht; cases ht
  | map => unfold mapW at ht; rw [tag_mk7] at ht; cases ht
  | str => unfold strW at ht; rw [tag_mk7] at ht; cases ht
  | ostr => unfold ostrW at ht; rw [tag_mk7] at ht; cases ht
  | poly => unfold polyW at ht; rw [tag_mk7] at ht; cases ht
  | _ => cases ht

theorem VR.opq_inv {v : Value} {w : Nat} (h : VR ρ L w v) (ht : tagOf w = 11) : ∃ b j lo hi rb d sz c : Nat, ρ b = some (rb, d, sz) ∧ j < 1048576 ∧ lo < 4194304 ∧ hi < 4194304 ∧ lo ≤ (E.lst j).length ∧ (hi = 0 ∨ (E.lst j).length ≤ hi) ∧ (E.lst j).length ≤ c ∧ c ≤ sz ∧ c < 9223372036854775808 ∧ w = wO b j lo hi ∧ v = .slice (some ⟨rb, d, none⟩) (E.lst j).length c := by
  cases h with
  | int p hp => rw [tag_wI] at ht; cases ht
  | bool b => rw [tag_wB] at ht; cases ht
  | ptr => rw [tag_wP] at ht; cases ht
  | slice => rw [tag_wS] at ht; cases ht
  | agg => rw [tag_mk6] at ht; cases ht
  | tup => rw [tag_mk6] at ht; cases ht
  | clo => rw [tag_mk10] at ht; cases ht
  | iface => rw [tag_mk10] at ht; cases ht
  | chan => rw [tag_mk10] at ht; cases ht
  | fn f => rw [tag_mk8] at ht; cases ht
  | yld => rw [tag_mk13] at ht; cases ht
  | var => rw [tag_wV] at ht; cases ht
  | btw => rw [tag_wG] at ht; cases ht
  | u64 => rw [tag_mk5] at ht; cases ht
  | map => unfold mapW at ht; rw [tag_mk7] at ht; cases ht
  | str => unfold strW at ht; rw [tag_mk7] at ht; cases ht
  | ostr => unfold ostrW at ht; rw [tag_mk7] at ht; cases ht
  | poly => unfold polyW at ht; rw [tag_mk7] at ht; cases ht
  | opq b j lo hi rb d sz c h h1 h2 h3 h4 h5 h6 h7 h8 => exact ⟨b, j, lo, hi, rb, d, sz, c, h, h1, h2, h3, h4, h5, h6, h7, h8, rfl, rfl⟩
  | _ => cases ht

theorem VR.btw_inv {v : Value} {w : Nat} (h : VR ρ L w v) (ht : tagOf w = 9) : ∃ (t u : Nat) (z : Int), u < 1152921504606846976 ∧ (t : Int) ≤ z ∧ z ≤ (u : Int) ∧ w = wG t u ∧ gLo (payOf w) = t ∧ gHi (payOf w) = u ∧ v = .int .i64 z := by
  cases h with
  | int p hp => rw [tag_wI] at ht; cases ht
  | bool b => rw [tag_wB] at ht; cases ht
  | ptr => rw [tag_wP] at ht; cases ht
  | slice => rw [tag_wS] at ht; cases ht
  | agg => rw [tag_mk6] at ht; cases ht
  | tup => rw [tag_mk6] at ht; cases ht
  | clo => rw [tag_mk10] at ht; cases ht
  | iface => rw [tag_mk10] at ht; cases ht
  | chan => rw [tag_mk10] at ht; cases ht
  | fn f => rw [tag_mk8] at ht; cases ht
  | yld => rw [tag_mk13] at ht; cases ht
  | var => rw [tag_wV] at ht; cases ht
  | opq => rw [tag_wO] at ht; cases ht
  | u64 => rw [tag_mk5] at ht; cases ht
  | map => unfold mapW at ht; rw [tag_mk7] at ht; cases ht
  | str => unfold strW at ht; rw [tag_mk7] at ht; cases ht
  | ostr => unfold ostrW at ht; rw [tag_mk7] at ht; cases ht
  | poly => unfold polyW at ht; rw [tag_mk7] at ht; cases ht
  | btw t u z h1 h2 h3 =>
    have hp : payOf (wG t u) = 1152921504606846976 * t + u := payOf_mk 9 _ (by omega)
    exact ⟨t, u, z, h1, h2, h3, rfl, by rw [hp]; show _ / 1152921504606846976 = _; omega, by rw [hp]; show _ % 1152921504606846976 = _; omega, rfl⟩
  | _ => cases ht

theorem VR.sl0_inv {v : Value} {w : Nat} (h : VR ρ L w v) (ht : tagOf w = 14) : ∃ a, v = .slice (some a) 0 0 := by
  cases h with
  | int p hp => rw [tag_wI] at ht; cases ht
  | bool b => rw [tag_wB] at ht; cases ht
  | ptr => rw [tag_wP] at ht; cases ht
  | slice => rw [tag_wS] at ht; cases ht
  | agg => rw [tag_mk6] at ht; cases ht
  | tup => rw [tag_mk6] at ht; cases ht
  | clo => rw [tag_mk10] at ht; cases ht
  | iface => rw [tag_mk10] at ht; cases ht
  | chan => rw [tag_mk10] at ht; cases ht
  | fn f => rw [tag_mk8] at ht; cases ht
  | yld => rw [tag_mk13] at ht; cases ht
  | var => rw [tag_wV] at ht; cases ht
  | opq => rw [tag_wO] at ht; cases ht
  | btw => rw [tag_wG] at ht; cases ht
  | u64 => rw [tag_mk5] at ht; cases ht
  | map => unfold mapW at ht; rw [tag_mk7] at ht; cases ht
  | str => unfold strW at ht; rw [tag_mk7] at ht; cases ht
  | ostr => unfold ostrW at ht; rw [tag_mk7] at ht; cases ht
  | poly => unfold polyW at ht; rw [tag_mk7] at ht; cases ht
  | sl0 a => exact ⟨a, rfl⟩
  | _ => cases ht

/-- A threshold: what is said of it is so. -/
theorem geV_sound {j lo hi c y n : Nat} (h1 : lo < 1099511627776) (h2 : hi < 1099511627776) (h3 : lo = 0 ∨ (lo : Int) - 549755813888 ≤ E.int j) (h4 : hi = 0 ∨ E.int j ≤ (hi : Int) - 549755813888) (hc : c ≠ 0)
    (h : tagOf (geV (payOf (wV j lo hi)) c y n) ≠ 15) : ((c : Int) - 549755813888 ≤ E.int j ∧ geV (payOf (wV j lo hi)) c y n = y) ∨ (E.int j < (c : Int) - 549755813888 ∧ geV (payOf (wV j lo hi)) c y n = n) := by
  obtain ⟨p1, p2, p3⟩ := v_parts j lo hi h1 h2
  unfold geV at h ⊢
  rw [p1, p2, p3] at h ⊢
  cases hb1 : sel (Nat.beq lo 0) false (Nat.ble c lo) with
  | true =>
    rw [sel_beq] at hb1
    split at hb1
    · cases hb1
    · have := Nat.le_of_ble_eq_true hb1
      exact .inl ⟨by omega, rfl⟩
  | false =>
    rw [hb1, sel_false] at h
    rw [sel_false]
    cases hb2 : sel (Nat.beq hi 0) false (ltb hi c) with
    | true =>
      rw [sel_beq] at hb2
      split at hb2
      · cases hb2
      · have := (ltb_iff _ _).1 hb2
        exact .inr ⟨by omega, rfl⟩
    | false =>
      rw [hb2, sel_false] at h
      exact absurd (tag_mk15 _) h

theorem nearB_inv {q : Nat} {k : Nat → Nat} (hq : q < 18446744073709551616) (h : tagOf (nearB q k) ≠ 15) : ∃ c : Nat, c ≠ 0 ∧ c < 1099511627775 ∧ sInt q = (c : Int) - 549755813888 ∧ nearB q k = k c := by
  have hbi := bias_int q hq
  unfold nearB at h ⊢
  dsimp only at h ⊢
  cases hx : sel (Nat.ble 9223371487098961921 (bias q)) (ltb (Nat.sub (bias q) 9223371487098961920) 1099511627775) false with
  | true =>
    rw [sel_ble] at hx
    split at hx
    · rename_i hle
      have hlt := (ltb_iff _ _).1 hx
      have e : Nat.sub (bias q) 9223371487098961920 = bias q - 9223371487098961920 := rfl
      rw [e] at hlt ⊢
      exact ⟨_, by omega, hlt, by omega, rfl⟩
    · cases hx
  | false =>
    rw [hx, sel_false] at h
    exact absurd tag_bad h

theorem cmpV_sound {op : BinOp} {ty : TypeId} {j lo hi c : Nat} (h1 : lo < 1099511627776) (h2 : hi < 1099511627776) (h3 : lo = 0 ∨ (lo : Int) - 549755813888 ≤ E.int j) (h4 : hi = 0 ∨ E.int j ≤ (hi : Int) - 549755813888) (hc : c ≠ 0)
    (h : tagOf (cmpV op (payOf (wV j lo hi)) c) ≠ 15) :
    ∃ b, cmpV op (payOf (wV j lo hi)) c = wB b ∧ (binOp op ty (.int .i64 (E.int j)) (.int .i64 ((c : Int) - 549755813888))).run P w = .ok (.bool b) w ∧
      (binOp (flipOp op) ty (.int .i64 ((c : Int) - 549755813888)) (.int .i64 (E.int j))).run P w = .ok (.bool b) w := by
  have e1 : Nat.succ c = c + 1 := rfl
  have hsc : ((c + 1 : Nat) : Int) = (c : Int) + 1 := by omega
  cases op <;> simp only [cmpV] at h ⊢ <;> try (exact absurd (tag_mk15 _) h)
  case eql =>
    have hy := geV_sound h1 h2 h3 h4 hc h
    rcases hy with ⟨a, b⟩ | ⟨a, b⟩
    · rw [b] at h ⊢
      rcases geV_sound h1 h2 h3 h4 (by omega) h with ⟨a2, b2⟩ | ⟨a2, b2⟩
      · rw [b2]; rw [e1, hsc] at a2
        have h5 : ¬ E.int j = (c : Int) - 549755813888 := by omega
        have h6 : ¬ (c : Int) - 549755813888 = E.int j := by omega
        exact ⟨false, rfl, by simp [binOp, Op.intCmp, h5], by simp [flipOp, binOp, Op.intCmp, h6]⟩
      · rw [b2]; rw [e1, hsc] at a2
        have h5 : E.int j = (c : Int) - 549755813888 := by omega
        exact ⟨true, rfl, by simp [binOp, Op.intCmp, h5], by simp [flipOp, binOp, Op.intCmp, h5]⟩
    · rw [b]
      have h5 : ¬ E.int j = (c : Int) - 549755813888 := by omega
      have h6 : ¬ (c : Int) - 549755813888 = E.int j := by omega
      exact ⟨false, rfl, by simp [binOp, Op.intCmp, h5], by simp [flipOp, binOp, Op.intCmp, h6]⟩
  case neq =>
    have hy := geV_sound h1 h2 h3 h4 hc h
    rcases hy with ⟨a, b⟩ | ⟨a, b⟩
    · rw [b] at h ⊢
      rcases geV_sound h1 h2 h3 h4 (by omega) h with ⟨a2, b2⟩ | ⟨a2, b2⟩
      · rw [b2]; rw [e1, hsc] at a2
        have h5 : ¬ E.int j = (c : Int) - 549755813888 := by omega
        have h6 : ¬ (c : Int) - 549755813888 = E.int j := by omega
        exact ⟨true, rfl, by simp [binOp, Op.intCmp, h5], by simp [flipOp, binOp, Op.intCmp, h6]⟩
      · rw [b2]; rw [e1, hsc] at a2
        have h5 : E.int j = (c : Int) - 549755813888 := by omega
        exact ⟨false, rfl, by simp [binOp, Op.intCmp, h5], by simp [flipOp, binOp, Op.intCmp, h5]⟩
    · rw [b]
      have h5 : ¬ E.int j = (c : Int) - 549755813888 := by omega
      have h6 : ¬ (c : Int) - 549755813888 = E.int j := by omega
      exact ⟨true, rfl, by simp [binOp, Op.intCmp, h5], by simp [flipOp, binOp, Op.intCmp, h6]⟩
  case lss =>
    rcases geV_sound h1 h2 h3 h4 hc h with ⟨a, b⟩ | ⟨a, b⟩ <;> rw [b]
    · exact ⟨false, rfl, by simp [binOp, Op.intCmp]; omega, by simp [flipOp, binOp, Op.intCmp]; omega⟩
    · exact ⟨true, rfl, by simp [binOp, Op.intCmp]; omega, by simp [flipOp, binOp, Op.intCmp]; omega⟩
  case geq =>
    rcases geV_sound h1 h2 h3 h4 hc h with ⟨a, b⟩ | ⟨a, b⟩ <;> rw [b]
    · exact ⟨true, rfl, by simp [binOp, Op.intCmp]; omega, by simp [flipOp, binOp, Op.intCmp]; omega⟩
    · exact ⟨false, rfl, by simp [binOp, Op.intCmp]; omega, by simp [flipOp, binOp, Op.intCmp]; omega⟩
  case gtr =>
    rcases geV_sound h1 h2 h3 h4 (by omega) h with ⟨a, b⟩ | ⟨a, b⟩ <;> rw [b] <;> rw [e1, hsc] at a
    · exact ⟨true, rfl, by simp [binOp, Op.intCmp]; omega, by simp [flipOp, binOp, Op.intCmp]; omega⟩
    · exact ⟨false, rfl, by simp [binOp, Op.intCmp]; omega, by simp [flipOp, binOp, Op.intCmp]; omega⟩
  case leq =>
    rcases geV_sound h1 h2 h3 h4 (by omega) h with ⟨a, b⟩ | ⟨a, b⟩ <;> rw [b] <;> rw [e1, hsc] at a
    · exact ⟨false, rfl, by simp [binOp, Op.intCmp]; omega, by simp [flipOp, binOp, Op.intCmp]; omega⟩
    · exact ⟨true, rfl, by simp [binOp, Op.intCmp]; omega, by simp [flipOp, binOp, Op.intCmp]; omega⟩

theorem cmpG_sound {op : BinOp} {ty : TypeId} {p b t : Nat} {z : Int} (hp : gLo p = t) (hz : (t : Int) ≤ z) (h : tagOf (cmpG op p b) ≠ 15) :
    ∃ r, cmpG op p b = wB r ∧ (binOp op ty (.int .i64 z) (.int .i64 (sInt b))).run P w = .ok (.bool r) w := by
  unfold cmpG at h ⊢
  rw [hp] at h ⊢
  cases hx : sel (Nat.ble b 1152921504606846976) (Nat.ble b t) false with
  | false => rw [hx, sel_false] at h; exact absurd tag_bad h
  | true =>
    rw [hx, sel_true] at h
    rw [sel_true]
    rw [sel_ble] at hx
    split at hx
    · rename_i h1
      have h2 := Nat.le_of_ble_eq_true hx
      have hs : sInt b = (b : Int) := by unfold sInt; rw [if_pos (by omega)]
      rw [hs]
      cases op <;> simp only at h ⊢ <;> try (with_reducible exact absurd tag_bad h)
      case lss => exact ⟨false, rfl, by simp [binOp, Op.intCmp]; omega⟩
      case geq => exact ⟨true, rfl, by simp [binOp, Op.intCmp]; omega⟩
      case gtr =>
        rw [sel_ltb] at h
        rw [sel_ltb]
        split at h
        · rename_i hlt
          rw [if_pos hlt]
          exact ⟨true, rfl, by simp [binOp, Op.intCmp]; omega⟩
        · exact absurd tag_bad h
    · cases hx

theorem remV_sound {op : BinOp} {ty : TypeId} {j lo hi b : Nat} (hop : isRem op = true) (h1 : lo < 1099511627776) (h2 : hi < 1099511627776) (h : tagOf (remV (payOf (wV j lo hi)) b) ≠ 15) :
    ∃ x, VR ρ L (remV (payOf (wV j lo hi)) b) x ∧ (binOp op ty (.int .i64 (E.int j)) (.int .i64 (sInt b))).run P w = .ok x w := by
  have hop' : op = .rem := by cases op <;> first | rfl | cases hop
  subst hop'
  obtain ⟨p1, p2, p3⟩ := v_parts j lo hi h1 h2
  unfold remV at h ⊢
  simp only [p1, p2, p3, sel_beq] at h ⊢
  by_cases hb : b = 3
  · subst hb
    rw [if_pos rfl] at h ⊢
    have hs : sInt 3 = 3 := rfl
    have step : ∀ l : Nat, E.int j = (l : Int) → (binOp .rem ty (.int .i64 (E.int j)) (.int .i64 (sInt 3))).run P w = .ok (.int .i64 ((l % 3 : Nat) : Int)) w := by
      intro l hl
      rw [hl, hs]
      have ht : Int.tmod (l : Int) 3 = ((l % 3 : Nat) : Int) := nat_tmod l 3
      simp [binOp, Op.intDiv, ht]
    by_cases hj : j = lenIx 1000
    · rw [if_pos hj]
      have := step (E.lst 1000).length (by rw [hj]; exact E.len 1000 (by omega))
      rw [E.byThree] at this
      exact ⟨_, VR.int 0 (by omega), this⟩
    · rw [if_neg hj] at h ⊢
      by_cases hj2 : j = lenIx 1001
      · rw [if_pos hj2]
        have := step (E.lst 1001).length (by rw [hj2]; exact E.len 1001 (by omega))
        have hn := E.notThree
        have hlt := Nat.mod_lt (E.lst 1001).length (show 0 < 3 by omega)
        exact ⟨_, VR.btw 1 2 _ (by omega) (by omega) (by omega), this⟩
      · rw [if_neg hj2] at h; exact absurd (tag_mk15 _) h
  · rw [if_neg hb] at h; exact absurd (tag_mk15 _) h

theorem addG_sound {op : BinOp} {ty : TypeId} {p b t u : Nat} {z : Int} (hop : isAdd op = true) (hp : gLo p = t) (hu : gHi p = u) (hz : (t : Int) ≤ z) (hz2 : z ≤ (u : Int)) (h : tagOf (addG p b) ≠ 15) :
    ∃ x, VR ρ L (addG p b) x ∧ (binOp op ty (.int .i64 z) (.int .i64 (sInt b))).run P w = .ok x w := by
  have hop' : op = .add := by cases op <;> first | rfl | cases hop
  subst hop'
  unfold addG at h ⊢
  rw [hp, hu] at h ⊢
  cases hx : sel (ltb u 576460752303423488) (ltb b 576460752303423488) false with
  | false => rw [hx, sel_false] at h; exact absurd tag_bad h
  | true =>
    rw [sel_true]
    rw [sel_ltb] at hx
    split at hx
    · rename_i h1
      have h2 := (ltb_iff _ _).1 hx
      have hs : sInt b = (b : Int) := by unfold sInt; rw [if_pos (by omega)]
      rw [hs]
      have e1 : Nat.add t b = t + b := rfl
      have e2 : Nat.add u b = u + b := rfl
      rw [e1, e2]
      refine ⟨_, VR.btw (t + b) (u + b) (z + b) (by omega) (by omega) (by omega), ?_⟩
      have hw : IntKind.i64.wrap (z + (b : Int)) = z + (b : Int) := by
        rw [wrap_sInt]; exact sInt_uInt _ (by omega) (by omega)
      simp [binOp, Op.intArith, hw]
    · cases hx

theorem flip_flip {op : BinOp} {p c : Nat} (h : tagOf (cmpV (flipOp op) p c) ≠ 15) : flipOp (flipOp op) = op := by
  cases op <;> first | rfl | exact absurd (tag_mk15 _) h

theorem quoV_sound {op : BinOp} {ty : TypeId} {j lo hi b : Nat} (hop : isQuo op = true) (hb : b < 18446744073709551616) (h1 : lo < 1099511627776) (h2 : hi < 1099511627776) (h3 : lo = 0 ∨ (lo : Int) - 549755813888 ≤ E.int j)
    (h4 : hi = 0 ∨ E.int j ≤ (hi : Int) - 549755813888) (h : tagOf (quoV (payOf (wV j lo hi)) b) ≠ 15) :
    ∃ x, VR ρ L (quoV (payOf (wV j lo hi)) b) x ∧ (binOp op ty (.int .i64 (E.int j)) (.int .i64 (sInt b))).run P w = .ok x w := by
  have hop' : op = .quo := by cases op <;> first | rfl | cases hop
  subst hop'
  obtain ⟨p1, p2, p3⟩ := v_parts j lo hi h1 h2
  unfold quoV at h ⊢
  rw [p1, p2, p3] at h ⊢
  cases hq : sel (Nat.ble 549755813888 lo) (sel (Nat.beq hi 0) false (sel (Nat.ble 1 b) (ltb b 549755813888) false)) false with
  | false => rw [hq, sel_false] at h; exact absurd (tag_mk15 _) h
  | true =>
    rw [hq, sel_true] at h
    rw [sel_true]
    rw [sel_ble, sel_beq, sel_ble] at hq
    split at hq
    · rename_i hl0
      split at hq
      · cases hq
      · rename_i hh0
        split at hq
        · rename_i hb1
          have hb2 := (ltb_iff _ _).1 hq
          dsimp only at h ⊢
          rw [sel_beq] at h ⊢
          split at h
          · rename_i heq
            rw [if_pos heq]
            have e1 : Nat.div (Nat.sub lo 549755813888) b = (lo - 549755813888) / b := rfl
            have e2 : Nat.div (Nat.sub hi 549755813888) b = (hi - 549755813888) / b := rfl
            rw [e1, e2] at heq
            rw [e1]
            have hz0 : 0 ≤ E.int j := by omega
            obtain ⟨z, hz⟩ : ∃ z : Nat, E.int j = (z : Int) := ⟨(E.int j).toNat, by omega⟩
            have hzl : lo - 549755813888 ≤ z := by omega
            have hzh : z ≤ hi - 549755813888 := by omega
            have hdiv : z / b = (lo - 549755813888) / b := by
              have a1 := Nat.div_le_div_right (c := b) hzl
              have a2 := Nat.div_le_div_right (c := b) hzh
              omega
            have hsb : sInt b = (b : Int) := by unfold sInt; rw [if_pos (by omega)]
            have hlt : z / b < 9223372036854775808 := Nat.lt_of_le_of_lt (Nat.div_le_self _ _) (by omega)
            have hv := VR.int (ρ := ρ) (L := L) ((lo - 549755813888) / b) (by rw [← hdiv]; omega)
            refine ⟨_, hv, ?_⟩
            rw [← hdiv, hz, hsb]
            have hs2 : sInt (z / b) = ((z / b : Nat) : Int) := by unfold sInt; rw [if_pos hlt]
            rw [hs2]
            have hne : ¬ (b : Int) = 0 := by omega
            have hw : IntKind.i64.wrap (((z / b : Nat) : Int)) = ((z / b : Nat) : Int) := by
              rw [wrap_sInt]; exact sInt_uInt _ (by omega) (by omega)
            have ht : Int.tdiv (z : Int) (b : Int) = ((z / b : Nat) : Int) := nat_tdiv z b
            have hb0 : ¬ b = 0 := by omega
            have hw' : IntKind.i64.wrap ((z : Int) / (b : Int)) = (z : Int) / (b : Int) := by rw [← Int.natCast_ediv]; exact hw
            simp [binOp, Op.intDiv, hb0, ht, hw']
          · exact absurd (tag_mk15 _) h
        · cases hq
    · cases hq

end
end Go.Eng
