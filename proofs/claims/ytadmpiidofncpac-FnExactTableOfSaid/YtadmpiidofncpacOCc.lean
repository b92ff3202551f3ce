/- Part of the evaluator, in company. -/
import Derived.Test.YtadmpiidofncpacOCb
import Derived.StepT
import Derived.Conc.Own
set_option linter.unusedSectionVars false
set_option linter.unusedSimpArgs false
set_option linter.unusedVariables false
namespace Go.Eng
open Go Go.RowKit
variable [E : Env]
theorem z1z : tagOf badW = 15 := rfl
theorem z1i (p : Nat) : tagOf (wI p) = 1 := z1m 1 p (by omega)
theorem z8k (p : Nat) : payOf (wI p) = p := z05 1 p (by omega)
theorem z15 (b : Bool) : tagOf (wB b) = 2 := by cases b <;> rfl
theorem z0P (b o : Nat) : tagOf (wP b o) = 3 := z1m 3 _ (by omega)
theorem z1e (b e o n k : Nat) : tagOf (wS b e o n k) = 4 := z1m 4 _ (by omega)
theorem z0h (p : Nat) : tagOf (mk 6 p) = 6 := z1m 6 p (by omega)
theorem z0U (p : Nat) : tagOf (mk 8 p) = 8 := z1m 8 p (by omega)
theorem zS (p : Nat) : tagOf (mk 10 p) = 10 := z1m 10 p (by omega)
theorem z0D (p : Nat) : tagOf (mk 13 p) = 13 := z1m 13 p (by omega)
theorem z1t (j lo hi : Nat) : tagOf (wV j lo hi) = 12 := z1m 12 _ (by omega)
theorem z1u (b j lo hi : Nat) : tagOf (wO b j lo hi) = 11 := z1m 11 _ (by omega)
theorem z1v (t u : Nat) : tagOf (wG t u) = 9 := z1m 9 _ (by omega)
theorem z0V (p : Nat) : tagOf (mk 5 p) = 5 := z1m 5 p (by omega)
theorem zW (p : Nat) : tagOf (mk 7 p) = 7 := z1m 7 p (by omega)
theorem z1I (q : Nat) : tagOf (mk 15 q) = 15 := z1m 15 _ (by omega)
theorem z7E (j lo hi : Nat) (h1 : lo < 1099511627776) (h2 : hi < 1099511627776) : vHi (payOf (wV j lo hi)) = hi ∧ vLo (payOf (wV j lo hi)) = lo ∧ vIx (payOf (wV j lo hi)) = j := by
 have hp : payOf (wV j lo hi) = 1099511627776 * (1099511627776 * j + lo) + hi := z05 12 _ (by omega)
 refine ⟨?_, ?_, ?_⟩ <;> rw [hp]
 ·show _ % 1099511627776 = _; omega
 ·show _ / 1099511627776 % 1099511627776 = _; omega
 ·show _ / 1208925819614629174706176 = _; omega
theorem zdS (b j lo hi : Nat) (h0 : j < 1048576) (h1 : lo < 4194304) (h2 : hi < 4194304) : oHi (payOf (wO b j lo hi)) = hi ∧ oLo (payOf (wO b j lo hi)) = lo ∧ oIx (payOf (wO b j lo hi)) = j ∧ oBlk (payOf (wO b j lo hi)) = b := by
 have hp : payOf (wO b j lo hi) = 4194304 * (4194304 * (1048576 * b + j) + lo) + hi := z05 11 _ (by omega)
 refine ⟨?_, ?_, ?_, ?_⟩ <;> rw [hp]
 ·show _ % 4194304 = _; omega
 ·show _ / 4194304 % 4194304 = _; omega
 ·show _ / 17592186044416 % 1048576 = _; omega
 ·show _ / 18446744073709551616 = _; omega
section
variable {ρ : Rho} {L : Look} {w : Nat} {v : Value}
theorem VR.z0i (h : VR ρ L w v) (ht : tagOf w = 1) : ∃ p, p < 18446744073709551616 ∧ w = wI p ∧ payOf w = p ∧ v = .int .i64 (sInt p) := by
 cases h with
 | int p hp => exact ⟨p, hp, rfl, z8k p, rfl⟩
 | bool b => rw [z15] at ht; cases ht
 | ptr => rw [z0P] at ht; cases ht
 | slice => rw [z1e] at ht; cases ht
 | agg => rw [z0h] at ht; cases ht
 | tup => rw [z0h] at ht; cases ht
 | clo => rw [zS] at ht; cases ht
 | iface => rw [zS] at ht; cases ht
 | chan => rw [zS] at ht; cases ht
 | fn => rw [z0U] at ht; cases ht
 | yld => rw [z0D] at ht; cases ht
 | var => rw [z1t] at ht; cases ht
 | opq => rw [z1u] at ht; cases ht
 | btw => rw [z1v] at ht; cases ht
 | u64 => rw [z0V] at ht; cases ht
 | map => unfold mapW at ht; rw [zW] at ht; cases ht
 | str => unfold strW at ht; rw [zW] at ht; cases ht
 | ostr => unfold ostrW at ht; rw [zW] at ht; cases ht
 | poly => unfold polyW at ht; rw [zW] at ht; cases ht
 | _ => cases ht
theorem VR.z1J (h : VR ρ L w v) (ht : tagOf w = 2) : ∃ b, w = wB b ∧ v = .bool b := by
 cases h with
 | int p hp => rw [z1i] at ht; cases ht
 | bool b => exact ⟨b, rfl, rfl⟩
 | ptr => rw [z0P] at ht; cases ht
 | slice => rw [z1e] at ht; cases ht
 | agg => rw [z0h] at ht; cases ht
 | tup => rw [z0h] at ht; cases ht
 | clo => rw [zS] at ht; cases ht
 | iface => rw [zS] at ht; cases ht
 | chan => rw [zS] at ht; cases ht
 | fn => rw [z0U] at ht; cases ht
 | yld => rw [z0D] at ht; cases ht
 | var => rw [z1t] at ht; cases ht
 | opq => rw [z1u] at ht; cases ht
 | btw => rw [z1v] at ht; cases ht
 | u64 => rw [z0V] at ht; cases ht
 | map => unfold mapW at ht; rw [zW] at ht; cases ht
 | str => unfold strW at ht; rw [zW] at ht; cases ht
 | ostr => unfold ostrW at ht; rw [zW] at ht; cases ht
 | poly => unfold polyW at ht; rw [zW] at ht; cases ht
 | _ => cases ht
theorem VR.z3F (h : VR ρ L 18 v) : v = .bool true := by
 obtain ⟨b, hb, rfl⟩ := h.z1J rfl
 cases b
 ·exact absurd hb (by decide)
 ·rfl
theorem VR.z2O (h : VR ρ L 2 v) : v = .bool false := by
 obtain ⟨b, hb, rfl⟩ := h.z1J rfl
 cases b
 ·rfl
 ·exact absurd hb (by decide)
theorem VR.z1j (h : VR ρ L w v) (ht : tagOf w = 3) : (w = 3 ∧ v = .pointer none) ∨
  ∃ b o rb d sz, ρ b = some (rb, d, sz) ∧ o < 1048576 ∧ w = wP b o ∧ v = .pointer (some ⟨rb, d + o, none⟩) := by
 cases h with
 | int p hp => rw [z1i] at ht; cases ht
 | bool b => rw [z15] at ht; cases ht
 | ptrNil => exact .inl ⟨rfl, rfl⟩
 | ptr b o rb d sz h1 h2 => exact .inr ⟨b, o, rb, d, sz, h1, h2, rfl, rfl⟩
 | slice => rw [z1e] at ht; cases ht
 | agg => rw [z0h] at ht; cases ht
 | tup => rw [z0h] at ht; cases ht
 | clo => rw [zS] at ht; cases ht
 | iface => rw [zS] at ht; cases ht
 | chan => rw [zS] at ht; cases ht
 | fn => rw [z0U] at ht; cases ht
 | yld => rw [z0D] at ht; cases ht
 | var => rw [z1t] at ht; cases ht
 | opq => rw [z1u] at ht; cases ht
 | btw => rw [z1v] at ht; cases ht
 | u64 => rw [z0V] at ht; cases ht
 | map => unfold mapW at ht; rw [zW] at ht; cases ht
 | str => unfold strW at ht; rw [zW] at ht; cases ht
 | ostr => unfold ostrW at ht; rw [zW] at ht; cases ht
 | poly => unfold polyW at ht; rw [zW] at ht; cases ht
 | _ => cases ht
theorem VR.z0E (h : VR ρ L w v) (ht : tagOf w = 4) : (w = sNil ∧ v = .slice none 0 0) ∨
  ∃ b e o n k rb d sz c a, ρ b = some (rb, d, sz) ∧ e < 256 ∧ o < 1048576 ∧ n < 1048576 ∧ k < 1048576 ∧ n ≤ c ∧ c < 9223372036854775808 ∧ (k = 0 ∨ k = c + 1) ∧
   (c = 0 ∨ (a = (⟨rb, d + o, none⟩ : Addr) ∧ o + c * e ≤ sz)) ∧ w = wS b e o n k ∧ v = .slice (some a) n c := by
 cases h with
 | int p hp => rw [z1i] at ht; cases ht
 | bool b => rw [z15] at ht; cases ht
 | ptr => rw [z0P] at ht; cases ht
 | sliceNil => exact .inl ⟨rfl, rfl⟩
 | slice b e o n k rb d sz c a h1 h2 h3 h4 h5 h6 h66 h7 h8 => exact .inr ⟨b, e, o, n, k, rb, d, sz, c, a, h1, h2, h3, h4, h5, h6, h66, h7, h8, rfl, rfl⟩
 | agg => rw [z0h] at ht; cases ht
 | tup => rw [z0h] at ht; cases ht
 | clo => rw [zS] at ht; cases ht
 | iface => rw [zS] at ht; cases ht
 | chan => rw [zS] at ht; cases ht
 | fn => rw [z0U] at ht; cases ht
 | yld => rw [z0D] at ht; cases ht
 | var => rw [z1t] at ht; cases ht
 | opq => rw [z1u] at ht; cases ht
 | btw => rw [z1v] at ht; cases ht
 | u64 => rw [z0V] at ht; cases ht
 | map => unfold mapW at ht; rw [zW] at ht; cases ht
 | str => unfold strW at ht; rw [zW] at ht; cases ht
 | ostr => unfold ostrW at ht; rw [zW] at ht; cases ht
 | poly => unfold polyW at ht; rw [zW] at ht; cases ht
 | _ => cases ht
theorem VR.zdT (h : VR ρ L w v) (ht : tagOf w = 6) : ∃ id kd m c vs, w = mk 6 id ∧ payOf w = id ∧ L id = some (.box kd m c) ∧ ((kd = 0 ∧ v = .agg vs) ∨ (kd = 1 ∧ v = .tuple vs)) ∧
  vs.size = m ∧ ∀ i (h : i < vs.size), VR ρ L (getW c i) vs[i] := by
 cases h with
 | int p hp => rw [z1i] at ht; cases ht
 | bool b => rw [z15] at ht; cases ht
 | ptr => rw [z0P] at ht; cases ht
 | slice => rw [z1e] at ht; cases ht
 | agg id m c vs h1 h2 h3 h4 h5 => exact ⟨id, 0, m, c, vs, rfl, z05 6 id (by omega), h1, .inl ⟨rfl, rfl⟩, h2, h3⟩
 | tup id m c vs h1 h2 h3 => exact ⟨id, 1, m, c, vs, rfl, z05 6 id (by omega), h1, .inr ⟨rfl, rfl⟩, h2, h3⟩
 | clo => rw [zS] at ht; cases ht
 | iface => rw [zS] at ht; cases ht
 | chan => rw [zS] at ht; cases ht
 | fn => rw [z0U] at ht; cases ht
 | yld => rw [z0D] at ht; cases ht
 | var => rw [z1t] at ht; cases ht
 | opq => rw [z1u] at ht; cases ht
 | btw => rw [z1v] at ht; cases ht
 | u64 => rw [z0V] at ht; cases ht
 | map => unfold mapW at ht; rw [zW] at ht; cases ht
 | str => unfold strW at ht; rw [zW] at ht; cases ht
 | ostr => unfold ostrW at ht; rw [zW] at ht; cases ht
 | poly => unfold polyW at ht; rw [zW] at ht; cases ht
 | _ => cases ht
theorem VR.z2L {m c : Nat} (h : VR ρ L w v) (ht : tagOf w = 6) (hL : L (payOf w) = some (.box 0 m c)) : ∃ vs, v = .agg vs ∧ CellsR ρ L m c vs := by
 cases h with
 | int p hp => rw [z1i] at ht; cases ht
 | bool b => rw [z15] at ht; cases ht
 | ptr => rw [z0P] at ht; cases ht
 | slice => rw [z1e] at ht; cases ht
 | agg id m' c' vs h1 h2 h3 h4 h5 =>
  rw [z05 6 id (by omega), h1] at hL
  injection hL with hL; injection hL with _ e1 e2
  subst e1; subst e2
  exact ⟨vs, rfl, h2, h4, fun i hi => ⟨vs[i]'(by rw [h2]; exact hi), by simp [h2, hi], h3 i (by rw [h2]; exact hi), h5 i hi⟩⟩
 | tup id m' c' vs h1 h2 h3 =>
  rw [z05 6 id (by omega), h1] at hL
  injection hL with hL; injection hL with e0
  cases e0
 | clo => rw [zS] at ht; cases ht
 | iface => rw [zS] at ht; cases ht
 | chan => rw [zS] at ht; cases ht
 | fn => rw [z0U] at ht; cases ht
 | yld => rw [z0D] at ht; cases ht
 | var => rw [z1t] at ht; cases ht
 | opq => rw [z1u] at ht; cases ht
 | btw => rw [z1v] at ht; cases ht
 | u64 => rw [z0V] at ht; cases ht
 | map => unfold mapW at ht; rw [zW] at ht; cases ht
 | str => unfold strW at ht; rw [zW] at ht; cases ht
 | ostr => unfold ostrW at ht; rw [zW] at ht; cases ht
 | poly => unfold polyW at ht; rw [zW] at ht; cases ht
 | _ => cases ht
theorem VR.zbZ (h : VR ρ L w v) (ht : tagOf w = 8) : v = .func (.func (payOf w)) #[] #[] := by
 cases h with
 | int p hp => rw [z1i] at ht; cases ht
 | bool b => rw [z15] at ht; cases ht
 | ptr => rw [z0P] at ht; cases ht
 | slice => rw [z1e] at ht; cases ht
 | agg => rw [z0h] at ht; cases ht
 | tup => rw [z0h] at ht; cases ht
 | clo => rw [zS] at ht; cases ht
 | iface => rw [zS] at ht; cases ht
 | chan => rw [zS] at ht; cases ht
 | fn f => rw [z05 8 f (by omega)]
 | yld => rw [z0D] at ht; cases ht
 | var => rw [z1t] at ht; cases ht
 | opq => rw [z1u] at ht; cases ht
 | btw => rw [z1v] at ht; cases ht
 | u64 => rw [z0V] at ht; cases ht
 | map => unfold mapW at ht; rw [zW] at ht; cases ht
 | str => unfold strW at ht; rw [zW] at ht; cases ht
 | ostr => unfold ostrW at ht; rw [zW] at ht; cases ht
 | poly => unfold polyW at ht; rw [zW] at ht; cases ht
 | _ => cases ht
theorem VR.zc0 (h : VR ρ L w v) (ht : tagOf w = 13) : ∃ rb d sz, ρ (payOf w) = some (rb, d, sz) ∧ v = .func (.yield rb) #[] #[] := by
 cases h with
 | int p hp => rw [z1i] at ht; cases ht
 | bool b => rw [z15] at ht; cases ht
 | ptr => rw [z0P] at ht; cases ht
 | slice => rw [z1e] at ht; cases ht
 | agg => rw [z0h] at ht; cases ht
 | tup => rw [z0h] at ht; cases ht
 | clo => rw [zS] at ht; cases ht
 | iface => rw [zS] at ht; cases ht
 | chan => rw [zS] at ht; cases ht
 | fn f => rw [z0U] at ht; cases ht
 | yld l rb d sz h1 => exact ⟨rb, d, sz, by rw [z05 13 l (by omega)]; exact h1, rfl⟩
 | var => rw [z1t] at ht; cases ht
 | opq => rw [z1u] at ht; cases ht
 | btw => rw [z1v] at ht; cases ht
 | u64 => rw [z0V] at ht; cases ht
 | map => unfold mapW at ht; rw [zW] at ht; cases ht
 | str => unfold strW at ht; rw [zW] at ht; cases ht
 | ostr => unfold ostrW at ht; rw [zW] at ht; cases ht
 | poly => unfold polyW at ht; rw [zW] at ht; cases ht
 | _ => cases ht
theorem VR.z7F (h : VR ρ L w v) (ht : tagOf w = 10) (hk : ∃ m c, L (payOf w) = some (.box 2 m c)) : ∃ m c vs, L (payOf w) = some (.box 2 m c) ∧ vs.size = m ∧ (∀ i (h : i < vs.size), VR ρ L (getW c (i + 1)) vs[i]) ∧
  v = .func (.func (getW c 0)) #[] vs := by
 cases h with
 | int p hp => rw [z1i] at ht; cases ht
 | bool b => rw [z15] at ht; cases ht
 | ptr => rw [z0P] at ht; cases ht
 | slice => rw [z1e] at ht; cases ht
 | agg => rw [z0h] at ht; cases ht
 | tup => rw [z0h] at ht; cases ht
 | clo id m c f vs h1 h2 h3 h4 => exact ⟨m, c, vs, by rw [z05 10 id (by omega)]; exact h1, h3, h4, by rw [h2]⟩
 | iface id t c v h1 h2 h3 =>
  obtain ⟨m, c, hk⟩ := hk
  rw [z05 10 id (by omega), h1] at hk
  injection hk with hk
  injection hk with hk
  omega
 | chan id b rb d sz h1 h2 =>
  obtain ⟨m, c, hk⟩ := hk
  rw [z05 10 id (by omega), h1] at hk
  injection hk with hk
  injection hk with hk
  omega
 | fn f => rw [z0U] at ht; cases ht
 | yld => rw [z0D] at ht; cases ht
 | var => rw [z1t] at ht; cases ht
 | opq => rw [z1u] at ht; cases ht
 | btw => rw [z1v] at ht; cases ht
 | u64 => rw [z0V] at ht; cases ht
 | map => unfold mapW at ht; rw [zW] at ht; cases ht
 | str => unfold strW at ht; rw [zW] at ht; cases ht
 | ostr => unfold ostrW at ht; rw [zW] at ht; cases ht
 | poly => unfold polyW at ht; rw [zW] at ht; cases ht
 | _ => cases ht
theorem VR.z8l (h : VR ρ L w v) (ht : tagOf w = 10) {t c : Nat} (hk : L (payOf w) = some (.box 3 t c)) : ∃ u, v = .iface t u ∧ VR ρ L c u ∧ c < 340282366920938463463374607431768211456 := by
 cases h with
 | int p hp => rw [z1i] at ht; cases ht
 | bool b => rw [z15] at ht; cases ht
 | ptr => rw [z0P] at ht; cases ht
 | slice => rw [z1e] at ht; cases ht
 | agg => rw [z0h] at ht; cases ht
 | tup => rw [z0h] at ht; cases ht
 | clo id m c f vs h1 h2 h3 h4 =>
  rw [z05 10 id (by omega), h1] at hk
  injection hk with hk
  injection hk with hk
  omega
 | iface id t c u h1 h2 h3 =>
  rw [z05 10 id (by omega), h1] at hk
  injection hk with hk
  injection hk with _ e1 e2
  subst e1; subst e2
  exact ⟨u, rfl, h2, h3⟩
 | chan id b rb d sz h1 h2 =>
  rw [z05 10 id (by omega), h1] at hk
  injection hk with hk
  injection hk with hk
  omega
 | fn f => rw [z0U] at ht; cases ht
 | yld => rw [z0D] at ht; cases ht
 | var => rw [z1t] at ht; cases ht
 | opq => rw [z1u] at ht; cases ht
 | btw => rw [z1v] at ht; cases ht
 | u64 => rw [z0V] at ht; cases ht
 | map => unfold mapW at ht; rw [zW] at ht; cases ht
 | str => unfold strW at ht; rw [zW] at ht; cases ht
 | ostr => unfold ostrW at ht; rw [zW] at ht; cases ht
 | poly => unfold polyW at ht; rw [zW] at ht; cases ht
 | _ => cases ht
theorem VR.notBad (h : VR ρ L w v) : tagOf w ≠ 15 := by
 cases h with
 | int p hp => rw [z1i]; decide
 | bool b => rw [z15]; decide
 | ptr => rw [z0P]; decide
 | slice => rw [z1e]; decide
 | agg => rw [z0h]; decide
 | tup => rw [z0h]; decide
 | clo => rw [zS]; decide
 | iface => rw [zS]; decide
 | chan => rw [zS]; decide
 | fn f => rw [z0U]; decide
 | yld => rw [z0D]; decide
 | var => rw [z1t]; decide
 | opq => rw [z1u]; decide
 | btw => rw [z1v]; decide
 | u64 => rw [z0V]; decide
 | map => unfold mapW; rw [zW]; decide
 | str => unfold strW; rw [zW]; decide
 | ostr => unfold ostrW; rw [zW]; decide
 | poly => unfold polyW; rw [zW]; decide
 | _ => decide
theorem z0g (w : Nat) : storable w = true ↔ tagOf w ≠ 0 ∧ tagOf w ≠ 6 ∧ tagOf w ≠ 15 ∧ w < 2 ^ 128 := by
 unfold storable
 rw [z8, z8, z8]
 by_cases h0 : tagOf w = 0
 ·simp [h0]
 ·by_cases h6 : tagOf w = 6
  ·simp [h6]
  ·by_cases h15 : tagOf w = 15
   ·simp [h15]
   ·simp only [h0, h6, h15, if_false, ne_eq, not_false_eq_true, true_and]; exact z08 _ _
theorem VR.cell (h : VR ρ L w v) (hs : storable w = true) : v.cells = #[v] ∧ v.oneCell' = true := by
 rw [z0g] at hs
 cases h with
 | undef => exact absurd rfl hs.1
 | agg => exact absurd (z0h _) hs.2.1
 | tup => exact absurd (z0h _) hs.2.1
 | _ => exact ⟨rfl, rfl⟩
end
section
variable {ρ : Rho} {L : Look}
theorem VR.z3U {v : Value} {w : Nat} (h : VR ρ L w v) (ht : tagOf w = 5) : ∃ p, p < 18446744073709551616 ∧ payOf w = p ∧ v = .int .u64 (p : Int) := by
 cases h with
 | int p hp => rw [z1i] at ht; cases ht
 | bool b => rw [z15] at ht; cases ht
 | ptr => rw [z0P] at ht; cases ht
 | slice => rw [z1e] at ht; cases ht
 | agg => rw [z0h] at ht; cases ht
 | tup => rw [z0h] at ht; cases ht
 | clo => rw [zS] at ht; cases ht
 | iface => rw [zS] at ht; cases ht
 | chan => rw [zS] at ht; cases ht
 | fn f => rw [z0U] at ht; cases ht
 | yld => rw [z0D] at ht; cases ht
 | var => rw [z1t] at ht; cases ht
 | opq => rw [z1u] at ht; cases ht
 | btw => rw [z1v] at ht; cases ht
 | u64 p hp => exact ⟨p, hp, z05 5 p (by omega), rfl⟩
 | map => unfold mapW at ht; rw [zW] at ht; cases ht
 | str => unfold strW at ht; rw [zW] at ht; cases ht
 | ostr => unfold ostrW at ht; rw [zW] at ht; cases ht
 | poly => unfold polyW at ht; rw [zW] at ht; cases ht
 | _ => cases ht
end
theorem z4k (n : Int) (h1 : -9223372036854775808 ≤ n) (h2 : n < 9223372036854775808) : sInt (uInt n) = n := by
 unfold sInt uInt
 split <;> omega
theorem z9n (n : Int) : uInt n < 18446744073709551616 := by unfold uInt; omega
theorem z4J (ρ : Rho) (L : Look) (v : Value) (h : tagOf (encC v) ≠ 15) : VR ρ L (encC v) v := by
 unfold encC at h ⊢
 split at h
 ·rename_i n
  split at h
  ·rename_i hn
   rw [if_pos hn]
   have := VR.int (ρ := ρ) (L := L) (uInt n) (z9n n)
   rw [z4k n hn.1 hn.2] at this
   exact this
  ·exact absurd rfl h
 ·rename_i n
  split at h
  ·rename_i hn
   rw [if_pos hn]
   have := VR.u64 (ρ := ρ) (L := L) n.toNat (by omega)
   rw [show ((n.toNat : Nat) : Int) = n from by omega] at this
   exact this
  ·exact absurd rfl h
 ·exact .bool _
 ·exact .ptrNil
 ·exact .sliceNil
 ·exact .nilFunc
 ·exact .nilIface
 ·exact .mapNil
 ·exact .nilChan
 ·exact .str _
 ·rename_i f first captured
  split at h
  ·rename_i hc
   rw [if_pos hc]
   have h1 : first = #[] := Array.eq_empty_of_size_eq_zero hc.1
   have h2 : captured = #[] := Array.eq_empty_of_size_eq_zero hc.2
   subst h1; subst h2
   exact .fn f
  ·exact absurd rfl h
 ·rename_i vs
  split at h
  ·rename_i hc
   rw [if_pos hc]
   have h1 : vs = #[] := Array.eq_empty_of_size_eq_zero hc
   subst h1
   exact .undef
  ·exact absurd rfl h
 ·exact absurd rfl h
def evT (tmps : Array Value) : Operand → Value
 | .tmp t => tmps.getD t Go.undef
 | .const v => v
 | .global g => .pointer (some ⟨g, 0, none⟩)
 | .func f => .func (.func f) #[] #[]
theorem zC {ρ : Rho} {L : Look} {nt T : Nat} {tmps : Array Value} (h : TR ρ L nt T tmps) (o : Operand) (hb : tagOf (ev T o) ≠ 15) : VR ρ L (ev T o) (evT tmps o) := by
 cases o with
 | tmp t => exact h.2 t
 | const v => exact z4J ρ L v hb
 | global g => exact absurd rfl hb
 | func f => exact .fn f
theorem z1f (n : Int) : IntKind.i64.wrap n = sInt (uInt n) := by
 simp only [IntKind.wrap, IntKind.bits, IntKind.signed, sInt, uInt]
 simp
 split <;> split <;> omega
theorem zd2 (a b : Nat) : uInt (sInt a + sInt b) = (a + b) % 18446744073709551616 := by
 unfold uInt sInt; split <;> split <;> omega
theorem zd3 (a b : Nat) (ha : a < 18446744073709551616) (hb : b < 18446744073709551616) : uInt (sInt a - sInt b) = (a + (18446744073709551616 - b)) % 18446744073709551616 := by
 unfold uInt sInt; split <;> split <;> omega
theorem zak (a : Nat) (ha : a < 18446744073709551616) : sInt a % 18446744073709551616 = (a : Int) := by
 unfold sInt; split <;> omega
theorem zal (a b : Nat) (ha : a < 18446744073709551616) (hb : b < 18446744073709551616) : uInt (sInt a * sInt b) = (a * b) % 18446744073709551616 := by
 unfold uInt
 rw [Int.mul_emod, zak a ha, zak b hb, ← Int.natCast_mul]
 omega
theorem z9o (a : Nat) : bias a = (a + 9223372036854775808) % 18446744073709551616 := rfl
theorem z9p (a b : Nat) (ha : a < 18446744073709551616) (hb : b < 18446744073709551616) : bias a < bias b ↔ sInt a < sInt b := by
 rw [z9o, z9o]
 unfold sInt
 split <;> split <;> omega
theorem z7G (a b : Nat) (ha : a < 18446744073709551616) (hb : b < 18446744073709551616) : iLt a b = decide (sInt a < sInt b) := by
 have h := z9p a b ha hb
 have h2 := z08 (bias a) (bias b)
 rw [Bool.eq_iff_iff, decide_eq_true_iff]
 exact h2.trans h
theorem z2A (n : Nat) : Nat.mod n 18446744073709551616 < 18446744073709551616 := Nat.mod_lt n (by decide)
theorem zd4 (p : Nat) : Nat.sub 18446744073709551616 p = 18446744073709551616 - p := rfl
theorem z5t (a b : Nat) (ha : a < 18446744073709551616) (hb : b < 18446744073709551616) : sInt a = sInt b ↔ a = b := by
 unfold sInt; split <;> split <;> omega
theorem zdU (p : Nat) (hp : p < 18446744073709551616) : (iAbs p : Int) = if sInt p < 0 then -sInt p else sInt p := by
 unfold iAbs
 rw [zJ, zd4]
 unfold sInt
 split <;> split <;> omega
theorem z5J (p : Nat) (hp : p < 18446744073709551616) : isNeg p = decide (sInt p < 0) := by
 unfold isNeg
 rw [nble]
 congr 1
 rw [eq_iff_iff]
 unfold sInt; split <;> omega
theorem z4l (a b : Nat) : Int.tdiv (a : Int) (b : Int) = ((a / b : Nat) : Int) := by simp
theorem z4m (a b : Nat) : Int.tmod (a : Int) (b : Int) = ((a % b : Nat) : Int) := rfl
theorem z3G (p : Nat) (hp : p < 18446744073709551616) : (sInt p < 0 → sInt p = -(iAbs p : Int)) ∧ (¬ sInt p < 0 → sInt p = (iAbs p : Int)) ∧ iAbs p ≤ 9223372036854775808 ∧ (¬ sInt p < 0 → iAbs p < 9223372036854775808) := by
 have h := zdU p hp
 refine ⟨fun h1 => ?_, fun h1 => ?_, ?_, fun h1 => ?_⟩
 ·rw [if_pos h1] at h; omega
 ·rw [if_neg h1] at h; omega
 ·split at h
  ·unfold sInt at h; split at h <;> omega
  ·unfold sInt at h; split at h <;> omega
 ·rw [if_neg h1] at h
  unfold sInt at h; split at h <;> omega
theorem zd5 (a b : Nat) (ha : a < 18446744073709551616) (hb : b < 18446744073709551616) :
  (sInt a).tdiv (sInt b) = if decide (sInt a < 0) = decide (sInt b < 0) then ((iAbs a / iAbs b : Nat) : Int) else -((iAbs a / iAbs b : Nat) : Int) := by
 obtain ⟨a1, a2, _⟩ := z3G a ha
 obtain ⟨b1, b2, _⟩ := z3G b hb
 by_cases h1 : sInt a < 0 <;> by_cases h2 : sInt b < 0
 ·rw [if_pos (by simp [h1, h2]), a1 h1, b1 h2, Int.neg_tdiv, Int.tdiv_neg, z4l]; omega
 ·rw [if_neg (by simp [h1, h2]), a1 h1, b2 h2, Int.neg_tdiv, z4l]
 ·rw [if_neg (by simp [h1, h2]), a2 h1, b1 h2, Int.tdiv_neg, z4l]
 ·rw [if_pos (by simp [h1, h2]), a2 h1, b2 h2, z4l]
theorem zd6 (a b : Nat) (ha : a < 18446744073709551616) (hb : b < 18446744073709551616) :
  (sInt a).tmod (sInt b) = if sInt a < 0 then -((iAbs a % iAbs b : Nat) : Int) else ((iAbs a % iAbs b : Nat) : Int) := by
 obtain ⟨a1, a2, _⟩ := z3G a ha
 obtain ⟨b1, b2, _⟩ := z3G b hb
 by_cases h1 : sInt a < 0 <;> by_cases h2 : sInt b < 0
 ·rw [if_pos h1, a1 h1, b1 h2, Int.neg_tmod, Int.tmod_neg, z4m]
 ·rw [if_pos h1, a1 h1, b2 h2, Int.neg_tmod, z4m]
 ·rw [if_neg h1, a2 h1, b1 h2, Int.tmod_neg, z4m]
 ·rw [if_neg h1, a2 h1, b2 h2, z4m]
theorem z9q (q : Nat) (hq : q ≤ 18446744073709551616) : iNeg q = uInt (-(q : Int)) := by
 show (18446744073709551616 - q) % 18446744073709551616 = _
 unfold uInt; omega
theorem z7H (q : Nat) : uInt (q : Int) = q % 18446744073709551616 := by unfold uInt; omega
theorem zc1 (a b : Nat) (ha : a < 18446744073709551616) (hb : b < 18446744073709551616) : iQuo a b = uInt ((sInt a).tdiv (sInt b)) := by
 rw [zd5 a b ha hb]
 unfold iQuo
 rw [z5J a ha, z5J b hb, z8]
 obtain ⟨_, _, a3, _⟩ := z3G a ha
 have hq : iAbs a / iAbs b ≤ iAbs a := Nat.div_le_self _ _
 by_cases h1 : sInt a < 0 <;> by_cases h2 : sInt b < 0
 ·simp only [h1, h2, decide_true, if_true]; rw [z7H]; rfl
 ·simp only [h1, h2, decide_true, decide_false]
  rw [if_neg (by decide), if_neg (by decide)]
  exact z9q _ (by show iAbs a / iAbs b ≤ _; omega)
 ·simp only [h1, h2, decide_true, decide_false]
  rw [if_neg (by decide), if_neg (by decide)]
  exact z9q _ (by show iAbs a / iAbs b ≤ _; omega)
 ·simp only [h1, h2, decide_false, if_true]; rw [z7H]; rfl
theorem zdV (a b : Nat) (ha : a < 18446744073709551616) (hb : b < 18446744073709551616) : sInt (iRem a b) = (sInt a).tmod (sInt b) ∧ iRem a b < 18446744073709551616 := by
 rw [zd6 a b ha hb]
 unfold iRem
 rw [z5J a ha]
 obtain ⟨a1, a2, a3, a4⟩ := z3G a ha
 have hr : iAbs a % iAbs b ≤ iAbs a := Nat.mod_le _ _
 by_cases h1 : sInt a < 0
 ·simp only [h1, decide_true, if_true]
  show sInt (iNeg (iAbs a % iAbs b)) = _ ∧ iNeg (iAbs a % iAbs b) < _
  rw [z9q _ (by omega)]
  exact ⟨z4k _ (by omega) (by omega), z9n _⟩
 ·simp only [h1, decide_false, if_false]
  show sInt (iAbs a % iAbs b) = _ ∧ iAbs a % iAbs b < _
  have := a4 h1
  generalize iAbs a % iAbs b = r at *
  refine ⟨?_, by omega⟩
  unfold sInt; rw [if_pos (by omega)]
theorem zam (b : Bool) : wB (sel b false true) = wB (!b) := by cases b <;> rfl
theorem z4n (x y : Int) : (!decide (y < x)) = decide (x ≤ y) := by
 by_cases h : y < x
 ·have : ¬ x ≤ y := by omega
  simp [h, this]
 ·have : x ≤ y := by omega
  simp [h, this]
section
variable {P : Program} {ρ : Rho} {L : Look} {w : World}
theorem VR.zd7 (n : Int) (p : Nat) (hp : p < 18446744073709551616) (h : sInt p = n) : VR ρ L (wI p) (.int .i64 n) := by subst h; exact .int p hp
theorem zaY (op : BinOp) (t : TypeId) {x y : Nat} {vx vy : Value} (hx : VR ρ L x vx) (h5 : tagOf x = 5) (hy : VR ρ L y vy) (h : tagOf (binU op x y) ≠ 15) :
  ∃ r, VR ρ L (binU op x y) r ∧ (binOp op t vx vy).run P w = .ok r w := by
 obtain ⟨a, ha, hpa, rfl⟩ := hx.z3U h5
 unfold binU at h ⊢
 simp only [hpa] at h ⊢
 have w64 : ∀ z : Int, IntKind.u64.wrap z = z % 18446744073709551616 := fun z => by simp only [IntKind.wrap, IntKind.bits, IntKind.signed]; simp
 have shr : ∀ (k : IntKind) (b : Nat), b < 64 → (Op.shift .shr .u64 (a : Int) k (b : Int)).run P w = .ok (.int .u64 ((Nat.shiftRight a b : Nat) : Int)) w := by
  intro k b hb
  have hneg : ¬ ((b : Int) < 0) := by omega
  have hmin : min ((b : Int).toNat) IntKind.u64.bits = b := by
   have : IntKind.u64.bits = 64 := rfl
   rw [this]; omega
  have hpow : (2 : Int) ^ b = ((2 ^ b : Nat) : Int) := by simp
  have hd : Int.fdiv (a : Int) ((2 ^ b : Nat) : Int) = ((Nat.shiftRight a b : Nat) : Int) := by
   have e : Nat.shiftRight a b = a / 2 ^ b := Nat.shiftRight_eq_div_pow a b
   rw [e, Int.fdiv_eq_ediv_of_nonneg _ (Int.natCast_nonneg _)]
   exact (Int.natCast_ediv a (2 ^ b)).symm
  simp only [Op.shift, if_neg hneg, hmin, Sem.run_pure, hpow, hd]
 have shrlt : ∀ b : Nat, Nat.shiftRight a b < 18446744073709551616 := fun b => by
  have e : Nat.shiftRight a b = a / 2 ^ b := Nat.shiftRight_eq_div_pow a b
  rw [e]; exact Nat.lt_of_le_of_lt (Nat.div_le_self _ _) ha
 rw [z8] at h ⊢
 by_cases hy5 : tagOf y = 5
 ·rw [if_pos hy5] at h ⊢
  obtain ⟨b, hb, hpb, rfl⟩ := hy.z3U hy5
  simp only [hpb] at h ⊢
  cases op <;> simp only at h ⊢ <;> try (with_reducible exact absurd z1z h)
  case add =>
   refine ⟨_, .u64 _ (z2A _), ?_⟩
   have e : ((Nat.mod (Nat.add a b) 18446744073709551616 : Nat) : Int) = ((a : Int) + b) % 18446744073709551616 := by
    show (((a + b) % 18446744073709551616 : Nat) : Int) = _; omega
   rw [e]; simp [binOp, Op.intArith, w64]
  case sub =>
   refine ⟨_, .u64 _ (z2A _), ?_⟩
   have e : ((Nat.mod (Nat.add a (Nat.sub 18446744073709551616 b)) 18446744073709551616 : Nat) : Int) = ((a : Int) - b) % 18446744073709551616 := by
    show (((a + (18446744073709551616 - b)) % 18446744073709551616 : Nat) : Int) = _; omega
   rw [e]; simp [binOp, Op.intArith, w64]
  case mul =>
   refine ⟨_, .u64 _ (z2A _), ?_⟩
   have e : ((Nat.mod (Nat.mul a b) 18446744073709551616 : Nat) : Int) = ((a : Int) * b) % 18446744073709551616 := by
    show (((a * b) % 18446744073709551616 : Nat) : Int) = _
    rw [Int.natCast_emod, Int.natCast_mul]; rfl
   rw [e]; simp [binOp, Op.intArith, w64]
  case and =>
   have hl : Nat.land a b < 18446744073709551616 := Nat.lt_of_le_of_lt Nat.and_le_left ha
   refine ⟨_, .u64 _ hl, ?_⟩
   have e1 : (BitVec.ofInt 64 (a : Int)).toNat = a := by simp; omega
   have e2 : (BitVec.ofInt 64 (b : Int)).toNat = b := by simp; omega
   have e3 : (BitVec.ofInt IntKind.u64.bits (a : Int) &&& BitVec.ofInt IntKind.u64.bits (b : Int)).toNat = Nat.land a b := by
    rw [BitVec.toNat_and]
    show (BitVec.ofInt 64 (a : Int)).toNat &&& (BitVec.ofInt 64 (b : Int)).toNat = _
    rw [e1, e2]; rfl
   simp only [binOp, Op.intBits, ne_eq, not_true_eq_false, if_false, Sem.run_pure, e3, w64]
   congr 2
   omega
  case shr =>
   rw [zJ] at h ⊢
   by_cases hb0 : b < 64
   ·rw [if_pos hb0]
    exact ⟨_, .u64 _ (shrlt b), by simp only [binOp]; exact shr .u64 b hb0⟩
   ·rw [if_neg hb0] at h; exact absurd rfl h
  case eql =>
   refine ⟨_, .bool _, ?_⟩
   rw [nbeq]
   by_cases hab : a = b
   ·simp [binOp, Op.intCmp, hab]
   ·have : ¬ (a : Int) = (b : Int) := by omega
    simp [binOp, Op.intCmp, hab, this]
  case neq =>
   refine ⟨_, .bool _, ?_⟩
   rw [zf, nbeq]
   by_cases hab : a = b
   ·simp [binOp, Op.intCmp, hab]
   ·have : ¬ (a : Int) = (b : Int) := by omega
    simp [binOp, Op.intCmp, hab, this]
  case lss => exact ⟨_, .bool _, by have := z08 a b; by_cases hab : a < b <;> simp [binOp, Op.intCmp, hab, this.2] <;> (try omega) <;> (rw [Bool.eq_false_iff]; intro hh; exact hab (this.1 hh))⟩
  case leq => exact ⟨_, .bool _, by rw [nble]; simp [binOp, Op.intCmp]⟩
  case gtr => exact ⟨_, .bool _, by have := z08 b a; by_cases hab : b < a <;> simp [binOp, Op.intCmp, hab, this.2] <;> (try omega) <;> (rw [Bool.eq_false_iff]; intro hh; exact hab (this.1 hh))⟩
  case geq => exact ⟨_, .bool _, by rw [nble]; simp [binOp, Op.intCmp]⟩
 ·rw [if_neg hy5, z8] at h ⊢
  by_cases hy1 : tagOf y = 1
  ·rw [if_pos hy1] at h ⊢
   obtain ⟨b, hb, _, hpb, rfl⟩ := hy.z0i hy1
   simp only [hpb] at h ⊢
   cases op <;> simp only at h ⊢ <;> try (with_reducible exact absurd z1z h)
   case shr =>
    rw [zJ] at h ⊢
    by_cases hb0 : b < 64
    ·rw [if_pos hb0]
     have hs : sInt b = (b : Int) := by unfold sInt; rw [if_pos (by omega)]
     exact ⟨_, .u64 _ (shrlt b), by rw [hs]; simp only [binOp]; exact shr .i64 b hb0⟩
    ·rw [if_neg hb0] at h; exact absurd rfl h
  ·rw [if_neg hy1] at h; exact absurd rfl h
theorem wrap_small (m : Nat) (h : m < 9223372036854775808) : IntKind.i64.wrap (m : Int) = (m : Int) := by
 have e := z1f (m : Int)
 rw [e]
 have : uInt (m : Int) = m := by unfold uInt; omega
 rw [this]; unfold sInt; rw [if_pos h]
theorem z6S (op : BinOp) (t : TypeId) (a b : Nat) (ha : a < 18446744073709551616) (hb : b < 18446744073709551616) (h : tagOf (binI op a b) ≠ 15) :
  ∃ x, VR ρ L (binI op a b) x ∧ (binOp op t (.int .i64 (sInt a)) (.int .i64 (sInt b))).run P w = .ok x w := by
 have hlt := z7G a b ha hb
 have hgt := z7G b a hb ha
 have hinj := z5t a b ha hb
 cases op <;> simp only [binI] at h ⊢ <;> try (with_reducible exact absurd z1z h)
 case add =>
  refine ⟨_, .int _ (z2A _), ?_⟩
  simp [binOp, Op.intArith, z1f, zd2 a b]; rfl
 case sub =>
  refine ⟨_, .int _ (z2A _), ?_⟩
  simp [binOp, Op.intArith, z1f, zd3 a b ha hb]; rfl
 case mul =>
  refine ⟨_, .int _ (z2A _), ?_⟩
  simp [binOp, Op.intArith, z1f, zal a b ha hb]; rfl
 case quo =>
  rw [z8] at h ⊢
  by_cases hb0 : b = 0
  ·rw [if_pos hb0] at h; exact absurd rfl h
  ·rw [if_neg hb0]
   have hb1 : sInt b ≠ 0 := fun hh => hb0 ((z5t b 0 hb (by omega)).1 hh)
   refine ⟨_, .int _ (by rw [zc1 a b ha hb]; exact z9n _), ?_⟩
   simp [binOp, Op.intDiv, hb1, z1f, zc1 a b ha hb]
 case rem =>
  rw [z8] at h ⊢
  by_cases hb0 : b = 0
  ·rw [if_pos hb0] at h; exact absurd rfl h
  ·rw [if_neg hb0]
   have hb1 : sInt b ≠ 0 := fun hh => hb0 ((z5t b 0 hb (by omega)).1 hh)
   obtain ⟨r1, r2⟩ := zdV a b ha hb
   exact ⟨_, .zd7 _ _ r2 r1, by simp [binOp, Op.intDiv, hb1]⟩
 case shl =>
  rw [zJ] at h ⊢
  by_cases hb0 : b < 63
  ·rw [if_pos hb0]
   have hp : 2 ^ b < 9223372036854775808 := by
    have := Nat.pow_lt_pow_right (show 1 < 2 by omega) hb0
    have e : (2 : Nat) ^ 63 = 9223372036854775808 := by decide
    omega
   have hs : sInt b = (b : Int) := by unfold sInt; rw [if_pos (by omega)]
   have hs2 : sInt (2 ^ b) = ((2 ^ b : Nat) : Int) := by unfold sInt; rw [if_pos hp]
   have hm := zal a (2 ^ b) ha (by omega)
   rw [hs2] at hm
   have e1 : Nat.mod (Nat.shiftLeft a b) 18446744073709551616 = a * 2 ^ b % 18446744073709551616 := by
    show (a <<< b) % 18446744073709551616 = _
    rw [Nat.shiftLeft_eq]
   refine ⟨_, .int _ (z2A _), ?_⟩
   rw [e1, ← hm, hs]
   have hneg : ¬ ((b : Int) < 0) := by omega
   have hmin : min ((b : Int).toNat) IntKind.i64.bits = b := by
    have : IntKind.i64.bits = 64 := rfl
    rw [this]; omega
   have hpow : (2 : Int) ^ b = ((2 ^ b : Nat) : Int) := by simp
   simp only [binOp, Op.shift, if_neg hneg, hmin, Sem.run_pure, hpow, z1f]
  ·rw [if_neg hb0] at h; exact absurd rfl h
 case shr =>
  rw [zJ] at h ⊢
  by_cases ha0 : a < 9223372036854775808
  ·rw [if_pos ha0, zJ] at h ⊢
   by_cases hb0 : b < 64
   ·rw [if_pos hb0]
    have e : Nat.shiftRight a b = a / 2 ^ b := Nat.shiftRight_eq_div_pow a b
    have hle : Nat.shiftRight a b ≤ a := by rw [e]; exact Nat.div_le_self _ _
    have hs : sInt b = (b : Int) := by unfold sInt; rw [if_pos (by omega)]
    have hsa : sInt a = (a : Int) := by unfold sInt; rw [if_pos ha0]
    have hneg : ¬ ((b : Int) < 0) := by omega
    have hmin : min ((b : Int).toNat) IntKind.i64.bits = b := by
     have : IntKind.i64.bits = 64 := rfl
     rw [this]; omega
    have hpow : (2 : Int) ^ b = ((2 ^ b : Nat) : Int) := by simp
    have hd : Int.fdiv (a : Int) ((2 ^ b : Nat) : Int) = ((Nat.shiftRight a b : Nat) : Int) := by
     rw [e, Int.fdiv_eq_ediv_of_nonneg _ (Int.natCast_nonneg _)]
     exact (Int.natCast_ediv a (2 ^ b)).symm
    refine ⟨_, .zd7 ((Nat.shiftRight a b : Nat) : Int) _ (by omega) (by unfold sInt; rw [if_pos (by omega)]), ?_⟩
    rw [hs, hsa]
    simp only [binOp, Op.shift, if_neg hneg, hmin, Sem.run_pure, hpow, hd]
   ·rw [if_neg hb0] at h; exact absurd rfl h
  ·rw [if_neg ha0] at h; exact absurd rfl h
 case and =>
  rw [zJ] at h ⊢
  by_cases ha0 : a < 9223372036854775808
  ·rw [if_pos ha0, zJ] at h ⊢
   by_cases hb0 : b < 9223372036854775808
   ·rw [if_pos hb0]
    have hle : Nat.land a b ≤ a := Nat.and_le_left
    have hsb : sInt b = (b : Int) := by unfold sInt; rw [if_pos hb0]
    have hsa : sInt a = (a : Int) := by unfold sInt; rw [if_pos ha0]
    have e1 : (BitVec.ofInt 64 (a : Int)).toNat = a := by simp; omega
    have e2 : (BitVec.ofInt 64 (b : Int)).toNat = b := by simp; omega
    have e3 : (BitVec.ofInt IntKind.i64.bits (a : Int) &&& BitVec.ofInt IntKind.i64.bits (b : Int)).toNat = Nat.land a b := by
     rw [BitVec.toNat_and]
     show (BitVec.ofInt 64 (a : Int)).toNat &&& (BitVec.ofInt 64 (b : Int)).toNat = _
     rw [e1, e2]; rfl
    refine ⟨_, .zd7 ((Nat.land a b : Nat) : Int) _ (by omega) (by unfold sInt; rw [if_pos (by omega)]), ?_⟩
    rw [hsb, hsa]
    simp only [binOp, Op.intBits, ne_eq, not_true_eq_false, if_false, Sem.run_pure, e3]
    rw [show IntKind.i64.wrap ((Nat.land a b : Nat) : Int) = ((Nat.land a b : Nat) : Int) from wrap_small _ (by omega)]
   ·rw [if_neg hb0] at h; exact absurd rfl h
  ·rw [if_neg ha0] at h; exact absurd rfl h
 case or =>
  rw [zJ] at h ⊢
  by_cases ha0 : a < 9223372036854775808
  ·rw [if_pos ha0, zJ] at h ⊢
   by_cases hb0 : b < 9223372036854775808
   ·rw [if_pos hb0]
    have hle : Nat.lor a b < 9223372036854775808 := Nat.or_lt_two_pow (n := 63) (by omega) (by omega)
    have hsb : sInt b = (b : Int) := by unfold sInt; rw [if_pos hb0]
    have hsa : sInt a = (a : Int) := by unfold sInt; rw [if_pos ha0]
    have e1 : (BitVec.ofInt 64 (a : Int)).toNat = a := by simp; omega
    have e2 : (BitVec.ofInt 64 (b : Int)).toNat = b := by simp; omega
    have e3 : (BitVec.ofInt IntKind.i64.bits (a : Int) ||| BitVec.ofInt IntKind.i64.bits (b : Int)).toNat = Nat.lor a b := by
     rw [BitVec.toNat_or]
     show (BitVec.ofInt 64 (a : Int)).toNat ||| (BitVec.ofInt 64 (b : Int)).toNat = _
     rw [e1, e2]; rfl
    refine ⟨_, .zd7 ((Nat.lor a b : Nat) : Int) _ (by omega) (by unfold sInt; rw [if_pos (by omega)]), ?_⟩
    rw [hsb, hsa]
    simp only [binOp, Op.intBits, ne_eq, not_true_eq_false, if_false, Sem.run_pure, e3]
    rw [show IntKind.i64.wrap ((Nat.lor a b : Nat) : Int) = ((Nat.lor a b : Nat) : Int) from wrap_small _ (by omega)]
   ·rw [if_neg hb0] at h; exact absurd rfl h
  ·rw [if_neg ha0] at h; exact absurd rfl h
 case eql =>
  refine ⟨_, .bool _, ?_⟩
  rw [nbeq]
  by_cases hab : a = b
  ·simp [binOp, Op.intCmp, hab]
  ·have : ¬ sInt a = sInt b := fun hh => hab (hinj.1 hh)
   simp [binOp, Op.intCmp, hab, this]
 case neq =>
  rw [zam]
  refine ⟨_, .bool _, ?_⟩
  rw [nbeq]
  by_cases hab : a = b
  ·simp [binOp, Op.intCmp, hab]
  ·have : ¬ sInt a = sInt b := fun hh => hab (hinj.1 hh)
   simp [binOp, Op.intCmp, hab, this]
 case lss => exact ⟨_, .bool _, by rw [hlt]; simp [binOp, Op.intCmp]⟩
 case leq => rw [zam]; exact ⟨_, .bool _, by rw [hgt, z4n]; simp [binOp, Op.intCmp]⟩
 case gtr => exact ⟨_, .bool _, by rw [hgt]; simp [binOp, Op.intCmp]⟩
 case geq => rw [zam]; exact ⟨_, .bool _, by rw [hlt, z4n]; simp [binOp, Op.intCmp]⟩
theorem zd8 (b : Nat) (hb : b < 18446744073709551616) : ((bias b : Nat) : Int) = sInt b + 9223372036854775808 := by
 rw [z9o]; unfold sInt; split <;> omega
theorem VR.z3V {v : Value} {w : Nat} (h : VR ρ L w v) (ht : tagOf w = 12) : ∃ j lo hi : Nat, lo < 1099511627776 ∧ hi < 1099511627776 ∧ (lo = 0 ∨ (lo : Int) - 549755813888 ≤ E.int j) ∧ (hi = 0 ∨ E.int j ≤ (hi : Int) - 549755813888) ∧ w = wV j lo hi ∧ v = .int .i64 (E.int j) := by
 cases h with
 | int p hp => rw [z1i] at ht; cases ht
 | bool b => rw [z15] at ht; cases ht
 | ptr => rw [z0P] at ht; cases ht
 | slice => rw [z1e] at ht; cases ht
 | agg => rw [z0h] at ht; cases ht
 | tup => rw [z0h] at ht; cases ht
 | clo => rw [zS] at ht; cases ht
 | iface => rw [zS] at ht; cases ht
 | chan => rw [zS] at ht; cases ht
 | fn f => rw [z0U] at ht; cases ht
 | yld => rw [z0D] at ht; cases ht
 | var j lo hi h1 h2 h3 h4 => exact ⟨j, lo, hi, h1, h2, h3, h4, rfl, rfl⟩
 | opq => rw [z1u] at ht; cases ht
 | btw => rw [z1v] at ht; cases ht
 | u64 => rw [z0V] at ht; cases ht
 | map => unfold mapW at ht; rw [zW] at ht; cases ht
 | str => unfold strW at ht; rw [zW] at ht; cases ht
 | ostr => unfold ostrW at ht; rw [zW] at ht; cases ht
 | poly => unfold polyW at ht; rw [zW] at ht; cases ht
 | _ => cases ht
theorem VR.zdW {v : Value} {w : Nat} (h : VR ρ L w v) (ht : tagOf w = 11) : ∃ b j lo hi rb d sz c : Nat, ρ b = some (rb, d, sz) ∧ j < 1048576 ∧ lo < 4194304 ∧ hi < 4194304 ∧ lo ≤ (E.lst j).length ∧ (hi = 0 ∨ (E.lst j).length ≤ hi) ∧ (E.lst j).length ≤ c ∧ c ≤ sz ∧ c < 9223372036854775808 ∧ w = wO b j lo hi ∧ v = .slice (some ⟨rb, d, none⟩) (E.lst j).length c := by
 cases h with
 | int p hp => rw [z1i] at ht; cases ht
 | bool b => rw [z15] at ht; cases ht
 | ptr => rw [z0P] at ht; cases ht
 | slice => rw [z1e] at ht; cases ht
 | agg => rw [z0h] at ht; cases ht
 | tup => rw [z0h] at ht; cases ht
 | clo => rw [zS] at ht; cases ht
 | iface => rw [zS] at ht; cases ht
 | chan => rw [zS] at ht; cases ht
 | fn f => rw [z0U] at ht; cases ht
 | yld => rw [z0D] at ht; cases ht
 | var => rw [z1t] at ht; cases ht
 | btw => rw [z1v] at ht; cases ht
 | u64 => rw [z0V] at ht; cases ht
 | map => unfold mapW at ht; rw [zW] at ht; cases ht
 | str => unfold strW at ht; rw [zW] at ht; cases ht
 | ostr => unfold ostrW at ht; rw [zW] at ht; cases ht
 | poly => unfold polyW at ht; rw [zW] at ht; cases ht
 | opq b j lo hi rb d sz c h h1 h2 h3 h4 h5 h6 h7 h8 => exact ⟨b, j, lo, hi, rb, d, sz, c, h, h1, h2, h3, h4, h5, h6, h7, h8, rfl, rfl⟩
 | _ => cases ht
theorem VR.zc2 {v : Value} {w : Nat} (h : VR ρ L w v) (ht : tagOf w = 9) : ∃ (t u : Nat) (z : Int), u < 1152921504606846976 ∧ (t : Int) ≤ z ∧ z ≤ (u : Int) ∧ w = wG t u ∧ gLo (payOf w) = t ∧ gHi (payOf w) = u ∧ v = .int .i64 z := by
 cases h with
 | int p hp => rw [z1i] at ht; cases ht
 | bool b => rw [z15] at ht; cases ht
 | ptr => rw [z0P] at ht; cases ht
 | slice => rw [z1e] at ht; cases ht
 | agg => rw [z0h] at ht; cases ht
 | tup => rw [z0h] at ht; cases ht
 | clo => rw [zS] at ht; cases ht
 | iface => rw [zS] at ht; cases ht
 | chan => rw [zS] at ht; cases ht
 | fn f => rw [z0U] at ht; cases ht
 | yld => rw [z0D] at ht; cases ht
 | var => rw [z1t] at ht; cases ht
 | opq => rw [z1u] at ht; cases ht
 | u64 => rw [z0V] at ht; cases ht
 | map => unfold mapW at ht; rw [zW] at ht; cases ht
 | str => unfold strW at ht; rw [zW] at ht; cases ht
 | ostr => unfold ostrW at ht; rw [zW] at ht; cases ht
 | poly => unfold polyW at ht; rw [zW] at ht; cases ht
 | btw t u z h1 h2 h3 =>
  have hp : payOf (wG t u) = 1152921504606846976 * t + u := z05 9 _ (by omega)
  exact ⟨t, u, z, h1, h2, h3, rfl, by rw [hp]; show _ / 1152921504606846976 = _; omega, by rw [hp]; show _ % 1152921504606846976 = _; omega, rfl⟩
 | _ => cases ht
theorem VR.z5K {v : Value} {w : Nat} (h : VR ρ L w v) (ht : tagOf w = 14) : ∃ a, v = .slice (some a) 0 0 := by
 cases h with
 | int p hp => rw [z1i] at ht; cases ht
 | bool b => rw [z15] at ht; cases ht
 | ptr => rw [z0P] at ht; cases ht
 | slice => rw [z1e] at ht; cases ht
 | agg => rw [z0h] at ht; cases ht
 | tup => rw [z0h] at ht; cases ht
 | clo => rw [zS] at ht; cases ht
 | iface => rw [zS] at ht; cases ht
 | chan => rw [zS] at ht; cases ht
 | fn f => rw [z0U] at ht; cases ht
 | yld => rw [z0D] at ht; cases ht
 | var => rw [z1t] at ht; cases ht
 | opq => rw [z1u] at ht; cases ht
 | btw => rw [z1v] at ht; cases ht
 | u64 => rw [z0V] at ht; cases ht
 | map => unfold mapW at ht; rw [zW] at ht; cases ht
 | str => unfold strW at ht; rw [zW] at ht; cases ht
 | ostr => unfold ostrW at ht; rw [zW] at ht; cases ht
 | poly => unfold polyW at ht; rw [zW] at ht; cases ht
 | sl0 a => exact ⟨a, rfl⟩
 | _ => cases ht
theorem z2f {j lo hi c y n : Nat} (h1 : lo < 1099511627776) (h2 : hi < 1099511627776) (h3 : lo = 0 ∨ (lo : Int) - 549755813888 ≤ E.int j) (h4 : hi = 0 ∨ E.int j ≤ (hi : Int) - 549755813888) (hc : c ≠ 0)
  (h : tagOf (geV (payOf (wV j lo hi)) c y n) ≠ 15) : ((c : Int) - 549755813888 ≤ E.int j ∧ geV (payOf (wV j lo hi)) c y n = y) ∨ (E.int j < (c : Int) - 549755813888 ∧ geV (payOf (wV j lo hi)) c y n = n) := by
 obtain ⟨p1, p2, p3⟩ := z7E j lo hi h1 h2
 unfold geV at h ⊢
 rw [p1, p2, p3] at h ⊢
 cases hb1 : sel (Nat.beq lo 0) false (Nat.ble c lo) with
 | true =>
  rw [z8] at hb1
  split at hb1
  ·cases hb1
  ·have := Nat.le_of_ble_eq_true hb1
   exact .inl ⟨by omega, rfl⟩
 | false =>
  rw [hb1, z0f] at h
  rw [z0f]
  cases hb2 : sel (Nat.beq hi 0) false (ltb hi c) with
  | true =>
   rw [z8] at hb2
   split at hb2
   ·cases hb2
   ·have := (z08 _ _).1 hb2
    exact .inr ⟨by omega, rfl⟩
  | false =>
   rw [hb2, z0f] at h
   exact absurd (z1I _) h
theorem z4o {q : Nat} {k : Nat → Nat} (hq : q < 18446744073709551616) (h : tagOf (nearB q k) ≠ 15) : ∃ c : Nat, c ≠ 0 ∧ c < 1099511627775 ∧ sInt q = (c : Int) - 549755813888 ∧ nearB q k = k c := by
 have hbi := zd8 q hq
 unfold nearB at h ⊢
 dsimp only at h ⊢
 cases hx : sel (Nat.ble 9223371487098961921 (bias q)) (ltb (Nat.sub (bias q) 9223371487098961920) 1099511627775) false with
 | true =>
  rw [z0k] at hx
  split at hx
  ·rename_i hle
   have hlt := (z08 _ _).1 hx
   have e : Nat.sub (bias q) 9223371487098961920 = bias q - 9223371487098961920 := rfl
   rw [e] at hlt ⊢
   exact ⟨_, by omega, hlt, by omega, rfl⟩
  ·cases hx
 | false =>
  rw [hx, z0f] at h
  exact absurd z1z h
theorem z2l {op : BinOp} {ty : TypeId} {j lo hi c : Nat} (h1 : lo < 1099511627776) (h2 : hi < 1099511627776) (h3 : lo = 0 ∨ (lo : Int) - 549755813888 ≤ E.int j) (h4 : hi = 0 ∨ E.int j ≤ (hi : Int) - 549755813888) (hc : c ≠ 0)
  (h : tagOf (cmpV op (payOf (wV j lo hi)) c) ≠ 15) :
  ∃ b, cmpV op (payOf (wV j lo hi)) c = wB b ∧ (binOp op ty (.int .i64 (E.int j)) (.int .i64 ((c : Int) - 549755813888))).run P w = .ok (.bool b) w ∧
   (binOp (flipOp op) ty (.int .i64 ((c : Int) - 549755813888)) (.int .i64 (E.int j))).run P w = .ok (.bool b) w := by
 have e1 : Nat.succ c = c + 1 := rfl
 have hsc : ((c + 1 : Nat) : Int) = (c : Int) + 1 := by omega
 cases op <;> simp only [cmpV] at h ⊢ <;> try (exact absurd (z1I _) h)
 case eql =>
  have hy := z2f h1 h2 h3 h4 hc h
  rcases hy with ⟨a, b⟩ | ⟨a, b⟩
  ·rw [b] at h ⊢
   rcases z2f h1 h2 h3 h4 (by omega) h with ⟨a2, b2⟩ | ⟨a2, b2⟩
   ·rw [b2]; rw [e1, hsc] at a2
    have h5 : ¬ E.int j = (c : Int) - 549755813888 := by omega
    have h6 : ¬ (c : Int) - 549755813888 = E.int j := by omega
    exact ⟨false, rfl, by simp [binOp, Op.intCmp, h5], by simp [flipOp, binOp, Op.intCmp, h6]⟩
   ·rw [b2]; rw [e1, hsc] at a2
    have h5 : E.int j = (c : Int) - 549755813888 := by omega
    exact ⟨true, rfl, by simp [binOp, Op.intCmp, h5], by simp [flipOp, binOp, Op.intCmp, h5]⟩
  ·rw [b]
   have h5 : ¬ E.int j = (c : Int) - 549755813888 := by omega
   have h6 : ¬ (c : Int) - 549755813888 = E.int j := by omega
   exact ⟨false, rfl, by simp [binOp, Op.intCmp, h5], by simp [flipOp, binOp, Op.intCmp, h6]⟩
 case neq =>
  have hy := z2f h1 h2 h3 h4 hc h
  rcases hy with ⟨a, b⟩ | ⟨a, b⟩
  ·rw [b] at h ⊢
   rcases z2f h1 h2 h3 h4 (by omega) h with ⟨a2, b2⟩ | ⟨a2, b2⟩
   ·rw [b2]; rw [e1, hsc] at a2
    have h5 : ¬ E.int j = (c : Int) - 549755813888 := by omega
    have h6 : ¬ (c : Int) - 549755813888 = E.int j := by omega
    exact ⟨true, rfl, by simp [binOp, Op.intCmp, h5], by simp [flipOp, binOp, Op.intCmp, h6]⟩
   ·rw [b2]; rw [e1, hsc] at a2
    have h5 : E.int j = (c : Int) - 549755813888 := by omega
    exact ⟨false, rfl, by simp [binOp, Op.intCmp, h5], by simp [flipOp, binOp, Op.intCmp, h5]⟩
  ·rw [b]
   have h5 : ¬ E.int j = (c : Int) - 549755813888 := by omega
   have h6 : ¬ (c : Int) - 549755813888 = E.int j := by omega
   exact ⟨true, rfl, by simp [binOp, Op.intCmp, h5], by simp [flipOp, binOp, Op.intCmp, h6]⟩
 case lss =>
  rcases z2f h1 h2 h3 h4 hc h with ⟨a, b⟩ | ⟨a, b⟩ <;> rw [b]
  ·exact ⟨false, rfl, by simp [binOp, Op.intCmp]; omega, by simp [flipOp, binOp, Op.intCmp]; omega⟩
  ·exact ⟨true, rfl, by simp [binOp, Op.intCmp]; omega, by simp [flipOp, binOp, Op.intCmp]; omega⟩
 case geq =>
  rcases z2f h1 h2 h3 h4 hc h with ⟨a, b⟩ | ⟨a, b⟩ <;> rw [b]
  ·exact ⟨true, rfl, by simp [binOp, Op.intCmp]; omega, by simp [flipOp, binOp, Op.intCmp]; omega⟩
  ·exact ⟨false, rfl, by simp [binOp, Op.intCmp]; omega, by simp [flipOp, binOp, Op.intCmp]; omega⟩
 case gtr =>
  rcases z2f h1 h2 h3 h4 (by omega) h with ⟨a, b⟩ | ⟨a, b⟩ <;> rw [b] <;> rw [e1, hsc] at a
  ·exact ⟨true, rfl, by simp [binOp, Op.intCmp]; omega, by simp [flipOp, binOp, Op.intCmp]; omega⟩
  ·exact ⟨false, rfl, by simp [binOp, Op.intCmp]; omega, by simp [flipOp, binOp, Op.intCmp]; omega⟩
 case leq =>
  rcases z2f h1 h2 h3 h4 (by omega) h with ⟨a, b⟩ | ⟨a, b⟩ <;> rw [b] <;> rw [e1, hsc] at a
  ·exact ⟨false, rfl, by simp [binOp, Op.intCmp]; omega, by simp [flipOp, binOp, Op.intCmp]; omega⟩
  ·exact ⟨true, rfl, by simp [binOp, Op.intCmp]; omega, by simp [flipOp, binOp, Op.intCmp]; omega⟩
theorem zaZ {op : BinOp} {ty : TypeId} {p b t : Nat} {z : Int} (hp : gLo p = t) (hz : (t : Int) ≤ z) (h : tagOf (cmpG op p b) ≠ 15) :
  ∃ r, cmpG op p b = wB r ∧ (binOp op ty (.int .i64 z) (.int .i64 (sInt b))).run P w = .ok (.bool r) w := by
 unfold cmpG at h ⊢
 rw [hp] at h ⊢
 cases hx : sel (Nat.ble b 1152921504606846976) (Nat.ble b t) false with
 | false => rw [hx, z0f] at h; exact absurd z1z h
 | true =>
  rw [hx, z0b] at h
  rw [z0b]
  rw [z0k] at hx
  split at hx
  ·rename_i h1
   have h2 := Nat.le_of_ble_eq_true hx
   have hs : sInt b = (b : Int) := by unfold sInt; rw [if_pos (by omega)]
   rw [hs]
   cases op <;> simp only at h ⊢ <;> try (with_reducible exact absurd z1z h)
   case lss => exact ⟨false, rfl, by simp [binOp, Op.intCmp]; omega⟩
   case geq => exact ⟨true, rfl, by simp [binOp, Op.intCmp]; omega⟩
   case gtr =>
    rw [zJ] at h
    rw [zJ]
    split at h
    ·rename_i hlt
     rw [if_pos hlt]
     exact ⟨true, rfl, by simp [binOp, Op.intCmp]; omega⟩
    ·exact absurd z1z h
  ·cases hx
theorem zb0 {op : BinOp} {ty : TypeId} {j lo hi b : Nat} (hop : isRem op = true) (h1 : lo < 1099511627776) (h2 : hi < 1099511627776) (h : tagOf (remV (payOf (wV j lo hi)) b) ≠ 15) :
  ∃ x, VR ρ L (remV (payOf (wV j lo hi)) b) x ∧ (binOp op ty (.int .i64 (E.int j)) (.int .i64 (sInt b))).run P w = .ok x w := by
 have hop' : op = .rem := by cases op <;> first | rfl | cases hop
 subst hop'
 obtain ⟨p1, p2, p3⟩ := z7E j lo hi h1 h2
 unfold remV at h ⊢
 simp only [p1, p2, p3, z8] at h ⊢
 by_cases hb : b = 3
 ·subst hb
  rw [if_pos rfl] at h ⊢
  have hs : sInt 3 = 3 := rfl
  have step : ∀ l : Nat, E.int j = (l : Int) → (binOp .rem ty (.int .i64 (E.int j)) (.int .i64 (sInt 3))).run P w = .ok (.int .i64 ((l % 3 : Nat) : Int)) w := by
   intro l hl
   rw [hl, hs]
   have ht : Int.tmod (l : Int) 3 = ((l % 3 : Nat) : Int) := z4m l 3
   simp [binOp, Op.intDiv, ht]
  by_cases hj : j = lenIx 1000
  ·rw [if_pos hj]
   have := step (E.lst 1000).length (by rw [hj]; exact E.len 1000 (by omega))
   rw [E.byThree] at this
   exact ⟨_, VR.int 0 (by omega), this⟩
  ·rw [if_neg hj] at h ⊢
   by_cases hj2 : j = lenIx 1001
   ·rw [if_pos hj2]
    have := step (E.lst 1001).length (by rw [hj2]; exact E.len 1001 (by omega))
    have hn := E.notThree
    have hlt := Nat.mod_lt (E.lst 1001).length (show 0 < 3 by omega)
    exact ⟨_, VR.btw 1 2 _ (by omega) (by omega) (by omega), this⟩
   ·rw [if_neg hj2] at h; exact absurd (z1I _) h
 ·rw [if_neg hb] at h; exact absurd (z1I _) h
theorem zb1 {op : BinOp} {ty : TypeId} {p b t u : Nat} {z : Int} (hop : isAdd op = true) (hp : gLo p = t) (hu : gHi p = u) (hz : (t : Int) ≤ z) (hz2 : z ≤ (u : Int)) (h : tagOf (addG p b) ≠ 15) :
  ∃ x, VR ρ L (addG p b) x ∧ (binOp op ty (.int .i64 z) (.int .i64 (sInt b))).run P w = .ok x w := by
 have hop' : op = .add := by cases op <;> first | rfl | cases hop
 subst hop'
 unfold addG at h ⊢
 rw [hp, hu] at h ⊢
 cases hx : sel (ltb u 576460752303423488) (ltb b 576460752303423488) false with
 | false => rw [hx, z0f] at h; exact absurd z1z h
 | true =>
  rw [z0b]
  rw [zJ] at hx
  split at hx
  ·rename_i h1
   have h2 := (z08 _ _).1 hx
   have hs : sInt b = (b : Int) := by unfold sInt; rw [if_pos (by omega)]
   rw [hs]
   have e1 : Nat.add t b = t + b := rfl
   have e2 : Nat.add u b = u + b := rfl
   rw [e1, e2]
   refine ⟨_, VR.btw (t + b) (u + b) (z + b) (by omega) (by omega) (by omega), ?_⟩
   have hw : IntKind.i64.wrap (z + (b : Int)) = z + (b : Int) := by
    rw [z1f]; exact z4k _ (by omega) (by omega)
   simp [binOp, Op.intArith, hw]
  ·cases hx
theorem flip_flip {op : BinOp} {p c : Nat} (h : tagOf (cmpV (flipOp op) p c) ≠ 15) : flipOp (flipOp op) = op := by
 cases op <;> first | rfl | exact absurd (z1I _) h
theorem zb2 {op : BinOp} {ty : TypeId} {j lo hi b : Nat} (hop : isQuo op = true) (hb : b < 18446744073709551616) (h1 : lo < 1099511627776) (h2 : hi < 1099511627776) (h3 : lo = 0 ∨ (lo : Int) - 549755813888 ≤ E.int j)
  (h4 : hi = 0 ∨ E.int j ≤ (hi : Int) - 549755813888) (h : tagOf (quoV (payOf (wV j lo hi)) b) ≠ 15) :
  ∃ x, VR ρ L (quoV (payOf (wV j lo hi)) b) x ∧ (binOp op ty (.int .i64 (E.int j)) (.int .i64 (sInt b))).run P w = .ok x w := by
 have hop' : op = .quo := by cases op <;> first | rfl | cases hop
 subst hop'
 obtain ⟨p1, p2, p3⟩ := z7E j lo hi h1 h2
 unfold quoV at h ⊢
 rw [p1, p2, p3] at h ⊢
 cases hq : sel (Nat.ble 549755813888 lo) (sel (Nat.beq hi 0) false (sel (Nat.ble 1 b) (ltb b 549755813888) false)) false with
 | false => rw [hq, z0f] at h; exact absurd (z1I _) h
 | true =>
  rw [hq, z0b] at h
  rw [z0b]
  rw [z0k, z8, z0k] at hq
  split at hq
  ·rename_i hl0
   split at hq
   ·cases hq
   ·rename_i hh0
    split at hq
    ·rename_i hb1
     have hb2 := (z08 _ _).1 hq
     dsimp only at h ⊢
     rw [z8] at h ⊢
     split at h
     ·rename_i heq
      rw [if_pos heq]
      have e1 : Nat.div (Nat.sub lo 549755813888) b = (lo - 549755813888) / b := rfl
      have e2 : Nat.div (Nat.sub hi 549755813888) b = (hi - 549755813888) / b := rfl
      rw [e1, e2] at heq
      rw [e1]
      have hz0 : 0 ≤ E.int j := by omega
      obtain ⟨z, hz⟩ : ∃ z : Nat, E.int j = (z : Int) := ⟨(E.int j).toNat, by omega⟩
      have hzl : lo - 549755813888 ≤ z := by omega
      have hzh : z ≤ hi - 549755813888 := by omega
      have hdiv : z / b = (lo - 549755813888) / b := by
       have a1 := Nat.div_le_div_right (c := b) hzl
       have a2 := Nat.div_le_div_right (c := b) hzh
       omega
      have hsb : sInt b = (b : Int) := by unfold sInt; rw [if_pos (by omega)]
      have hlt : z / b < 9223372036854775808 := Nat.lt_of_le_of_lt (Nat.div_le_self _ _) (by omega)
      have hv := VR.int (ρ := ρ) (L := L) ((lo - 549755813888) / b) (by rw [← hdiv]; omega)
      refine ⟨_, hv, ?_⟩
      rw [← hdiv, hz, hsb]
      have hs2 : sInt (z / b) = ((z / b : Nat) : Int) := by unfold sInt; rw [if_pos hlt]
      rw [hs2]
      have hne : ¬ (b : Int) = 0 := by omega
      have hw : IntKind.i64.wrap (((z / b : Nat) : Int)) = ((z / b : Nat) : Int) := by
       rw [z1f]; exact z4k _ (by omega) (by omega)
      have ht : Int.tdiv (z : Int) (b : Int) = ((z / b : Nat) : Int) := z4l z b
      have hb0 : ¬ b = 0 := by omega
      have hw' : IntKind.i64.wrap ((z : Int) / (b : Int)) = (z : Int) / (b : Int) := by rw [← Int.natCast_ediv]; exact hw
      simp [binOp, Op.intDiv, hb0, ht, hw']
     ·exact absurd (z1I _) h
    ·cases hq
  ·cases hq
end
end Go.Eng
namespace Go.Eng
open Go Go.RowKit
def junk : Obj := .cells #[] 0 (7, 7)
inductive Alike : Obj → Obj → Prop
 | junk (O : Obj) : Alike junk O
 | same (o : Obj) : Alike o o
 | thaw (c : Array Value) (t : TypeId) (fz : Nat × Nat) : Alike (.cells c t (0, c.size)) (.cells c t fz)
def ReadO (o : Obj) : Prop := o ≠ junk
def MineO (o : Obj) : Prop := o ≠ junk ∧ ∀ c t, o ≠ .cells c t (0, c.size)
def ReadAt (w : World) (b : Nat) : Prop := ∃ o, w.heap[b]? = some o ∧ ReadO o
def MineAt (w : World) (b : Nat) : Prop := ∃ o, w.heap[b]? = some o ∧ MineO o
def NotView : Obj → Prop
 | .view .. => False
 | _ => True
def NoViews (w : World) : Prop := ∀ (b : Nat) (o : Obj), w.heap[b]? = some o → NotView o
structure Rel (w W : World) : Prop where
 size : W.heap.size = w.heap.size
 alike : ∀ (b : Nat) (o O : Obj), w.heap[b]? = some o → W.heap[b]? = some O → Alike o O
 os : W.os = w.os
 tape : W.tape = w.tape
 output : W.output = w.output
 drawn : W.drawn = w.drawn
def EvAt (w0 : World) (n0 n1 b : Nat) (wr : Bool) : Prop := b < n1 ∧ (n0 ≤ b ∨ ReadAt w0 b) ∧ (wr = true → n0 ≤ b ∨ MineAt w0 b)
def EvOk (w0 : World) (n0 n1 : Nat) (e : Event) : Prop :=
 match e.loc with
 | .cell a => EvAt w0 n0 n1 a.block e.write
 | .obj r => EvAt w0 n0 n1 r e.write
 | .mark .noRoom => True
 | _ => False
theorem EvOk.mono {w0 : World} {n0 n1 n2 : Nat} (h : n1 ≤ n2) {e : Event} (he : EvOk w0 n0 n1 e) : EvOk w0 n0 n2 e := by
 unfold EvOk at he ⊢
 split at he
 ·exact ⟨Nat.lt_of_lt_of_le he.1 h, he.2⟩
 ·exact ⟨Nat.lt_of_lt_of_le he.1 h, he.2⟩
 ·trivial
 ·exact he.elim
def oneV : Value → Bool
 | .agg _ => false
 | .tuple _ => false
 | _ => true
def Fine {α : Type} (P : Program) : Sem α → World → Prop
 | .pure _, _ => True
 | .load _ a k, w => ∀ v, w.cell? a = some v → Fine P (k v) w
 | .store _ a v k, w => (∃ u, w.cell? a = some u) → w.frozen? a = false → oneV v = true → Fine P k (w.setCell a v)
 | .new o k, w => NotView o ∧ Fine P (k w.heap.size) { w with heap := w.heap.push o }
 | .shape r k, w => (∀ o, w.heap[r]? = some o → ReadO o) ∧ Fine P (k (w.shape? r)) w
 | .freeze .., _ => False
 | .frozen a k, w => (∀ o, w.heap[a.block]? = some o → MineO o) ∧ Fine P (k (w.frozen? a)) w
 | .getObj r k, w => ∀ o, w.heap[r]? = some o → (∀ c t fz, o ≠ .cells c t fz) → Fine P (k o) w
 | .setObj r o k, w => NotView o ∧ ((∃ u, w.heap[r]? = some u ∧ ∀ c t fz, u ≠ .cells c t fz) → Fine P k { w with heap := w.heap.setIfInBounds r o })
 | .choose q k, w => if q.forced then Fine P (k 0) w else Fine P (k (q.cut (w.tape w.drawn q))) { w with drawn := w.drawn + 1 }
 | .sys .., _ => False
 | .program k, w => Fine P (k P) w
 | .mark m k, w => m = .noRoom ∧ Fine P k w
 | .halt _, _ => True
theorem Rel.at {w W : World} (h : Rel w W) {b : Nat} {o : Obj} (hb : w.heap[b]? = some o) : ∃ O, W.heap[b]? = some O ∧ Alike o O := by
 have hlt : b < W.heap.size := by rw [h.size]; exact (Array.getElem?_eq_some_iff.1 hb).1
 exact ⟨W.heap[b], by simp [hlt], h.alike b o _ hb (by simp [hlt])⟩
theorem Rel.none {w W : World} (h : Rel w W) {b : Nat} (hb : w.heap[b]? = none) : W.heap[b]? = none := by
 rw [Array.getElem?_eq_none_iff] at hb ⊢
 rw [h.size]; exact hb
theorem z1F {o O : Obj} (h : Alike o O) (hm : MineO o) : O = o := by
 cases h with
 | junk => exact absurd rfl hm.1
 | same => rfl
 | thaw c t fz => exact absurd rfl (hm.2 c t)
theorem z3Q {o O : Obj} (h : Alike o O) (hc : ∀ c t fz, o ≠ .cells c t fz) : O = o := by
 cases h with
 | junk => exact absurd rfl (hc _ _ _)
 | same => rfl
 | thaw c t fz => exact absurd rfl (hc _ _ _)
theorem Rel.cell {w W : World} (h : Rel w W) {a : Addr} {v : Value} (hc : w.cell? a = some v) : W.cell? a = some v ∧ ReadAt w a.block ∧ a.block < w.heap.size := by
 unfold World.cell? at hc
 split at hc
 ·rename_i c t fz ho
  obtain ⟨O, hO, hal⟩ := h.at ho
  refine ⟨?_, ⟨_, ho, ?_⟩, (Array.getElem?_eq_some_iff.1 ho).1⟩
  ·unfold World.cell?
   rw [hO]
   cases hal with
   | junk =>
    exfalso
    split at hc
    ·cases hc
    ·simp at hc
   | same => exact hc
   | thaw => exact hc
  ·rintro hj
   unfold junk at hj
   injection hj with h1
   subst h1
   split at hc
   ·cases hc
   ·simp at hc
 ·cases hc
theorem Rel.write {w W : World} (h : Rel w W) {a : Addr} {v : Value} (hc : w.cell? a = some v) (hf : w.frozen? a = false) :
  MineAt w a.block ∧ W.heap[a.block]? = w.heap[a.block]? := by
 unfold World.cell? at hc
 split at hc
 ·rename_i c t fz ho
  obtain ⟨O, hO, hal⟩ := h.at ho
  have hm : MineO (.cells c t fz) := by
   refine ⟨?_, ?_⟩
   ·rintro hj
    unfold junk at hj
    injection hj with h1
    subst h1
    split at hc
    ·cases hc
    ·simp at hc
   ·rintro c' t' hj
    injection hj with h1 h2 h3
    subst h1; subst h2; subst h3
    split at hc
    ·cases hc
    ·have hlt := (Array.getElem?_eq_some_iff.1 hc).1
     unfold World.frozen? at hf
     rw [ho] at hf
     simp [hlt] at hf
  exact ⟨⟨_, ho, hm⟩, by rw [hO, ho, z1F hal hm]⟩
 ·cases hc
theorem World.z2B (w : World) (a : Addr) (v : Value) (b : Nat) (hb : b ≠ a.block) : (w.setCell a v).heap[b]? = w.heap[b]? := by
 unfold World.setCell
 simp only [Array.getElem?_modify]
 rw [if_neg (fun h => hb h.symm)]
theorem World.z2C (w : World) (a : Addr) (v : Value) : (w.setCell a v).heap.size = w.heap.size := by
 unfold World.setCell; simp
theorem Rel.setCell {w W : World} (h : Rel w W) {a : Addr} (v : Value) (he : W.heap[a.block]? = w.heap[a.block]?) : Rel (w.setCell a v) (W.setCell a v) := by
 refine ⟨by rw [World.z2C, World.z2C, h.size], ?_, h.os, h.tape, h.output, h.drawn⟩
 intro b o O ho hO
 by_cases hb : b = a.block
 ·subst hb
  unfold World.setCell at ho hO
  simp only [Array.getElem?_modify, if_pos] at ho hO
  rw [he, ho] at hO
  injection hO with hO; subst hO; exact .same _
 ·rw [World.z2B _ _ _ _ hb] at ho hO
  exact h.alike b o O ho hO
theorem Rel.push {w W : World} (h : Rel w W) (o : Obj) : Rel { w with heap := w.heap.push o } { W with heap := W.heap.push o } := by
 refine ⟨by simp [h.size], ?_, h.os, h.tape, h.output, h.drawn⟩
 intro b x X hx hX
 simp only [Array.getElem?_push, h.size] at hx hX
 split at hx
 ·rename_i hb
  rw [if_pos hb] at hX
  injection hx with hx; injection hX with hX
  subst hx; subst hX; exact .same _
 ·rename_i hb
  rw [if_neg hb] at hX
  exact h.alike b x X hx hX
theorem Rel.setObj {w W : World} (h : Rel w W) (r : Nat) (o : Obj) : Rel { w with heap := w.heap.setIfInBounds r o } { W with heap := W.heap.setIfInBounds r o } := by
 refine ⟨by simp [h.size], ?_, h.os, h.tape, h.output, h.drawn⟩
 intro b x X hx hX
 simp only [Array.getElem?_setIfInBounds, h.size] at hx hX
 split at hx
 ·rename_i hb
  rw [if_pos hb] at hX
  split at hx
  ·rename_i hb2
   rw [if_pos hb2] at hX
   injection hx with hx; injection hX with hX
   subst hx; subst hX; exact .same _
  ·cases hx
 ·rename_i hb
  rw [if_neg hb] at hX
  exact h.alike b x X hx hX
structure Lock (P : Program) (w0 W0 : World) (w W : World) : Prop where
 rel : Rel w W
 views : NoViews w
 size : w0.heap.size ≤ w.heap.size
 keep : ∀ b, b < w0.heap.size → ¬ MineAt w0 b → w.heap[b]? = w0.heap[b]?
 keep' : ∀ b, b < w0.heap.size → ¬ MineAt w0 b → W.heap[b]? = W0.heap[b]?
 same : W.os = W0.os ∧ W.tape = W0.tape ∧ W.output = W0.output
section
variable {P : Program} {w0 W0 w W : World}
theorem Lock.read (k : Lock P w0 W0 w W) {b : Nat} (h : ReadAt w b) : w0.heap.size ≤ b ∨ ReadAt w0 b := by
 by_cases hb : b < w0.heap.size
 ·by_cases hm : MineAt w0 b
  ·obtain ⟨o, h1, h2⟩ := hm; exact .inr ⟨o, h1, h2.1⟩
  ·obtain ⟨o, h1, h2⟩ := h
   rw [k.keep b hb hm] at h1
   exact .inr ⟨o, h1, h2⟩
 ·exact .inl (by omega)
theorem Lock.mine (k : Lock P w0 W0 w W) {b : Nat} (h : MineAt w b) : w0.heap.size ≤ b ∨ MineAt w0 b := by
 by_cases hb : b < w0.heap.size
 ·by_cases hm : MineAt w0 b
  ·exact .inr hm
  ·obtain ⟨o, h1, h2⟩ := h
   rw [k.keep b hb hm] at h1
   exact .inr ⟨o, h1, h2⟩
 ·exact .inl (by omega)
theorem Lock.readEv (k : Lock P w0 W0 w W) {b : Nat} (h : ReadAt w b) : EvAt w0 w0.heap.size w.heap.size b false := by
 refine ⟨?_, k.read h, fun h => by cases h⟩
 obtain ⟨o, h1, _⟩ := h; exact (Array.getElem?_eq_some_iff.1 h1).1
theorem Lock.mineEv (k : Lock P w0 W0 w W) {b : Nat} (h : MineAt w b) : EvAt w0 w0.heap.size w.heap.size b true := by
 have hr : ReadAt w b := by obtain ⟨o, h1, h2⟩ := h; exact ⟨o, h1, h2.1⟩
 exact ⟨(k.readEv hr).1, k.read hr, fun _ => k.mine h⟩
end
theorem z5L {w : World} {a : Addr} {v : Value} (h : NoViews w) : NoViews (w.setCell a v) := by
 intro b o ho
 by_cases hb : b = a.block
 ·subst hb
  unfold World.setCell at ho
  simp only [Array.getElem?_modify, if_pos] at ho
  cases hx : w.heap[a.block]? with
  | none => rw [hx] at ho; cases ho
  | some x =>
   rw [hx] at ho
   have hn := h _ _ hx
   injection ho with ho
   subst ho
   cases x <;> first | exact trivial | exact hn
 ·rw [World.z2B _ _ _ _ hb] at ho
  exact h b o ho
theorem z4p (es es' : Array Event) (e : Event) : es.push e ++ es' = es ++ (#[e] ++ es') := by
 apply Array.ext'; simp
section
variable {α : Type} {P : Program} {w : World} {r : Nat} {o o' : Obj}
theorem z4q {k : Obj → Sem α} (ho : w.heap[r]? = some o) (hnc : ∀ c t fz, o ≠ .cells c t fz) : (Sem.getObj r k).run P w = (k o).run P w := by
 simp only [Sem.run, ho]
theorem z6F {k : Obj → Sem α} {es : Array Event} (ho : w.heap[r]? = some o) (hnc : ∀ c t fz, o ≠ .cells c t fz) : (Sem.getObj r k).runT P w es = (k o).runT P w (es.push ⟨.obj r, false, o.isChan⟩) := by
 simp only [Sem.runT, ho]
theorem z4r {k : Sem α} (ho : w.heap[r]? = some o) (hnc : ∀ c t fz, o ≠ .cells c t fz) : (Sem.setObj r o' k).run P w = k.run P { w with heap := w.heap.setIfInBounds r o' } := by
 simp only [Sem.run, ho]
theorem z6G {k : Sem α} {es : Array Event} (ho : w.heap[r]? = some o) (hnc : ∀ c t fz, o ≠ .cells c t fz) : (Sem.setObj r o' k).runT P w es = k.runT P { w with heap := w.heap.setIfInBounds r o' } (es.push ⟨.obj r, true, o'.isChan⟩) := by
 simp only [Sem.runT, ho]
theorem z8m {k : Obj → Sem α} {x : α} {w' : World} (h : (Sem.getObj r k).run P w = .ok x w') : ∃ o, w.heap[r]? = some o ∧ (∀ c t fz, o ≠ .cells c t fz) ∧ (k o).run P w = .ok x w' := by
 cases ho : w.heap[r]? with
 | none => simp [Sem.run, ho] at h
 | some o =>
  have hnc : ∀ c t fz, o ≠ .cells c t fz := by rintro c t fz rfl; simp [Sem.run, ho] at h
  exact ⟨o, rfl, hnc, by rw [← z4q ho hnc]; exact h⟩
theorem zc3 {k : Sem α} {x : α} {w' : World} (h : (Sem.setObj r o' k).run P w = .ok x w') : ∃ o, w.heap[r]? = some o ∧ (∀ c t fz, o ≠ .cells c t fz) ∧ k.run P { w with heap := w.heap.setIfInBounds r o' } = .ok x w' := by
 cases ho : w.heap[r]? with
 | none => simp [Sem.run, ho] at h
 | some o =>
  have hnc : ∀ c t fz, o ≠ .cells c t fz := by rintro c t fz rfl; simp [Sem.run, ho] at h
  exact ⟨o, rfl, hnc, by rw [← z4r (o' := o') ho hnc]; exact h⟩
end
theorem lock {α : Type} (P : Program) (w0 W0 : World) : ∀ (s : Sem α) (w W : World) (es : Array Event) (x : α) (w' : World), Fine P s w → s.run P w = .ok x w' → Lock P w0 W0 w W →
  ∃ W' es', s.runT P W es = (.ok x W', es ++ es') ∧ Lock P w0 W0 w' W' ∧ w.heap.size ≤ w'.heap.size ∧ ∀ e ∈ es', EvOk w0 w0.heap.size w'.heap.size e := by
 intro s
 induction s with
 | pure a =>
  intro w W es x w' hf hr k
  simp only [Sem.run] at hr
  injection hr with h1 h2; subst h1; subst h2
  exact ⟨W, #[], by simp [Sem.runT], k, Nat.le_refl _, by simp⟩
 | load m a kk ih =>
  intro w W es x w' hf hr k
  simp only [Sem.run] at hr
  cases hc : w.cell? a with
  | none =>
   rw [hc] at hr
   simp only at hr
   exfalso
   unfold World.farLoad at hr
   cases ho : w.heap[a.block]? with
   | none => rw [ho] at hr; simp at hr
   | some o =>
    rw [ho] at hr
    have := k.views _ _ ho
    cases o <;> first | exact this.elim | simp at hr
  | some v =>
   rw [hc] at hr
   simp only at hr
   obtain ⟨h1, h2, h3⟩ := k.rel.cell hc
   obtain ⟨W', es', r1, r2, r3, r4⟩ := ih v w W (es.push ⟨.cell a, false, m == .atomic⟩) x w' (hf v hc) hr k
   refine ⟨W', #[⟨.cell a, false, m == .atomic⟩] ++ es', ?_, r2, r3, ?_⟩
   ·simp only [Sem.runT, h1]; rw [r1, z4p]
   ·intro e he
    rcases Array.mem_append.1 he with he | he
    ·have := Array.mem_singleton.1 he; subst this
     exact EvOk.mono r3 (show EvOk w0 _ w.heap.size _ from k.readEv h2)
    ·exact r4 e he
 | store m a v kk ih =>
  intro w W es x w' hf hr k
  have main : oneV v = true → ∀ (h : (match w.cell? a with
    | some _ => if w.frozen? a then Result.halt (.unsupported (.unsafePointer "a write to bytes that a string shares")) w else kk.run P (w.setCell a v)
    | none => match w.farStore P a v (m == Mode.atomic) with | .ok (w, _) => kk.run P w | .error h => .halt h w) = .ok x w'),
    (∀ W2 es2, (Sem.store m a v kk).runT P W2 es2 = match W2.cell? a with
     | some _ => if W2.frozen? a then (.halt (.unsupported (.unsafePointer "a write to bytes that a string shares")) W2, es2) else kk.runT P (W2.setCell a v) (es2.push ⟨.cell a, true, m == Mode.atomic⟩)
     | none => match W2.farStore P a v (m == Mode.atomic) with
      | .ok (w, touched) => kk.runT P w (es2 ++ touched.toArray.map (⟨.cell ·, true, m == Mode.atomic⟩))
      | .error h => (.halt h W2, es2)) →
    ∃ W' es', (Sem.store m a v kk).runT P W es = (.ok x W', es ++ es') ∧ Lock P w0 W0 w' W' ∧ w.heap.size ≤ w'.heap.size ∧ ∀ e ∈ es', EvOk w0 w0.heap.size w'.heap.size e := by
   intro hone h hT
   cases hc : w.cell? a with
   | none =>
    rw [hc] at h
    simp only at h
    exfalso
    unfold World.farStore at h
    cases ho : w.heap[a.block]? with
    | none => rw [ho] at h; simp at h
    | some o =>
     rw [ho] at h
     have := k.views _ _ ho
     cases o <;> first | exact this.elim | simp at h
   | some u =>
    rw [hc] at h
    simp only at h
    cases hz : w.frozen? a with
    | true => rw [hz, if_pos rfl] at h; cases h
    | false =>
     rw [hz] at h
     simp only [Bool.false_eq_true, if_false] at h
     obtain ⟨hm, heq⟩ := k.rel.write hc hz
     have hc' := (k.rel.cell hc).1
     have hz' : W.frozen? a = false := by
      unfold World.frozen? at hz ⊢; rw [heq]; exact hz
     have k2 : Lock P w0 W0 (w.setCell a v) (W.setCell a v) := by
      refine ⟨k.rel.setCell v heq, z5L k.views, by rw [World.z2C]; exact k.size, ?_, ?_, k.same⟩
      ·intro b hb hnm
       have : b ≠ a.block := fun hh => by
        subst hh
        rcases k.mine hm with h1 | h1
        ·omega
        ·exact hnm h1
       rw [World.z2B _ _ _ _ this]; exact k.keep b hb hnm
      ·intro b hb hnm
       have : b ≠ a.block := fun hh => by
        subst hh
        rcases k.mine hm with h1 | h1
        ·omega
        ·exact hnm h1
       rw [World.z2B _ _ _ _ this]; exact k.keep' b hb hnm
     obtain ⟨W', es', r1, r2, r3, r4⟩ := ih (w.setCell a v) (W.setCell a v) (es.push ⟨.cell a, true, m == Mode.atomic⟩) x w' (hf ⟨u, hc⟩ hz hone) h k2
     rw [World.z2C] at r3
     refine ⟨W', #[⟨.cell a, true, m == .atomic⟩] ++ es', ?_, r2, r3, ?_⟩
     ·rw [hT, hc', hz']
      simp only [Bool.false_eq_true, if_false]
      rw [r1, z4p]
     ·intro e he
      rcases Array.mem_append.1 he with he | he
      ·have := Array.mem_singleton.1 he; subst this
       exact EvOk.mono r3 (show EvOk w0 _ w.heap.size _ from k.mineEv hm)
      ·exact r4 e he
  cases v <;> first | (simp only [Sem.run] at hr; cases hr; done) | (simp only [Sem.run] at hr; exact main rfl hr (fun _ _ => by simp only [Sem.runT]; rfl))
 | new o kk ih =>
  intro w W es x w' hf hr k
  simp only [Sem.run] at hr
  have k2 : Lock P w0 W0 { w with heap := w.heap.push o } { W with heap := W.heap.push o } := by
   refine ⟨k.rel.push o, ?_, by simp; have := k.size; omega, ?_, ?_, k.same⟩
   ·intro b x hx
    simp only [Array.getElem?_push] at hx
    split at hx
    ·injection hx with hx; subst hx; exact hf.1
    ·exact k.views b x hx
   ·intro b hb hnm
    have := k.size
    simp only [Array.getElem?_push]
    rw [if_neg (by omega)]; exact k.keep b hb hnm
   ·intro b hb hnm
    have := k.size
    have := k.rel.size
    simp only [Array.getElem?_push]
    rw [if_neg (by omega)]; exact k.keep' b hb hnm
  obtain ⟨W', es', r1, r2, r3, r4⟩ := ih w.heap.size _ _ es x w' hf.2 hr k2
  refine ⟨W', es', ?_, r2, ?_, r4⟩
  ·simp only [Sem.runT]; rw [k.rel.size]; exact r1
  ·simp at r3; omega
 | shape r kk ih =>
  intro w W es x w' hf hr k
  simp only [Sem.run] at hr
  have hs : W.shape? r = w.shape? r := by
   cases ho : w.heap[r]? with
   | none => have := k.rel.none ho; unfold World.shape?; rw [ho, this]
   | some o =>
    obtain ⟨O, hO, hal⟩ := k.rel.at ho
    have hn := hf.1 o ho
    unfold World.shape?; rw [ho, hO]
    cases hal with
    | junk => exact absurd rfl hn
    | same => rfl
    | thaw => rfl
  obtain ⟨W', es', r1, r2, r3, r4⟩ := ih _ w W es x w' hf.2 hr k
  exact ⟨W', es', by simp only [Sem.runT]; rw [hs]; exact r1, r2, r3, r4⟩
 | freeze a n kk ih => intro w W es x w' hf; exact hf.elim
 | frozen a kk ih =>
  intro w W es x w' hf hr k
  simp only [Sem.run] at hr
  have hs : W.frozen? a = w.frozen? a := by
   cases ho : w.heap[a.block]? with
   | none => have := k.rel.none ho; unfold World.frozen?; rw [ho, this]
   | some o =>
    obtain ⟨O, hO, hal⟩ := k.rel.at ho
    have hn := z1F hal (hf.1 o ho)
    unfold World.frozen?; rw [ho, hO, hn]
  obtain ⟨W', es', r1, r2, r3, r4⟩ := ih _ w W es x w' hf.2 hr k
  exact ⟨W', es', by simp only [Sem.runT]; rw [hs]; exact r1, r2, r3, r4⟩
 | getObj r kk ih =>
  intro w W es x w' hf hr k
  obtain ⟨o, ho, hnc, hr'⟩ := z8m hr
  obtain ⟨O, hO, hal⟩ := k.rel.at ho
  have hn := z3Q hal hnc
  subst hn
  obtain ⟨W', es', r1, r2, r3, r4⟩ := ih O w W (es.push ⟨.obj r, false, O.isChan⟩) x w' (hf O ho hnc) hr' k
  have hread : ReadAt w r := ⟨O, ho, fun h => hnc _ _ _ h⟩
  refine ⟨W', #[⟨.obj r, false, O.isChan⟩] ++ es', ?_, r2, r3, ?_⟩
  ·rw [z6F hO hnc, r1, z4p]
  ·intro e he
   rcases Array.mem_append.1 he with he | he
   ·have := Array.mem_singleton.1 he; subst this
    exact EvOk.mono r3 (show EvOk w0 _ w.heap.size _ from k.readEv hread)
   ·exact r4 e he
 | setObj r o kk ih =>
  intro w W es x w' hf hr k
  obtain ⟨u, ho, hnc, hr'⟩ := zc3 hr
  obtain ⟨O, hO, hal⟩ := k.rel.at ho
  have hn := z3Q hal hnc
  subst hn
  have hmine : MineAt w r := ⟨O, ho, fun h => hnc _ _ _ h, fun c t h => hnc _ _ _ h⟩
  have hne : ∀ b, b < w0.heap.size → ¬ MineAt w0 b → r ≠ b := by
   intro b hb hnm hh
   subst hh
   rcases k.mine hmine with h1 | h1
   ·omega
   ·exact hnm h1
  have k2 : Lock P w0 W0 { w with heap := w.heap.setIfInBounds r o } { W with heap := W.heap.setIfInBounds r o } := by
   refine ⟨k.rel.setObj r o, ?_, by simp; exact k.size, ?_, ?_, k.same⟩
   ·intro b y hy
    simp only [Array.getElem?_setIfInBounds] at hy
    split at hy
    ·split at hy
     ·injection hy with hy; subst hy; exact hf.1
     ·cases hy
    ·exact k.views b y hy
   ·intro b hb hnm
    simp only [Array.getElem?_setIfInBounds, if_neg (hne b hb hnm)]; exact k.keep b hb hnm
   ·intro b hb hnm
    simp only [Array.getElem?_setIfInBounds, if_neg (hne b hb hnm)]; exact k.keep' b hb hnm
  obtain ⟨W', es', r1, r2, r3, r4⟩ := ih _ _ (es.push ⟨.obj r, true, o.isChan⟩) x w' (hf.2 ⟨O, ho, hnc⟩) hr' k2
  have r3' : w.heap.size ≤ w'.heap.size := by simpa using r3
  refine ⟨W', #[⟨.obj r, true, o.isChan⟩] ++ es', ?_, r2, r3', ?_⟩
  ·rw [z6G hO hnc, r1, z4p]
  ·intro e he
   rcases Array.mem_append.1 he with he | he
   ·have := Array.mem_singleton.1 he; subst this
    exact EvOk.mono r3' (show EvOk w0 _ w.heap.size _ from k.mineEv hmine)
   ·exact r4 e he
 | choose q kk ih =>
  intro w W es x w' hf hr k
  simp only [Sem.run] at hr
  simp only [Fine] at hf
  split at hr
  ·rename_i hq
   rw [if_pos hq] at hf
   obtain ⟨W', es', r1, r2, r3, r4⟩ := ih 0 w W es x w' hf hr k
   exact ⟨W', es', by simp only [Sem.runT]; rw [if_pos hq]; exact r1, r2, r3, r4⟩
  ·rename_i hq
   rw [if_neg hq] at hf
   have k2 : Lock P w0 W0 { w with drawn := w.drawn + 1 } { W with drawn := W.drawn + 1 } :=
    ⟨⟨k.rel.size, k.rel.alike, k.rel.os, k.rel.tape, k.rel.output, by simp [k.rel.drawn]⟩, k.views, k.size, k.keep, k.keep', k.same⟩
   obtain ⟨W', es', r1, r2, r3, r4⟩ := ih _ _ _ es x w' hf hr k2
   have e : W.tape W.drawn q = w.tape w.drawn q := by rw [k.rel.tape, k.rel.drawn]
   exact ⟨W', es', by simp only [Sem.runT]; rw [if_neg hq, e]; exact r1, r2, r3, r4⟩
 | sys c kk ih => intro w W es x w' hf; exact hf.elim
 | program kk ih =>
  intro w W es x w' hf hr k
  simp only [Sem.run] at hr
  obtain ⟨W', es', r1, r2, r3, r4⟩ := ih P w W es x w' hf hr k
  exact ⟨W', es', by simp only [Sem.runT]; exact r1, r2, r3, r4⟩
 | mark m kk ih =>
  intro w W es x w' hf hr k
  simp only [Sem.run] at hr
  obtain ⟨hm, hf⟩ := hf
  subst hm
  obtain ⟨W', es', r1, r2, r3, r4⟩ := ih w W (es.push ⟨.mark .noRoom, false, true⟩) x w' hf hr k
  refine ⟨W', #[⟨.mark .noRoom, false, true⟩] ++ es', ?_, r2, r3, ?_⟩
  ·simp only [Sem.runT]; rw [r1, z4p]
  ·intro e he
   rcases Array.mem_append.1 he with he | he
   ·have := Array.mem_singleton.1 he; subst this; exact trivial
   ·exact r4 e he
 | halt h => intro w W es x w' hf hr; simp [Sem.run] at hr
section
variable {α β : Type} {P : Program} {w : World}
theorem z8n {k : Sem α} {m : Mode} {a : Addr} {v u : Value} (h1 : w.cell? a = some u) (h2 : w.frozen? a = false) (h3 : oneV v = true) : (Sem.store m a v k).run P w = k.run P (w.setCell a v) := by
 cases v <;> first | (simp [oneV] at h3; done) | (simp only [Sem.run, h1, h2, Bool.false_eq_true, if_false])
theorem zb3 (f : α → Sem β) : ∀ (s : Sem α) {w : World}, Fine P s w → (∀ x w', s.run P w = .ok x w' → Fine P (f x) w') → Fine P (s.bind f) w := by
 intro s
 induction s with
 | pure a => intro w _ h; exact h a w rfl
 | load m a k ih =>
  intro w hf h v hv
  refine ih v (hf v hv) fun x w' hr => h x w' ?_
  simp only [Sem.run, hv]; exact hr
 | store m a v k ih =>
  intro w hf h hc hz ho
  refine ih (hf hc hz ho) fun x w' hr => h x w' ?_
  obtain ⟨u, hc⟩ := hc
  rw [z8n hc hz ho]; exact hr
 | new o k ih =>
  intro w hf h
  exact ⟨hf.1, ih _ hf.2 fun x w' hr => h x w' (by simp only [Sem.run]; exact hr)⟩
 | shape r k ih =>
  intro w hf h
  exact ⟨hf.1, ih _ hf.2 fun x w' hr => h x w' (by simp only [Sem.run]; exact hr)⟩
 | freeze a n k ih => intro w hf; exact hf.elim
 | frozen a k ih =>
  intro w hf h
  exact ⟨hf.1, ih _ hf.2 fun x w' hr => h x w' (by simp only [Sem.run]; exact hr)⟩
 | getObj r k ih =>
  intro w hf h o ho hnc
  exact ih o (hf o ho hnc) fun x w' hr => h x w' (by rw [z4q ho hnc]; exact hr)
 | setObj r o k ih =>
  intro w hf h
  refine ⟨hf.1, fun hu => ih (hf.2 hu) fun x w' hr => h x w' ?_⟩
  obtain ⟨u, hu, hnc⟩ := hu
  rw [z4r hu hnc]; exact hr
 | choose q k ih =>
  intro w hf h
  simp only [Sem.bind, Fine] at hf ⊢
  split
  ·rename_i hq
   rw [if_pos hq] at hf
   exact ih _ hf fun x w' hr => h x w' (by simp only [Sem.run]; rw [if_pos hq]; exact hr)
  ·rename_i hq
   rw [if_neg hq] at hf
   exact ih _ hf fun x w' hr => h x w' (by simp only [Sem.run]; rw [if_neg hq]; exact hr)
 | sys c k ih => intro w hf; exact hf.elim
 | program k ih =>
  intro w hf h
  exact ih _ hf fun x w' hr => h x w' (by simp only [Sem.run]; exact hr)
 | mark m k ih =>
  intro w hf h
  exact ⟨hf.1, ih hf.2 fun x w' hr => h x w' (by simp only [Sem.run]; exact hr)⟩
 | halt h => intro w _ _; trivial
theorem zc4 {s : Sem α} {f : α → Sem β} {w : World} (hf : Fine P s w) (h : ∀ x w', s.run P w = .ok x w' → Fine P (f x) w') : Fine P (s >>= f) w := zb3 f s hf h
def Plain (P : Program) (s : Sem α) : Prop := ∀ w x w', s.run P w = .ok x w' → Fine P s w
theorem z5M {s : Sem α} {f : α → Sem β} {w : World} (hs : ∀ x w', s.run P w = .ok x w' → Fine P s w) (h : ∀ x w1 y w', s.run P w = .ok x w1 → (f x).run P w1 = .ok y w' → Fine P (f x) w1)
  {y : β} {w' : World} (hr : (s >>= f).run P w = .ok y w') : Fine P (s >>= f) w := by
 rw [Sem.run_bind] at hr
 cases hx : s.run P w with
 | halt a b => rw [hx] at hr; simp at hr
 | ok x w1 =>
  rw [hx] at hr
  simp only [Result.andThen_ok] at hr
  refine zc4 (hs x w1 hx) fun x2 w2 h2 => ?_
  rw [hx] at h2
  injection h2 with h3 h4; subst h3; subst h4
  exact h x w1 y w' hx hr
theorem Plain.bind {s : Sem α} {f : α → Sem β} (hs : Plain P s) (h : ∀ x, Plain P (f x)) : Plain P (s >>= f) :=
 fun w y w' hr => z5M (hs w) (fun x w1 y w' _ h2 => h x w1 y w' h2) hr
theorem Plain.map {s : Sem α} {f : α → β} (hs : Plain P s) : Plain P (f <$> s) := Plain.bind (f := fun x => Sem.pure (f x)) hs fun _ _ _ _ _ => trivial
theorem zb (a : α) : Plain P (pure a) := fun _ _ _ _ => trivial
theorem zA (a : α) : Plain P (Sem.pure a) := fun _ _ _ _ => trivial
theorem zF (h : Halt) : Plain P (Sem.halt h : Sem α) := fun _ _ _ _ => trivial
theorem zk (s : String) : Plain P (stuck s : Sem α) := fun _ _ _ _ => trivial
theorem zo (s : Unsupported) : Plain P (unsupported s : Sem α) := fun _ _ _ _ => trivial
theorem zB (v : Value) : Plain P (goPanic v : Sem α) := fun _ _ _ _ => trivial
theorem z3W {s : Sem α} (h : ∀ w x w', s.run P w ≠ .ok x w') : Plain P s := fun w x w' hr => absurd hr (h w x w')
theorem z1g {s : Sem α} {f : α → Sem β} (h : ∀ x w y w', (f x).run P w ≠ .ok y w') : ∀ w y w', (s >>= f).run P w ≠ .ok y w' := by
 intro w y w' hr
 rw [Sem.run_bind] at hr
 cases hx : s.run P w with
 | halt a b => rw [hx] at hr; simp at hr
 | ok x w1 => rw [hx] at hr; simp only [Result.andThen_ok] at hr; exact h x w1 y w' hr
theorem z7I {s : Sem α} {f : α → Sem β} (h : ∀ w x w', s.run P w ≠ .ok x w') : ∀ w y w', (s >>= f).run P w ≠ .ok y w' := by
 intro w y w' hr
 rw [Sem.run_bind] at hr
 cases hx : s.run P w with
 | halt a b => rw [hx] at hr; simp at hr
 | ok x w1 => exact h w x w1 hx
theorem z2Z (u : Unsupported) : ∀ w x w', (unsupported u : Sem α).run P w ≠ .ok x w' := by intro w x w' h; simp [unsupported, Sem.run] at h
theorem z3a (v : Value) : ∀ w x w', (goPanic v : Sem α).run P w ≠ .ok x w' := by intro w x w' h; simp [goPanic, Sem.run] at h
theorem z9r (e : RuntimeError) : ∀ w x w', (runtimePanic e : Sem α).run P w ≠ .ok x w' := by
 unfold runtimePanic
 refine z1g fun p => ?_
 cases e with
 | typeAssertion i c a m => exact z1g fun _ => z1g fun _ => z3a _
 | panicNil => exact z1g fun _ => z1g fun _ => z3a _
 | _ => exact z3a _
theorem zc5 {c : Prop} [Decidable c] {s t : Sem α} (hs : c → Plain P s) (ht : ¬ c → Plain P t) : Plain P (if c then s else t) := by
 split
 ·exact hs ‹_›
 ·exact ht ‹_›
end
end Go.Eng
namespace Go.Eng
open Go Go.RowKit
open Go.Conc (G)
def padW (w : World) (p : Nat × Nat) : World := { w with heap := w.heap ++ Array.replicate p.1 junk, drawn := p.2 }
abbrev Sta := Frame × List Frame × World
def lone (fr : Frame) (cs : List Frame) (w : World) : Sta := (fr, cs, w)
class Pad where
 pad : Frame → List Frame → World → Nat × Nat
 main : Bool
 leap : Program → Frame → List Frame → World → (Sta → Prop) → Prop
 pick : Frame → List Frame → World → (Sta → Prop) → Sta
 pick_ok : ∀ fr cs w (Post : Sta → Prop), (∃ s, Post s) → Post (pick fr cs w Post)
variable [Pd : Pad]
def padded (fr : Frame) (cs : List Frame) (w : World) : World := padW w (Pd.pad fr cs w)
def Goer (P : Program) (main : Bool) (fr : Frame) (cs : List Frame) (w : World) (fr' : Frame) (cs' : List Frame) (w' : World) : Prop :=
 NoViews w → ∀ W, Rel w W → ∃ W' es, stepG P main (G fr cs) W = .go (G fr' cs') W' es ∧ Rel w' W' ∧ NoViews w' ∧ w.heap.size ≤ w'.heap.size ∧
  (W'.os = W.os ∧ W'.tape = W.tape ∧ W'.output = W.output) ∧ (∀ b, b < w.heap.size → ¬ MineAt w b → w'.heap[b]? = w.heap[b]? ∧ W'.heap[b]? = W.heap[b]?) ∧ ∀ e ∈ es, EvOk w w.heap.size w'.heap.size e
inductive One (P : Program) : Sta → Sta → Prop
 | mute (fr : Frame) (cs : List Frame) (fr' : Frame) (cs' : List Frame) (w : World) (h : ∀ W, stepG P Pd.main (G fr cs) W = .go (G fr' cs') W) : One P (fr, cs, w) (fr', cs', w)
 | op (fr : Frame) (cs : List Frame) (fr' : Frame) (cs' : List Frame) (w w' : World) (h : Goer P Pd.main fr cs (padded fr cs w) fr' cs' w') : One P (fr, cs, w) (fr', cs', w')
 | leap (fr : Frame) (cs : List Frame) (w : World) (Post : Sta → Prop) (h : Pd.leap P fr cs (padded fr cs w) Post) (hp : ∃ s, Post s) : One P (fr, cs, w) (Pd.pick fr cs w Post)
inductive Steps (P : Program) : Sta → Sta → Prop
 | nil (m : Sta) : Steps P m m
 | head {m m₁ m₂ : Sta} (h : One P m m₁) (h' : Steps P m₁ m₂) : Steps P m m₂
theorem Steps.refl (P : Program) (m : Sta) : Steps P m m := .nil m
theorem Steps.one {P : Program} {m m₁ : Sta} (h : One P m m₁) : Steps P m m₁ := .head h (.nil _)
theorem Steps.trans {P : Program} {m m₁ m₂ : Sta} (h : Steps P m m₁) (h' : Steps P m₁ m₂) : Steps P m m₂ := by
 induction h with
 | nil => exact h'
 | head a _ ih => exact .head a (ih h')
theorem z2c (P : Program) (fn : FuncId) (es : Array Event) : ∀ e ∈ seen P fn es, e ∈ es := by
 have key : ∀ (l : List Event) (q : Bool) (kept : Array Event), ∀ e ∈ (l.foldl (fun (x : Bool × Array Event) e =>
   match e.loc with | .mark (.extern f) => ((P.funcs[f]?).any (·.norace), x.2) | _ => (x.1, if x.1 && !e.sync then x.2 else x.2.push e)) (q, kept)).2, e ∈ l ∨ e ∈ kept := by
  intro l
  induction l with
  | nil => intro q kept e he; exact .inr he
  | cons a l ih =>
   intro q kept e he
   simp only [List.foldl_cons] at he
   split at he
   ·rcases ih _ _ e he with h | h
    ·exact .inl (List.mem_cons_of_mem _ h)
    ·exact .inr h
   ·rcases ih _ _ e he with h | h
    ·exact .inl (List.mem_cons_of_mem _ h)
    ·split at h
     ·exact .inr h
     ·rcases Array.mem_push.1 h with h | h
      ·exact .inr h
      ·subst h; exact .inl List.mem_cons_self
 intro e he
 unfold seen at he
 simp only at he
 rw [← Array.foldl_toList] at he
 rcases key es.toList _ #[] e he with h | h
 ·simpa using h
 ·simp at h
def nextOf (P : Program) (fr : Frame) (cs : List Frame) : Next → Option (Frame × List Frame)
 | .value v => some (fr.finish v, cs)
 | .skip => some (fr.finish Go.undef, cs)
 | .enter f args => some (Frame.enter P f args (match fr.todo with | .call _ true _ _ :: _ => .wrapped | _ => .normal), fr :: cs)
 | .round l f tmps assign body => some (Frame.round l f tmps assign body .normal, fr :: cs)
 | _ => none
section
variable {P : Program} {fr0 fr fr' : Frame} {cs cs' : List Frame} {s : Sem Next} {w w' : World} {x : Next}
theorem z6T {W W' : World} {es : Array Event} (h : s.runT P W #[] = (.ok x W', es)) (hn : nextOf P fr cs x = some (fr', cs')) :
  ∃ es2, (∀ e ∈ es2, e ∈ es) ∧ stepG.apply P true fr cs none s W = .go (G fr' cs') W' es2 := by
 have sub : ∀ e ∈ seen P fr.fn (if fr.kind == .early then #[] else es), e ∈ es := by
  intro e he
  have := z2c _ _ _ e he
  split at this
  ·simp at this
  ·exact this
 refine ⟨seen P fr.fn (if fr.kind == .early then #[] else es), sub, ?_⟩
 unfold stepG.apply
 simp only [if_true, h]
 cases x <;> first | cases hn; rfl | (exact absurd hn (by simp [nextOf]))
theorem z2P {main : Bool} (hg : ∀ W, stepG P main (G fr0 cs) W = stepG.apply P true fr cs none s W) (hf : Fine P s w) (hr : s.run P w = .ok x w') (hn : nextOf P fr cs x = some (fr', cs')) :
  Goer P main fr0 cs w fr' cs' w' := by
 intro hv W hR
 obtain ⟨W', es, h1, h2, h3, h4⟩ := lock P w W s w W #[] x w' hf hr ⟨hR, hv, Nat.le_refl _, fun _ _ _ => rfl, fun _ _ _ => rfl, rfl, rfl, rfl⟩
 obtain ⟨es2, h5, h6⟩ := z6T (fr := fr) (cs := cs) (fr' := fr') (cs' := cs') (by simpa using h1) hn
 exact ⟨W', es2, by rw [hg, h6], h2.rel, h2.views, h3, h2.same, fun b hb hm => ⟨h2.keep b hb hm, h2.keep' b hb hm⟩, fun e he => h4 e (h5 e he)⟩
theorem z2D {α : Type} {main : Bool} {s : Sem α} {a : α} (hf : Fine P s w) (hr : s.run P w = .ok a w')
  (hg : ∀ W W' es, s.runT P W #[] = (.ok a W', es) → ∃ es2, (∀ e ∈ es2, e ∈ es) ∧ stepG P main (G fr0 cs) W = .go (G fr' cs') W' es2) : Goer P main fr0 cs w fr' cs' w' := by
 intro hv W hR
 obtain ⟨W', es, h1, h2, h3, h4⟩ := lock P w W s w W #[] a w' hf hr ⟨hR, hv, Nat.le_refl _, fun _ _ _ => rfl, fun _ _ _ => rfl, rfl, rfl, rfl⟩
 obtain ⟨es2, h5, h6⟩ := hg W W' es (by simpa using h1)
 exact ⟨W', es2, h6, h2.rel, h2.views, h3, h2.same, fun b hb hm => ⟨h2.keep b hb hm, h2.keep' b hb hm⟩, fun e he => h4 e (h5 e he)⟩
theorem z5u {α : Type} {main : Bool} {s1 : Sem α} {s2 : Sem Next} {a : α} {w1 : World} {fn : FuncId} (hf1 : Fine P s1 w) (hr1 : s1.run P w = .ok a w1) (hf2 : Fine P s2 w1) (hr2 : s2.run P w1 = .ok x w')
  (hg : ∀ W W1 es1, s1.runT P W #[] = (.ok a W1, es1) → stepG P main (G fr0 cs) W = GStep.after (seen P fn es1) (stepG.apply P true fr cs none s2 W1)) (hn : nextOf P fr cs x = some (fr', cs')) :
  Goer P main fr0 cs w fr' cs' w' := by
 intro hv W hR
 obtain ⟨W1, es1, h1, h2, h3, h4⟩ := lock P w W s1 w W #[] a w1 hf1 hr1 ⟨hR, hv, Nat.le_refl _, fun _ _ _ => rfl, fun _ _ _ => rfl, rfl, rfl, rfl⟩
 obtain ⟨W', es', k1, k2, k3, k4⟩ := lock P w W s2 w1 W1 #[] x w' hf2 hr2 h2
 obtain ⟨es2, h5, h6⟩ := z6T (fr := fr) (cs := cs) (fr' := fr') (cs' := cs') (by simpa using k1) hn
 refine ⟨W', seen P fn es1 ++ es2, ?_, k2.rel, k2.views, Nat.le_trans h3 k3, k2.same, fun b hb hm => ⟨k2.keep b hb hm, k2.keep' b hb hm⟩, fun e he => ?_⟩
 ·rw [hg W W1 es1 (by simpa using h1), h6]; rfl
 ·rcases Array.mem_append.1 he with he | he
  ·exact EvOk.mono k3 (h4 e (z2c _ _ _ e he))
  ·exact k4 e (h5 e he)
end
end Go.Eng
