/- Part of the evaluator, in company. -/
import Derived.Test.YtadmpiidofncpacOCe
import Derived.Laws.Strings
import Derived.WideShapes
set_option linter.unusedSectionVars false
set_option linter.unusedSimpArgs false
set_option linter.unusedVariables false
namespace Go.Eng
open Go Go.RowKit
variable [E : Env] [Pd : Pad]
section
variable {base : Nat} {H H' : Trie} {n n' nt T v : Nat} {ρ : Rho} {L : Look} {w : World} {P : Program} {R R' : Value → World → Prop}
theorem z1M {b : Bool} {r : OR} {q : Nat} (h : sel b r (.bad q) = .ok v H' n') : r = .ok v H' n' := by
 cases b with
 | true => exact h
 | false => cases h
theorem z1s {b : Bool} {r : OR} {q : Nat} (h : sel b r (.bad q) = .ok v H' n') : b = true := by
 cases b with
 | true => rfl
 | false => cases h
theorem z0e {a b : Bool} (h : sel a b false = true) : a = true ∧ b = true := by
 cases a with
 | true => exact ⟨rfl, h⟩
 | false => cases h
theorem z5Y {p q s d lo hi : Nat} (h : newPoly p q s d lo hi H n = .ok v H' n') : n < 16384 ∧ v = polyW n ∧ H' = hset H n (.poly p q s d lo hi) ∧ n' = n + 1 ∧ d < 64 := by
 unfold newPoly at h
 have hb := z1s h
 rw [hb, z0b] at h
 obtain ⟨hd, hn⟩ := z0e hb
 simp only [force_eq] at h
 injection h with h1 h2 h3
 exact ⟨(z08 _ _).1 hn, h1.symm, h2.symm, h3.symm, (z08 _ _).1 hd⟩
theorem z5Z {x : Nat} {k : Nat → Nat → Nat → Nat → Nat → Nat → OR} (h : pget H x k = .ok v H' n') : ∃ p q s d lo hi, k p q s d lo hi = .ok v H' n' := by
 unfold pget at h
 rw [z8] at h
 split at h
 ·rw [zJ] at h
  split at h
  ·exact ⟨_, _, _, _, _, _, h⟩
  ·exact ⟨_, _, _, _, _, _, h⟩
 ·rw [z8] at h
  split at h
  ·have h := z1M h
   rw [zf] at h
   split at h
   ·exact ⟨_, _, _, _, _, _, h⟩
   ·exact ⟨_, _, _, _, _, _, h⟩
  ·have h := z1M h
   split at h
   ·exact ⟨_, _, _, _, _, _, h⟩
   ·cases h
theorem zaq {x : Nat} {k : Nat → Nat → Nat → Nat → Nat → Nat → OR} (h : pget H x k = .ok v H' n') : tagOf x ≠ 15 := by
 intro hx
 unfold pget at h
 rw [hx] at h
 cases h
theorem z0R {Q : Prop} {p q s : Nat} {k : Nat → Nat → OR} {no : OR} (m : Nat) (h1 : ∀ lo hi, k lo hi = .ok v H' n' → Q) (h2 : no = .ok v H' n' → Q) (h : factF H p q s m k no = .ok v H' n') : Q := by
 induction m with
 | zero => exact h2 h
 | succ i ih =>
  have e : factF H p q s (i + 1) k no = (match tget H i with
   | some (.poly p' q' s' d' lo' hi') => sel (sel (Nat.ble 64 d') (sel (Nat.beq (Nat.add p q') (Nat.add p' q)) (ltb (Nat.add s s') 18446744073709551616) false) false) (k lo' hi') (factF H p q s i k no)
   | _ => factF H p q s i k no) := rfl
  rw [e] at h
  split at h
  ·rw [zf] at h
   split at h
   ·exact h1 _ _ h
   ·exact ih h
  ·exact ih h
theorem z7Q {op : BinOp} {x y : Nat} (h : polyBin0 op x y H n = .ok v H' n') : tagOf x ≠ 15 ∧ tagOf y ≠ 15 := by
 unfold polyBin0 at h
 refine ⟨zaq h, ?_⟩
 obtain ⟨p, q, s, d, lo, hi, h⟩ := z5Z h
 exact zaq h
theorem z7R {op : BinOp} {x y : Nat} (h : polyBin0 op x y H n = .ok v H' n') : (H' = H ∧ n' = n) ∨ ∃ p q s d lo hi, H' = hset H n (.poly p q s d lo hi) ∧ n' = n + 1 ∧ n < 16384 ∧ d < 64 := by
 unfold polyBin0 at h
 obtain ⟨p, q, s, d, lo, hi, h⟩ := z5Z h
 obtain ⟨p', q', s', d', lo', hi', h⟩ := z5Z h
 have np : ∀ {p q s d lo hi : Nat}, newPoly p q s d lo hi H n = .ok v H' n' → (H' = H ∧ n' = n) ∨ ∃ p q s d lo hi, H' = hset H n (.poly p q s d lo hi) ∧ n' = n + 1 ∧ n < 16384 ∧ d < 64 := fun h =>
  let ⟨a, _, b, c, d⟩ := z5Y h
  .inr ⟨_, _, _, _, _, _, b, c, a, d⟩
 have same : ∀ {x : Nat}, OR.ok x H n = .ok v H' n' → (H' = H ∧ n' = n) ∨ ∃ p q s d lo hi, H' = hset H n (.poly p q s d lo hi) ∧ n' = n + 1 ∧ n < 16384 ∧ d < 64 := fun h => by
  injection h with a b c
  exact .inl ⟨b.symm, c.symm⟩
 have two : ∀ {b : Bool} {r r' : OR}, (r = .ok v H' n' → (H' = H ∧ n' = n) ∨ ∃ p q s d lo hi, H' = hset H n (.poly p q s d lo hi) ∧ n' = n + 1 ∧ n < 16384 ∧ d < 64) → (r' = .ok v H' n' → (H' = H ∧ n' = n) ∨ ∃ p q s d lo hi, H' = hset H n (.poly p q s d lo hi) ∧ n' = n + 1 ∧ n < 16384 ∧ d < 64) → sel b r r' = .ok v H' n' → (H' = H ∧ n' = n) ∨ ∃ p q s d lo hi, H' = hset H n (.poly p q s d lo hi) ∧ n' = n + 1 ∧ n < 16384 ∧ d < 64 := by
  intro b r r' h1 h2 h
  cases b with
  | true => exact h1 h
  | false => exact h2 h
 have bad : ∀ {q : Nat}, OR.bad q = .ok v H' n' → (H' = H ∧ n' = n) ∨ ∃ p q s d lo hi, H' = hset H n (.poly p q s d lo hi) ∧ n' = n + 1 ∧ n < 16384 ∧ d < 64 := fun h => by cases h
 have dv : ∀ {r : Bool} {y : Nat}, divK y (divE r p q s (payOf y) H n) = .ok v H' n' → (H' = H ∧ n' = n) ∨ ∃ p q s d lo hi, H' = hset H n (.poly p q s d lo hi) ∧ n' = n + 1 ∧ n < 16384 ∧ d < 64 := by
  intro r y h
  have one : ∀ {i r' k : Nat} {neg : Bool}, divOne r neg i r' k H n = .ok v H' n' → (H' = H ∧ n' = n) ∨ ∃ p q s d lo hi, H' = hset H n (.poly p q s d lo hi) ∧ n' = n + 1 ∧ n < 16384 ∧ d < 64 := fun h =>
   z0R _ (fun _ _ => two (two (two (two same np) (two (two same (two same bad)) bad)) (two (two same same) (two (two same (two same bad)) bad))) bad) bad h
  unfold divK at h
  have h := z1M h
  have all : ∀ m : Nat, (Nat.rec (motive := fun _ => OR) (.bad 169) (fun i ih =>
    sel (divAt p q s (payOf y) i) (divOne r false i (Nat.sub p (Nat.add q (Nat.mul (payOf y) (pvPow i)))) (payOf y) H n)
     (sel (divAt q p s (payOf y) i) (divOne r true i (Nat.sub q (Nat.add p (Nat.mul (payOf y) (pvPow i)))) (payOf y) H n) ih)) m : OR) = .ok v H' n' → (H' = H ∧ n' = n) ∨ ∃ p q s d lo hi, H' = hset H n (.poly p q s d lo hi) ∧ n' = n + 1 ∧ n < 16384 ∧ d < 64 := by
   intro m
   induction m with
   | zero => exact bad
   | succ i ih => exact two one (two one ih)
  exact all 5 h
 cases op <;> simp only at h
 case add => exact two np np h
 case sub => exact two np np h
 case mul => exact two same (two same (two same (two same (two (two np np) same)))) h
 case quo => exact two same dv h
 case rem => exact two same dv h
 case eql => exact two same (two same (z0R _ (fun _ _ => two same (two same bad)) (two (z0R _ (fun _ _ => two same (two same bad)) (z0R _ (fun _ _ => two same (two same bad)) bad)) bad))) h
 case neq => exact two same (two same (z0R _ (fun _ _ => two same (two same bad)) (two (z0R _ (fun _ _ => two same (two same bad)) (z0R _ (fun _ _ => two same (two same bad)) bad)) bad))) h
 case lss => exact two same (two same (z0R _ (fun _ _ => two same (two same bad)) (two (z0R _ (fun _ _ => two same (two same bad)) (z0R _ (fun _ _ => two same (two same bad)) bad)) bad))) h
 case leq => exact two same (two same (z0R _ (fun _ _ => two same (two same bad)) bad)) h
 case gtr => exact two same (two same (z0R _ (fun _ _ => two same (two same bad)) (two (z0R _ (fun _ _ => two same (two same bad)) (z0R _ (fun _ _ => two same (two same bad)) bad)) bad))) h
 case geq => exact two same (two same (z0R _ (fun _ _ => two same (two same bad)) bad)) h
 all_goals cases h
theorem VR.zar {x : Nat} {u : Value} (h : VR ρ L x u) (h2 : tagOf x = 7) (hk : xKind (payOf x) = 0) :
  ∃ p q s d lo hi z, L (xNum (payOf x)) = some (.poly p q s d lo hi) ∧ PolyZ p q s d lo hi z ∧ u = .int .i64 z := by
 cases h with
 | poly id p q s d lo hi z hL hz =>
  have hp : payOf (polyW id) = 16 + 4 * id := by
   show (16 * (16 + 4 * id) + 7) / 16 = _
   omega
  have hn : xNum (payOf (polyW id)) = id := by rw [hp]; show (16 + 4 * id - 16) / 4 = id; omega
  rw [hn]
  exact ⟨p, q, s, d, lo, hi, z, hL, hz, rfl⟩
 | int p hp => rw [z1i] at h2; cases h2
 | bool b => rw [z15] at h2; cases h2
 | ptr => rw [z0P] at h2; cases h2
 | slice => rw [z1e] at h2; cases h2
 | agg => rw [z0h] at h2; cases h2
 | tup => rw [z0h] at h2; cases h2
 | clo => rw [zS] at h2; cases h2
 | iface => rw [zS] at h2; cases h2
 | chan => rw [zS] at h2; cases h2
 | fn => rw [z0U] at h2; cases h2
 | yld => rw [z0D] at h2; cases h2
 | var => rw [z1t] at h2; cases h2
 | opq => rw [z1u] at h2; cases h2
 | btw => rw [z1v] at h2; cases h2
 | u64 => rw [z0V] at h2; cases h2
 | sliceNil => cases h2
 | map b => rw [z3d, z1r (by omega)] at hk; omega
 | ostr j lo hi =>
  unfold ostrW at hk
  rw [z05 7 _ (by omega)] at hk
  have h4 : ∀ k, Nat.add 18 (Nat.mul 4 k) = 18 + 4 * k := fun _ => rfl
  rw [h4, z1r (by omega)] at hk; omega
 | str s =>
  unfold strW at hk
  rw [z05 7 _ (by omega)] at hk
  have h4 : Nat.add 19 (Nat.mul 4 (bytesW s.data.toList)) = 19 + 4 * bytesW s.data.toList := rfl
  rw [h4, z1r (by omega)] at hk; omega
 | _ => cases hk
theorem z7b (c : Ctx base H n ρ L w) {x : Nat} {vx : Value} (hx : VR ρ L x vx) {k : Nat → Nat → Nat → Nat → Nat → Nat → OR} {H1 : Trie} {n1 : Nat} (h : pget H x k = .ok v H1 n1) :
  ∃ p q s d lo hi z, vx = .int .i64 z ∧ PolyZ p q s d lo hi z ∧ k p q s d lo hi = .ok v H1 n1 := by
 unfold pget at h
 rw [z8] at h
 split at h
 ·rename_i h1
  obtain ⟨a, ha, _, hpa, hv⟩ := hx.z0i h1
  rw [hpa] at h
  rw [zJ] at h
  split at h
  ·rename_i hlt
   refine ⟨_, _, _, _, _, _, sInt a, hv, ?_, h⟩
   have hs : sInt a = (a : Int) := by unfold sInt; rw [if_pos hlt]
   have e1 : Nat.add a 9223372036854775808 = a + 9223372036854775808 := rfl
   rw [hs, e1]
   exact ⟨by omega, by omega, by omega, by omega, (a : Int), .const _ (by omega) (by omega), by omega⟩
  ·rename_i hlt
   refine ⟨_, _, _, _, _, _, sInt a, hv, ?_, h⟩
   have hs : sInt a = (a : Int) - 18446744073709551616 := by unfold sInt; rw [if_neg hlt]
   have e1 : Nat.sub a 9223372036854775808 = a - 9223372036854775808 := rfl
   have e2 : Nat.sub 18446744073709551616 a = 18446744073709551616 - a := rfl
   rw [hs, e1, e2]
   exact ⟨by omega, by omega, by omega, by omega, (a : Int) - 18446744073709551616, .const _ (by omega) (by omega), by omega⟩
 ·rw [z8] at h
  split at h
  ·rename_i h12
   rw [zf] at h
   split at h
   ·rename_i hg
    obtain ⟨j, lo, hi, q1, q2, q3, q4, rfl, rfl⟩ := hx.z3V h12
    obtain ⟨e1, e2, e3⟩ := z7E j lo hi q1 q2
    rw [e3, z0k] at hg
    rw [e1, e2, e3] at h
    split at hg
    ·rename_i hj
     have hj8 := hg
     have es : Nat.sub j 2199023255552 = j - 2199023255552 := rfl
     rw [es] at h hj8
     rw [zf] at h
     split at h
     ·rename_i hkn
      unfold knownV at hkn
      rw [e1, e2, z8] at hkn
      split at hkn
      ·rename_i hlh
       rw [z8] at hkn
       split at hkn
       ·cases hkn
       ·rename_i hl0
        have b1 : Nat.sub lo 549755813888 = lo - 549755813888 := rfl
        have b2 : Nat.sub 549755813888 lo = 549755813888 - lo := rfl
        have b3 : Nat.add (lo - 549755813888) (549755813888 - lo) = (lo - 549755813888) + (549755813888 - lo) := rfl
        have b4 : Nat.add lo 9223371487098961920 = lo + 9223371487098961920 := rfl
        rw [b1, b2, b3, b4] at h
        have hz : E.int j = (lo : Int) - 549755813888 := by omega
        refine ⟨_, _, _, _, _, _, E.int j, rfl, ?_, h⟩
        exact ⟨by omega, by omega, by omega, by omega, E.int j, .const _ (by omega) (by omega), by omega⟩
      ·cases hkn
     refine ⟨_, _, _, _, _, _, E.int j, rfl, ?_, h⟩
     have hw := E.wf j
     have hjx : pvIx (j - 2199023255552) = j := by show 2199023255552 + (j - 2199023255552) = j; omega
     have a1 : Nat.add lo 9223371487098961920 = lo + 9223371487098961920 := rfl
     have a2 : Nat.add hi 9223371487098961920 = hi + 9223371487098961920 := rfl
     have hP := PolyR.var (x := fun i => E.int (pvIx i)) hj8
     simp only [hjx] at hP
     rw [z8, z8, a1, a2]
     refine ⟨by split <;> omega, by split <;> omega, by split <;> omega, by split <;> omega, E.int j, hP, by omega⟩
    ·cases hg
   ·cases h
  ·rw [zf] at h
   split at h
   ·rename_i hg
    rw [z8] at hg
    split at hg
    ·rename_i h7
     have hk := Nat.eq_of_beq_eq_true hg
     split at h
     ·rename_i p q s d lo hi hget
      have hL := c.agree.2 _ _ hget
      obtain ⟨p', q', s', d', lo', hi', z, hL', hz, rfl⟩ := hx.zar h7 hk
      rw [hL] at hL'
      injection hL' with hL'
      injection hL' with a1 a2 a3 a4 a5 a6
      subst a1; subst a2; subst a3; subst a4; subst a5; subst a6
      exact ⟨_, _, _, _, _, _, z, rfl, hz, h⟩
     ·cases h
    ·cases hg
   ·cases h
theorem z1l (z : Int) : ∃ u : Int, IntKind.wrap .i64 z = u ∧ -9223372036854775808 ≤ u ∧ u < 9223372036854775808 ∧ (u - z) % 18446744073709551616 = 0 := by
 refine ⟨sInt (uInt z), z1f z, ?_, ?_, ?_⟩ <;> unfold sInt uInt <;> split <;> omega
theorem z2v {p q s d lo hi : Nat} {z : Int} (hz : PolyZ p q s d lo hi z) (h : newPoly p q s d lo hi H n = .ok v H' n') (hR : R (.int .i64 z) w) : CalmD ρ L H n w v H' n' R := by
 obtain ⟨h1, h2, h3, h4, h5⟩ := z5Y h
 exact ⟨.int .i64 z, .inr ⟨.poly p q s d lo hi, h5, h3, h4, h1, h2, fun ρ' L' id e hL => .poly id p q s d lo hi z hL hz⟩, hR⟩
theorem zas {a k : Nat} (h : (9223372036854775808 - a) * k ≤ 9223372036854775808) : (mulP a k : Int) = ((a : Int) - 9223372036854775808) * k + 9223372036854775808 := by
 unfold mulP
 have s1 : ∀ a b, Nat.sub a b = a - b := fun _ _ => rfl
 have s2 : ∀ a b, Nat.add a b = a + b := fun _ _ => rfl
 have s3 : ∀ a b, Nat.mul a b = a * b := fun _ _ => rfl
 rw [z0k, s1, s1, s1, s2, s3, s3]
 split
 ·have e : (a : Int) - 9223372036854775808 = ((a - 9223372036854775808 : Nat) : Int) := by omega
  rw [e, ← Int.natCast_mul]
  omega
 ·have e : (a : Int) - 9223372036854775808 = -((9223372036854775808 - a : Nat) : Int) := by omega
  rw [e, Int.neg_mul, ← Int.natCast_mul]
  omega
theorem zat {a k : Nat} (h : (a - 9223372036854775808) * k ≤ 9223372036854775808) : (mulM a k : Int) = -(((a : Int) - 9223372036854775808) * k) + 9223372036854775808 := by
 unfold mulM
 have s1 : ∀ a b, Nat.sub a b = a - b := fun _ _ => rfl
 have s2 : ∀ a b, Nat.add a b = a + b := fun _ _ => rfl
 have s3 : ∀ a b, Nat.mul a b = a * b := fun _ _ => rfl
 rw [z0k, s1, s1, s1, s2, s3, s3]
 split
 ·have e : (a : Int) - 9223372036854775808 = ((a - 9223372036854775808 : Nat) : Int) := by omega
  rw [e, ← Int.natCast_mul]
  omega
 ·have e : (a : Int) - 9223372036854775808 = -((9223372036854775808 - a : Nat) : Int) := by omega
  rw [e, Int.neg_mul, ← Int.natCast_mul]
  omega
theorem zau {lo hi c : Nat} {x y : Int} (a1 : hi - 9223372036854775808 ≤ 2147483648) (a2 : 9223372036854775808 - lo ≤ 2147483648) (a3 : c - 9223372036854775808 ≤ 2147483648) (a4 : 9223372036854775808 - c ≤ 2147483648) (hy : y = (c : Int) - 9223372036854775808) (h1 : (lo : Int) - 9223372036854775808 ≤ x) (h2 : x ≤ (hi : Int) - 9223372036854775808) :
  scLo lo hi c ≤ 13835058055282163712 ∧ (scLo lo hi c : Int) - 9223372036854775808 ≤ x * y ∧ scHi lo hi c ≤ 13835058055282163712 ∧ x * y ≤ (scHi lo hi c : Int) - 9223372036854775808 := by
 have s1 : ∀ a b, Nat.sub a b = a - b := fun _ _ => rfl
 have big : ∀ {a k : Nat}, a ≤ 2147483648 → k ≤ 2147483648 → a * k ≤ 4611686018427387904 := fun h1 h2 => Nat.le_trans (Nat.mul_le_mul h1 h2) (by decide)
 unfold scLo scHi
 rw [z0k, z0k, s1, s1]
 split
 ·rename_i hc
  have ey : y = ((c - 9223372036854775808 : Nat) : Int) := by omega
  have hk : c - 9223372036854775808 ≤ 2147483648 := a3
  obtain ⟨k, hkk⟩ : ∃ k, k = c - 9223372036854775808 := ⟨_, rfl⟩
  rw [← hkk] at hk ey ⊢
  clear hkk
  have l1 := zas (a := lo) (k := k) (Nat.le_trans (big a2 hk) (by decide))
  have l2 := zas (a := hi) (k := k) (Nat.le_trans (big (Nat.le_trans (Nat.sub_le_sub_left (by omega) _) a2) hk) (by decide))
  have m1 : ((lo : Int) - 9223372036854775808) * k ≤ x * k := Int.mul_le_mul_of_nonneg_right h1 (by omega)
  have m2 : x * k ≤ ((hi : Int) - 9223372036854775808) * k := Int.mul_le_mul_of_nonneg_right h2 (by omega)
  have m3 : ((hi : Int) - 9223372036854775808) * k ≤ 2147483648 * 2147483648 := Int.le_trans (Int.mul_le_mul_of_nonneg_right (show (hi : Int) - 9223372036854775808 ≤ 2147483648 by omega) (by omega)) (Int.mul_le_mul_of_nonneg_left (by omega) (by decide))
  rw [ey]
  generalize x * (k : Int) = pr at *
  generalize ((lo : Int) - 9223372036854775808) * (k : Int) = pl at *
  generalize ((hi : Int) - 9223372036854775808) * (k : Int) = ph at *
  omega
 ·rename_i hc
  have ey : y = -((9223372036854775808 - c : Nat) : Int) := by omega
  have hk : 9223372036854775808 - c ≤ 2147483648 := a4
  obtain ⟨k, hkk⟩ : ∃ k, k = 9223372036854775808 - c := ⟨_, rfl⟩
  rw [← hkk] at hk ey ⊢
  clear hkk
  have l1 := zat (a := hi) (k := k) (Nat.le_trans (big a1 hk) (by decide))
  have l2 := zat (a := lo) (k := k) (Nat.le_trans (big (Nat.le_trans (Nat.sub_le_sub_right (by omega) _) a1) hk) (by decide))
  have m1 : ((lo : Int) - 9223372036854775808) * k ≤ x * k := Int.mul_le_mul_of_nonneg_right h1 (by omega)
  have m2 : x * k ≤ ((hi : Int) - 9223372036854775808) * k := Int.mul_le_mul_of_nonneg_right h2 (by omega)
  have m3 : -(2147483648 * 2147483648) ≤ ((lo : Int) - 9223372036854775808) * k := by
   have q1 : (-2147483648 : Int) * k ≤ ((lo : Int) - 9223372036854775808) * k := Int.mul_le_mul_of_nonneg_right (by omega) (by omega)
   omega
  rw [ey, Int.mul_neg]
  generalize x * (k : Int) = pr at *
  generalize ((lo : Int) - 9223372036854775808) * (k : Int) = pl at *
  generalize ((hi : Int) - 9223372036854775808) * (k : Int) = ph at *
  omega
theorem zdb {a b : Nat} (h1 : a ≤ 2147483648) (h2 : b ≤ 2147483648) : a * b ≤ 4611686018427387904 := Nat.le_trans (Nat.mul_le_mul h1 h2) (by decide)
theorem zeh {M : Nat} (h : M ≤ 4611686018427387904) : 9223372036854775808 + M ≤ 13835058055282163712 := by omega
theorem zav {a : Nat} (h : a - 9223372036854775808 ≤ 2147483648) : a ≤ 9223372039002259456 := by omega
theorem zaw {a : Nat} (h : 9223372036854775808 - a ≤ 2147483648) : 9223372034707292160 ≤ a := by omega
theorem zax {a : Nat} (h : a ≤ 9223372039002259456) : a - 9223372036854775808 ≤ 2147483648 := by omega
theorem zay {a : Nat} (h : 9223372034707292160 ≤ a) : 9223372036854775808 - a ≤ 2147483648 := by omega
theorem zb5 {lo hi lo' hi' : Nat} {zx zy : Int} (a1 : hi - 9223372036854775808 ≤ 2147483648) (a2 : 9223372036854775808 - lo ≤ 2147483648) (a3 : hi' - 9223372036854775808 ≤ 2147483648) (a4 : 9223372036854775808 - lo' ≤ 2147483648)
  (hm1 : mabs lo hi ≤ 2147483648) (hm2 : mabs lo' hi' ≤ 2147483648) (ax : zx.natAbs ≤ mabs lo hi) (ay : zy.natAbs ≤ mabs lo' hi') (x3 : (lo : Int) - 9223372036854775808 ≤ zx) (x4 : zx ≤ (hi : Int) - 9223372036854775808) (y3 : (lo' : Int) - 9223372036854775808 ≤ zy) (y4 : zy ≤ (hi' : Int) - 9223372036854775808) :
  mulLo lo hi lo' hi' ≤ 13835058055282163712 ∧ (mulLo lo hi lo' hi' : Int) - 9223372036854775808 ≤ zx * zy ∧ mulHi lo hi lo' hi' ≤ 13835058055282163712 ∧ zx * zy ≤ (mulHi lo hi lo' hi' : Int) - 9223372036854775808 := by
 have hxy : (zx * zy).natAbs ≤ mabs lo hi * mabs lo' hi' := by rw [Int.natAbs_mul]; exact Nat.mul_le_mul ax ay
 have hM : mabs lo hi * mabs lo' hi' ≤ 4611686018427387904 := zdb hm1 hm2
 clear ax ay hm1 hm2
 have b1 := zav a1
 have b2 := zaw a2
 have b3 := zav a3
 have b4 := zaw a4
 have s1 : ∀ a b, Nat.sub a b = a - b := fun _ _ => rfl
 have s2 : ∀ a b, Nat.add a b = a + b := fun _ _ => rfl
 have s3 : ∀ a b, Nat.mul a b = a * b := fun _ _ => rfl
 have eh : ∀ M : Nat, Nat.add 9223372036854775808 M = 9223372036854775808 + M := fun _ => rfl
 unfold mulLo mulHi
 cases hb1 : Nat.beq lo' hi' with
 | true =>
  rw [z0b, z0b]
  have hcc := Nat.eq_of_beq_eq_true hb1
  clear hb1
  subst hcc
  exact zau a1 a2 a3 a4 (Int.le_antisymm y4 y3) x3 x4
 | false =>
  rw [z0f, z0f]
  cases hb2 : Nat.beq lo hi with
  | true =>
   rw [z0b, z0b]
   have hcc := Nat.eq_of_beq_eq_true hb2
   clear hb1 hb2
   subst hcc
   rw [Int.mul_comm]
   exact zau a3 a4 a1 a2 (Int.le_antisymm x4 x3) y3 y4
  | false =>
   rw [z0f, z0f]
   clear hb1 hb2
   clear a1 a2 a3 a4
   rw [eh (Nat.mul (mabs lo hi) (mabs lo' hi')), s3 (mabs lo hi)]
   suffices hsuf : _ ≤ 13835058055282163712 ∧ (_ : Int) - 9223372036854775808 ≤ zx * zy by
    refine ⟨hsuf.1, hsuf.2, zeh hM, ?_⟩
    generalize mabs lo hi * mabs lo' hi' = M at *
    generalize zx * zy = pr at *
    omega
   have hnn : ∀ a b k l : Int, 0 ≤ a → 0 ≤ b → a ≤ k → b ≤ l → a * b ≤ k * l := fun a b k l h1 h2 h3 h4 => Int.mul_le_mul h3 h4 h2 (by omega)
   rw [zf]
   split
   ·rename_i hg
    obtain ⟨k1, k2⟩ := z0e hg
    have k1 := Nat.le_of_ble_eq_true k1
    have k2 := Nat.le_of_ble_eq_true k2
    rw [s1, s1, s2, s3]
    have m1 := hnn ((lo - 9223372036854775808 : Nat) : Int) ((lo' - 9223372036854775808 : Nat) : Int) zx zy (by omega) (by omega) (by omega) (by omega)
    have m2 : (lo - 9223372036854775808) * (lo' - 9223372036854775808) ≤ 4611686018427387904 := zdb (zax (by omega)) (zax (by omega))
    have m3 : (((lo - 9223372036854775808) * (lo' - 9223372036854775808) : Nat) : Int) = ((lo - 9223372036854775808 : Nat) : Int) * ((lo' - 9223372036854775808 : Nat) : Int) := Int.natCast_mul _ _
    rw [← m3] at m1
    generalize (lo - 9223372036854775808) * (lo' - 9223372036854775808) = M at *
    generalize zx * zy = pr at *
    omega
   ·rw [zf]
    split
    ·rename_i hg
     obtain ⟨k1, k2⟩ := z0e hg
     have k1 := Nat.le_of_ble_eq_true k1
     have k2 := Nat.le_of_ble_eq_true k2
     rw [s1, s1, s2, s3]
     have m1 := hnn ((9223372036854775808 - hi : Nat) : Int) ((9223372036854775808 - hi' : Nat) : Int) (-zx) (-zy) (by omega) (by omega) (by omega) (by omega)
     have m2 : (9223372036854775808 - hi) * (9223372036854775808 - hi') ≤ 4611686018427387904 := zdb (zay (by omega)) (zay (by omega))
     have m3 : (((9223372036854775808 - hi) * (9223372036854775808 - hi') : Nat) : Int) = ((9223372036854775808 - hi : Nat) : Int) * ((9223372036854775808 - hi' : Nat) : Int) := Int.natCast_mul _ _
     rw [← m3, Int.neg_mul_neg] at m1
     generalize (9223372036854775808 - hi) * (9223372036854775808 - hi') = M at *
     generalize zx * zy = pr at *
     omega
    ·rw [s1]
     generalize mabs lo hi * mabs lo' hi' = M at *
     generalize zx * zy = pr at *
     omega
theorem z7S {a v r : Int} (h1 : 0 ≤ v) (h2 : 0 ≤ r) (h3 : r < a) : (a * v + r).tmod a = r := by
 have h4 : 0 ≤ a * v := Int.mul_nonneg (by omega) h1
 rw [Int.tmod_eq_emod_of_nonneg (by omega), Int.add_comm, Int.add_mul_emod_self_left, Int.emod_eq_of_lt h2 h3]
theorem tmod_neg {a v r : Int} (h1 : v < 0) (h2 : 0 < r) (h3 : r < a) : (a * v + r).tmod a = r - a := by
 have e : a * v + r = -(a * (-v - 1) + (a - r)) := by rw [Int.mul_sub, Int.mul_neg]; omega
 rw [e, Int.neg_tmod, z7S (by omega) (by omega) (by omega)]
 omega
theorem zcd {a r lo hi : Nat} {v : Int} (h1 : (lo : Int) - 9223372036854775808 ≤ v) (h2 : v ≤ (hi : Int) - 9223372036854775808) (k1 : Nat.mul a 9223372036854775808 < Nat.add (Nat.add (Nat.mul a lo) r) 9223372036854775808)
  (k2 : Nat.add (Nat.mul a hi) r < Nat.add (Nat.mul a 9223372036854775808) 9223372036854775808) : -9223372036854775808 < (a : Int) * v + r ∧ (a : Int) * v + r < 9223372036854775808 := by
 have s2 : ∀ a b, Nat.add a b = a + b := fun _ _ => rfl
 have s3 : ∀ a b, Nat.mul a b = a * b := fun _ _ => rfl
 rw [s3, s3, s2, s2] at k1
 rw [s3, s3, s2, s2] at k2
 have m1 : (a : Int) * ((lo : Int) - 9223372036854775808) ≤ a * v := Int.mul_le_mul_of_nonneg_left h1 (by omega)
 have m2 : (a : Int) * v ≤ a * ((hi : Int) - 9223372036854775808) := Int.mul_le_mul_of_nonneg_left h2 (by omega)
 rw [Int.mul_sub] at m1 m2
 have e1 : (a : Int) * (lo : Int) = ((a * lo : Nat) : Int) := (Int.natCast_mul _ _).symm
 have e2 : (a : Int) * (hi : Int) = ((a * hi : Nat) : Int) := (Int.natCast_mul _ _).symm
 have e3 : (a : Int) * (9223372036854775808 : Int) = ((a * 9223372036854775808 : Nat) : Int) := (Int.natCast_mul _ _).symm
 rw [e1, e3] at m1
 rw [e2, e3] at m2
 generalize a * lo = x1 at *
 generalize a * hi = x2 at *
 generalize a * 9223372036854775808 = x3 at *
 generalize (a : Int) * v = x4 at *
 omega
theorem z8y {x : Nat → Int} {p q s d k i : Nat} {u v : Int} (X : PolyR x p q s d u) (V : PolyR x (pvPow i) 0 1 (pvDeg i) v) (h : divAt p q s k i = true) (hk : k < 1000) : Nat.sub p (Nat.add q (Nat.mul k (pvPow i))) < k ∧ u = (k : Int) * v + (Nat.sub p (Nat.add q (Nat.mul k (pvPow i))) : Nat) := by
 unfold divAt at h
 obtain ⟨h1, h⟩ := z0e h
 obtain ⟨h2, h3⟩ := z0e h
 have h1 := Nat.le_of_ble_eq_true h1
 have h2 := (z08 _ _).1 h2
 have h3 := (z08 _ _).1 h3
 refine ⟨h2, ?_⟩
 generalize hr : Nat.sub p (Nat.add q (Nat.mul k (pvPow i))) = r at *
 have hpe : p = q + k * pvPow i + r := by
  have e1 : Nat.sub p (Nat.add q (Nat.mul k (pvPow i))) = p - (q + k * pvPow i) := rfl
  have e2 : Nat.add q (Nat.mul k (pvPow i)) = q + k * pvPow i := rfl
  rw [e1] at hr
  rw [e2] at h1
  omega
 have e4 : Nat.add s 2000 = s + 2000 := rfl
 rw [e4] at h3
 have K : PolyR x k 0 k 0 (k : Int) := .const _ (by omega) (by omega)
 have R : PolyR x r 0 r 0 (r : Int) := .const _ (by omega) (by omega)
 have KV := K.mul V (by simp; unfold pvDeg; rw [zJ]; split <;> omega) (by simp; unfold pvDeg; rw [zJ]; split <;> omega)
 have W := KV.add R (D := 0 + pvDeg i) ⟨Nat.le_refl _, Nat.le_refl _⟩ ⟨by omega, by omega⟩
 refine PolyR.same X W ?_ ?_
 ·have : k * 1 + r < 2000 := by omega
  omega
 ·simp only [Nat.zero_mul, Nat.mul_zero, Nat.add_zero]
  omega
theorem z7T (c : Ctx base H n ρ L w) {op : BinOp} {t : TypeId} {x y : Nat} {vx vy : Value} (hx : VR ρ L x vx) (hy : VR ρ L y vy) (h : polyBin0 op x y H n = .ok v H' n') :
  ∃ zx zy, vx = .int .i64 zx ∧ vy = .int .i64 zy ∧ CalmD ρ L H n w v H' n' (fun r w' => (binOp op t vx vy : Sem Value).run P w' = .ok r w') := by
 unfold polyBin0 at h
 obtain ⟨p, q, s, d, lo, hi, zx, rfl, X, h⟩ := z7b c hx h
 obtain ⟨p', q', s', d', lo', hi', zy, rfl, Y, h⟩ := z7b c hy h
 refine ⟨zx, zy, rfl, rfl, ?_⟩
 obtain ⟨x1, x2, x3, x4, ux, X5, x6⟩ := X
 obtain ⟨y1, y2, y3, y4, uy, Y5, y6⟩ := Y
 have mxle : ∀ a b : Nat, a ≤ mxN a b ∧ b ≤ mxN a b := fun a b => by unfold mxN; rw [z0k]; split <;> omega
 have mxlt : ∀ a b : Nat, a < 8 → b < 8 → mxN a b < 8 := fun a b h1 h2 => by unfold mxN; rw [z0k]; split <;> omega
 have eD : mxD d d' = mxN (d % 8) (d' % 8) + 8 * mxN (d / 8) (d' / 8) := rfl
 have mA := mxle (d % 8) (d' % 8)
 have mB := mxle (d / 8) (d' / 8)
 have mL := mxlt (d % 8) (d' % 8) (by omega) (by omega)
 have mx1 : d % 8 ≤ mxD d d' % 8 ∧ d / 8 ≤ mxD d d' / 8 := by rw [eD]; omega
 have mx2 : d' % 8 ≤ mxD d d' % 8 ∧ d' / 8 ≤ mxD d d' / 8 := by rw [eD]; omega
 have bool : ∀ {k : Nat} {b : Bool}, k = wB b → OR.ok k H n = .ok v H' n' → (∀ w : World, (binOp op t (.int .i64 zx) (.int .i64 zy) : Sem Value).run P w = .ok (.bool b) w) → CalmD ρ L H n w v H' n' (fun r w' => (binOp op t (.int .i64 zx) (.int .i64 zy) : Sem Value).run P w' = .ok r w') := by
  intro k b hk h hr
  injection h with e1 e2 e3
  subst e1; subst e2; subst e3; subst hk
  exact .pure c (.bool b) (hr w)
 have addZ : PolyR (fun i => E.int (pvIx i)) (p + p') (q + q') (s + s') (mxD d d') (ux + uy) := X5.add Y5 mx1 mx2
 have subZ : PolyR (fun i => E.int (pvIx i)) (p + q') (q + p') (s + s') (mxD d d') (ux + -uy) := X5.add Y5.neg mx1 mx2
 have fact : ∀ (m : Nat) (k : Nat → Nat → OR) (no : OR), factF H p q s m k no = .ok v H' n' → (∃ lo hi : Nat, lo < 18446744073709551616 ∧ hi < 18446744073709551616 ∧ (lo : Int) - 9223372036854775808 ≤ zx ∧ zx ≤ (hi : Int) - 9223372036854775808 ∧ k lo hi = .ok v H' n') ∨ no = .ok v H' n' := by
  intro m k no
  induction m with
  | zero => exact fun h => .inr h
  | succ i ih =>
   intro h
   have e : factF H p q s (i + 1) k no = (match tget H i with
    | some (.poly p' q' s' d' lo' hi') => sel (sel (Nat.ble 64 d') (sel (Nat.beq (Nat.add p q') (Nat.add p' q)) (ltb (Nat.add s s') 18446744073709551616) false) false) (k lo' hi') (factF H p q s i k no)
    | _ => factF H p q s i k no) := rfl
   rw [e] at h
   split at h
   ·rename_i p2 q2 s2 d2 lo2 hi2 hget
    rw [zf] at h
    split at h
    ·rename_i hg
     obtain ⟨hg1, hg2⟩ := z0e hg
     obtain ⟨hg2, hg3⟩ := z0e hg2
     have hg1 := Nat.le_of_ble_eq_true hg1
     have hg2 := Nat.eq_of_beq_eq_true hg2
     have hg3 := (z08 _ _).1 hg3
     obtain ⟨z, f1, f2, f3, f4, uf, F5, f6⟩ := c.sim.pol i _ _ _ _ _ _ (c.agree.2 _ _ hget) hg1
     have he : ux = uf := PolyR.same X5 F5 hg3 hg2
     exact .inl ⟨lo2, hi2, f1, f2, by omega, by omega, h⟩
    ·exact ih h
   ·exact ih h
 have factV : ∀ {p0 q0 s0 d0 : Nat} (z0 : Int), (-9223372036854775808 ≤ z0 ∧ z0 < 9223372036854775808) → PolyR (fun i => E.int (pvIx i)) p0 q0 s0 d0 z0 → ∀ (m : Nat) (k : Nat → Nat → OR) (no : OR), factF H p0 q0 s0 m k no = .ok v H' n' → (no = .ok v H' n' → False) → ∃ lo hi : Nat, lo < 18446744073709551616 ∧ hi < 18446744073709551616 ∧ (lo : Int) - 9223372036854775808 ≤ z0 ∧ z0 ≤ (hi : Int) - 9223372036854775808 ∧ k lo hi = .ok v H' n' := by
  intro p0 q0 s0 d0 z0 hz0 X0 m k no h hno
  induction m with
  | zero => exact absurd h hno
  | succ i ih =>
   have e : factF H p0 q0 s0 (i + 1) k no = (match tget H i with
    | some (.poly p' q' s' d' lo' hi') => sel (sel (Nat.ble 64 d') (sel (Nat.beq (Nat.add p0 q') (Nat.add p' q0)) (ltb (Nat.add s0 s') 18446744073709551616) false) false) (k lo' hi') (factF H p0 q0 s0 i k no)
    | _ => factF H p0 q0 s0 i k no) := rfl
   rw [e] at h
   split at h
   ·rename_i p2 q2 s2 d2 lo2 hi2 hget
    rw [zf] at h
    split at h
    ·rename_i hg
     obtain ⟨hg1, hg2⟩ := z0e hg
     obtain ⟨hg2, hg3⟩ := z0e hg2
     have hg1 := Nat.le_of_ble_eq_true hg1
     have hg2 := Nat.eq_of_beq_eq_true hg2
     have hg3 := (z08 _ _).1 hg3
     obtain ⟨z, f1, f2, f3, f4, uf, F5, f6⟩ := c.sim.pol i _ _ _ _ _ _ (c.agree.2 _ _ hget) hg1
     have he : z0 = uf := PolyR.same X0 F5 hg3 hg2
     exact ⟨lo2, hi2, f1, f2, by omega, by omega, h⟩
    ·exact ih h
   ·exact ih h
 have factV' : ∀ {p0 q0 s0 d0 : Nat} (z0 : Int), (-9223372036854775808 ≤ z0 ∧ z0 < 9223372036854775808) → ∀ (u0 : Int) (_ : (z0 - u0) % 18446744073709551616 = 0 → True), PolyR (fun i => E.int (pvIx i)) p0 q0 s0 d0 u0 → (z0 - u0) % 18446744073709551616 = 0 → ∀ (m : Nat) (k : Nat → Nat → OR) (no : OR), factF H p0 q0 s0 m k no = .ok v H' n' → (no = .ok v H' n' → False) → ∃ lo hi : Nat, lo < 18446744073709551616 ∧ hi < 18446744073709551616 ∧ (lo : Int) - 9223372036854775808 ≤ z0 ∧ z0 ≤ (hi : Int) - 9223372036854775808 ∧ k lo hi = .ok v H' n' := by
  intro p0 q0 s0 d0 z0 hz0 u0 _ X0 hu0 m k no h hno
  induction m with
  | zero => exact absurd h hno
  | succ i ih =>
   have e : factF H p0 q0 s0 (i + 1) k no = (match tget H i with
    | some (.poly p' q' s' d' lo' hi') => sel (sel (Nat.ble 64 d') (sel (Nat.beq (Nat.add p0 q') (Nat.add p' q0)) (ltb (Nat.add s0 s') 18446744073709551616) false) false) (k lo' hi') (factF H p0 q0 s0 i k no)
    | _ => factF H p0 q0 s0 i k no) := rfl
   rw [e] at h
   split at h
   ·rename_i p2 q2 s2 d2 lo2 hi2 hget
    rw [zf] at h
    split at h
    ·rename_i hg
     obtain ⟨hg1, hg2⟩ := z0e hg
     obtain ⟨hg2, hg3⟩ := z0e hg2
     have hg1 := Nat.le_of_ble_eq_true hg1
     have hg2 := Nat.eq_of_beq_eq_true hg2
     have hg3 := (z08 _ _).1 hg3
     obtain ⟨z, f1, f2, f3, f4, uf, F5, f6⟩ := c.sim.pol i _ _ _ _ _ _ (c.agree.2 _ _ hget) hg1
     have he : u0 = uf := PolyR.same X0 F5 hg3 hg2
     exact ⟨lo2, hi2, f1, f2, by omega, by omega, h⟩
    ·exact ih h
   ·exact ih h
 have subN : PolyR (fun i => E.int (pvIx i)) (q + p') (p + q') (s + s') (mxD d d') (-(ux + -uy)) := subZ.neg
 have diff : ∀ {a : Nat} {k : Nat → Nat → OR}, diffF H p q s lo hi p' q' s' lo' hi' a k = .ok v H' n' → ∃ lo2 hi2 : Nat, (lo2 : Int) - 9223372036854775808 ≤ zx - zy ∧ zx - zy ≤ (hi2 : Int) - 9223372036854775808 ∧ k lo2 hi2 = .ok v H' n' := by
  intro a k h
  unfold diffF at h
  have hg := z1s h
  have h := z1M h
  obtain ⟨ga, gb⟩ := z0e hg
  obtain ⟨g1, g2⟩ := z0e ga
  obtain ⟨g3, g4⟩ := z0e gb
  have g1 := Nat.le_of_ble_eq_true g1
  have g2 := Nat.le_of_ble_eq_true g2
  have g3 := Nat.le_of_ble_eq_true g3
  have g4 := Nat.le_of_ble_eq_true g4
  by_cases hy : ∃ lo2 hi2 : Nat, (lo2 : Int) - 9223372036854775808 ≤ zx - zy ∧ zx - zy ≤ (hi2 : Int) - 9223372036854775808 ∧ k lo2 hi2 = .ok v H' n'
  ·exact hy
  ·exfalso
   obtain ⟨lo2, hi2, f1, f2, f3, f4, h⟩ := factV' (zx - zy) (by omega) _ (fun _ => trivial) subZ (by omega) 16 _ _ h (fun h => by
    obtain ⟨lo2, hi2, f1, f2, f3, f4, h⟩ := factV' (zy - zx) (by omega) _ (fun _ => trivial) subN (by omega) 16 _ _ h (fun h => by cases h)
    have e1 : ∀ a b : Nat, Nat.sub a b = a - b := fun _ _ => rfl
    rw [e1, e1] at h
    exact hy ⟨_, _, by omega, by omega, h⟩)
   exact hy ⟨lo2, hi2, f3, f4, h⟩
 have dvs : ∀ (r : Bool), divK y (divE r p q s (payOf y) H n) = .ok v H' n' → CalmD ρ L H n w v H' n' (fun x w' => (binOp (if r then .rem else .quo) t (.int .i64 zx) (.int .i64 zy) : Sem Value).run P w' = .ok x w') := by
  intro r h
  unfold divK at h
  have hg := z1s h
  have h := z1M h
  obtain ⟨g1, hg⟩ := z0e hg
  obtain ⟨g2, g3⟩ := z0e hg
  have g1 := Nat.eq_of_beq_eq_true g1
  have g2 := (z08 _ _).1 g2
  have g3 := (z08 _ _).1 g3
  obtain ⟨a, ha, _, hpa, hv⟩ := hy.z0i g1
  rw [hpa] at h g2 g3
  have hzy : zy = (a : Int) := by rw [(Value.int.inj hv).2]; unfold sInt; rw [if_pos (by omega)]
  have runD : ∀ w : World, (binOp (if r then .rem else .quo) t (.int .i64 zx) (.int .i64 zy) : Sem Value).run P w = .ok (.int .i64 (if r then zx.tmod a else IntKind.wrap .i64 (zx.tdiv a))) w := fun w => by
   have : ¬ (zy = 0) := by omega
   cases r <;> simp [binOp, Op.intDiv, this, hzy] <;> omega
  have lit : ∀ {k : Nat} {z : Int}, k < 18446744073709551616 → sInt k = z → r = true → zx.tmod a = z → OR.ok (wI k) H n = .ok v H' n' → CalmD ρ L H n w v H' n' (fun x w' => (binOp (if r then .rem else .quo) t (.int .i64 zx) (.int .i64 zy) : Sem Value).run P w' = .ok x w') := by
   intro k z hk hz hr he h
   injection h with e1 e2 e3
   subst e1; subst e2; subst e3
   refine .pure c (.int k hk) ?_
   rw [runD, hr, hz, ← he]; rfl
  have one : ∀ (i r' : Nat) (neg : Bool), (uv : Int) → uv = E.int (pvIx i) → i < 5 → r' < a → (neg = false → ux = a * uv + r') → (neg = true → ux = -(a * uv + r')) → divOne r neg i r' a H n = .ok v H' n' → CalmD ρ L H n w v H' n' (fun x w' => (binOp (if r then .rem else .quo) t (.int .i64 zx) (.int .i64 zy) : Sem Value).run P w' = .ok x w') := by
   intro i r' neg uv huv hi hr' hp hm h
   unfold divOne at h
   have V : PolyR (fun i => E.int (pvIx i)) (pvPow i) 0 1 (pvDeg i) (E.int (pvIx i)) := PolyR.var (by unfold pvOk; rw [zJ, if_pos hi])
   obtain ⟨lo, hh, f1, f2, f3, f4, h0⟩ := factV (E.int (pvIx i)) (E.wf _) V 16 _ _ h (fun h => by cases h)
   clear h
   rw [← huv] at f3 f4
   have hin := z1s h0
   have h := z1M h0
   clear h0
   unfold divIn at hin
   obtain ⟨k1, k2⟩ := z0e hin
   have k1 := (z08 _ _).1 k1
   have k2 := (z08 _ _).1 k2
   obtain ⟨b1, b2⟩ := zcd (a := a) (r := r') (lo := lo) (hi := hh) (v := uv) f3 f4 k1 k2
   have hz1 : neg = false → zx = a * uv + r' := fun e => by have := hp e; omega
   have hz2 : neg = true → -9223372036854775808 < zx ∨ True := fun _ => .inr trivial
   cases neg with
   | false =>
    have hz := hz1 rfl
    rw [z0f] at h
    unfold divP at h
    rw [z8] at h
    split at h
    ·rename_i hr0
     subst hr0
     have hz : zx = a * uv := by rw [hz]; simp
     cases r with
     | true =>
      rw [z0b] at h
      exact lit (k := 0) (z := 0) (by omega) rfl rfl (by rw [hz]; exact Int.mul_tmod_right _ _) h
     | false =>
      rw [z0f] at h
      injection h with e1 e2 e3
      subst e1; subst e2; subst e3
      refine .pure c (.var (pvIx i) 0 0 (by omega) (by omega) (.inl rfl) (.inl rfl)) ?_
      have hd : zx.tdiv a = uv := by rw [hz]; exact Int.mul_tdiv_cancel_left _ (by omega)
      obtain ⟨u, hu, u1, u2, u3⟩ := z1l uv
      have huu : u = uv := by have := E.wf (pvIx i); omega
      rw [runD]
      rw [← huv]
      simp only [Bool.false_eq_true, if_false, hd, hu, huu]
    ·rename_i hr0
     cases r with
     | false => cases h
     | true =>
      rw [z0b, z0k] at h
      split at h
      ·exact lit (k := r') (z := r') (by omega) (by unfold sInt; rw [if_pos (by omega)]) rfl (by rw [hz]; exact z7S (by omega) (by omega) (by omega)) h
      ·rw [zJ] at h
       split at h
       ·have e1 : Nat.sub (Nat.add 18446744073709551616 r') a = 18446744073709551616 + r' - a := rfl
        rw [e1] at h
        exact lit (z := (r' : Int) - a) (by omega) (by unfold sInt; rw [if_neg (by omega)]; omega) rfl (by rw [hz]; exact tmod_neg (by omega) (by omega) (by omega)) h
       ·cases h
   | true =>
    have hz := hm rfl
    rw [z0b] at h
    unfold divM at h
    have zz : zx = -(a * uv + r') := by omega
    rw [z8] at h
    split at h
    ·rename_i hr0
     subst hr0
     have hdvd : zx.tmod a = 0 := by
      rw [zz]; simp [Int.neg_tmod]
     cases r with
     | true =>
      rw [z0b] at h
      exact lit (k := 0) (z := 0) (by omega) rfl rfl hdvd h
     | false =>
      rw [z0f] at h
      obtain ⟨u, hu, u1, u2, u3⟩ := z1l (zx.tdiv a)
      have hd : zx.tdiv a = -uv := by
       rw [zz]
       have : -((a : Int) * uv + ((0 : Nat) : Int)) = a * (-uv) := by rw [Int.mul_neg]; simp
       rw [this]
       exact Int.mul_tdiv_cancel_left _ (by omega)
      refine z2v (z := u) ⟨by omega, by omega, by omega, by omega, -uv, ?_, by omega⟩ h (by rw [runD]; simp only [Bool.false_eq_true, if_false, hu])
      rw [huv]; exact V.neg
    ·rename_i hr0
     have e : zx = -(a * uv + r') := zz
     cases r with
     | false => cases h
     | true =>
      rw [z0b, z0k] at h
      split at h
      ·have e1 : Nat.sub 18446744073709551616 r' = 18446744073709551616 - r' := rfl
       rw [e1] at h
       exact lit (z := -(r' : Int)) (by omega) (by unfold sInt; rw [if_neg (by omega)]; omega) rfl (by rw [e, Int.neg_tmod, z7S (by omega) (by omega) (by omega)]) h
      ·rw [zJ] at h
       split at h
       ·have e1 : Nat.sub a r' = a - r' := rfl
        rw [e1] at h
        exact lit (z := (a : Int) - r') (by omega) (by unfold sInt; rw [if_pos (by omega)]; omega) rfl (by rw [e, Int.neg_tmod, tmod_neg (by omega) (by omega) (by omega)]; omega) h
       ·cases h
  have all : ∀ m : Nat, m ≤ 5 → (Nat.rec (motive := fun _ => OR) (.bad 169) (fun i ih =>
    sel (divAt p q s a i) (divOne r false i (Nat.sub p (Nat.add q (Nat.mul a (pvPow i)))) a H n)
     (sel (divAt q p s a i) (divOne r true i (Nat.sub q (Nat.add p (Nat.mul a (pvPow i)))) a H n) ih)) m : OR) = .ok v H' n' → CalmD ρ L H n w v H' n' (fun x w' => (binOp (if r then .rem else .quo) t (.int .i64 zx) (.int .i64 zy) : Sem Value).run P w' = .ok x w') := by
   intro m
   induction m with
   | zero => exact fun _ h => by cases h
   | succ i ih =>
    intro hm h
    have V : PolyR (fun i => E.int (pvIx i)) (pvPow i) 0 1 (pvDeg i) (E.int (pvIx i)) := PolyR.var (by unfold pvOk; rw [zJ, if_pos (by omega)])
    have h : sel (divAt p q s a i) (divOne r false i (Nat.sub p (Nat.add q (Nat.mul a (pvPow i)))) a H n)
     (sel (divAt q p s a i) (divOne r true i (Nat.sub q (Nat.add p (Nat.mul a (pvPow i)))) a H n) (Nat.rec (motive := fun _ => OR) (.bad 169) (fun i ih =>
      sel (divAt p q s a i) (divOne r false i (Nat.sub p (Nat.add q (Nat.mul a (pvPow i)))) a H n)
       (sel (divAt q p s a i) (divOne r true i (Nat.sub q (Nat.add p (Nat.mul a (pvPow i)))) a H n) ih)) i)) = .ok v H' n' := h
    rw [zf] at h
    split at h
    ·rename_i hA
     obtain ⟨r1, r2⟩ := z8y X5 V hA g3
     exact one i _ false _ rfl (by omega) r1 (fun _ => r2) (fun h => by cases h) h
    ·rw [zf] at h
     split at h
     ·rename_i hA
      obtain ⟨r1, r2⟩ := z8y X5.neg V hA g3
      exact one i _ true _ rfl (by omega) r1 (fun h => by cases h) (fun _ => by omega) h
     ·exact ih (by omega) h
  exact all 5 (by omega) h
 cases op <;> simp only at h <;> try cases h
 case add =>
  obtain ⟨u, hu, u1, u2, u3⟩ := z1l (zx + zy)
  have run : ∀ w : World, (binOp .add t (.int .i64 zx) (.int .i64 zy) : Sem Value).run P w = .ok (.int .i64 u) w := fun w => by simp [binOp, Op.intArith, hu]
  rw [zf] at h
  split at h
  ·rename_i hg
   rw [z0k] at hg
   split at hg
   ·rename_i g1
    have g2 := (z08 _ _).1 hg
    have a1 : Nat.add lo lo' = lo + lo' := rfl
    have a2 : Nat.add hi hi' = hi + hi' := rfl
    have a3 : ∀ a b, Nat.sub a b = a - b := fun _ _ => rfl
    rw [a1] at g1 h; rw [a2] at g2 h; rw [a3, a3] at h
    refine z2v ⟨by omega, by omega, ?_, ?_, ux + uy, addZ, by omega⟩ h (run w) <;> omega
   ·cases hg
  ·exact z2v ⟨by omega, by omega, by omega, by omega, ux + uy, addZ, by omega⟩ h (run w)
 case sub =>
  obtain ⟨u, hu, u1, u2, u3⟩ := z1l (zx - zy)
  have run : ∀ w : World, (binOp .sub t (.int .i64 zx) (.int .i64 zy) : Sem Value).run P w = .ok (.int .i64 u) w := fun w => by simp [binOp, Op.intArith, hu]
  rw [zf] at h
  split at h
  ·rename_i hg
   rw [z0k] at hg
   split at hg
   ·rename_i g1
    have g2 := (z08 _ _).1 hg
    have a1 : Nat.add lo 9223372036854775808 = lo + 9223372036854775808 := rfl
    have a2 : Nat.add lo' 9223372036854775808 = lo' + 9223372036854775808 := rfl
    have a4 : Nat.add hi 9223372036854775808 = hi + 9223372036854775808 := rfl
    have a3 : ∀ a b, Nat.sub a b = a - b := fun _ _ => rfl
    rw [a1] at g1 h; rw [a2] at g2; rw [a4] at h; rw [a3, a3] at h
    refine z2v ⟨by omega, by omega, ?_, ?_, ux + -uy, subZ, by omega⟩ h (run w) <;> omega
   ·cases hg
  ·exact z2v ⟨by omega, by omega, by omega, by omega, ux + -uy, subZ, by omega⟩ h (run w)
 case mul =>
  obtain ⟨u, hu, u1, u2, u3⟩ := z1l (zx * zy)
  have run : ∀ w : World, (binOp .mul t (.int .i64 zx) (.int .i64 zy) : Sem Value).run P w = .ok (.int .i64 u) w := fun w => by simp [binOp, Op.intArith, hu]
  have zero : wI 0 = 1 := rfl
  have one : wI 1 = 17 := rfl
  have zx0 : x = 1 → zx = 0 := fun e => by
   subst e
   obtain ⟨a, ha, hw, hpa, hv⟩ := hx.z0i (by rfl)
   have : payOf 1 = 0 := rfl
   rw [this] at hpa; subst hpa
   exact (Value.int.inj hv).2
  have zy0 : y = 1 → zy = 0 := fun e => by
   subst e
   obtain ⟨a, ha, hw, hpa, hv⟩ := hy.z0i (by rfl)
   have : payOf 1 = 0 := rfl
   rw [this] at hpa; subst hpa
   exact (Value.int.inj hv).2
  have zx1 : x = 17 → zx = 1 := fun e => by
   subst e
   obtain ⟨a, ha, hw, hpa, hv⟩ := hx.z0i (by rfl)
   have : payOf 17 = 1 := rfl
   rw [this] at hpa; subst hpa
   exact (Value.int.inj hv).2
  have zy1 : y = 17 → zy = 1 := fun e => by
   subst e
   obtain ⟨a, ha, hw, hpa, hv⟩ := hy.z0i (by rfl)
   have : payOf 17 = 1 := rfl
   rw [this] at hpa; subst hpa
   exact (Value.int.inj hv).2
  have null : zx * zy = 0 → OR.ok 1 H n = .ok v H' n' → CalmD ρ L H n w v H' n' (fun r w' => (binOp .mul t (.int .i64 zx) (.int .i64 zy) : Sem Value).run P w' = .ok r w') := fun e0 h => by
   injection h with a1 a2 a3
   subst a1; subst a2; subst a3
   have hu0 : u = 0 := by rw [e0] at u3; omega
   subst hu0
   exact .pure c (.int 0 (by omega)) (run w)
  rw [z8] at h
  split at h
  ·rename_i hxe
   exact null (by rw [zx0 hxe, Int.zero_mul]) h
  rw [z8] at h
  split at h
  ·rename_i hye
   exact null (by rw [zy0 hye, Int.mul_zero]) h
  rw [z8] at h
  split at h
  ·rename_i hxe
   injection h with a1 a2 a3
   subst a1; subst a2; subst a3
   have hu0 : u = zy := by rw [zx1 hxe, Int.one_mul] at u3; omega
   subst hu0
   exact .pure c hy (run w)
  rw [z8] at h
  split at h
  ·rename_i hye
   injection h with a1 a2 a3
   subst a1; subst a2; subst a3
   have hu0 : u = zx := by rw [zy1 hye, Int.mul_one] at u3; omega
   subst hu0
   exact .pure c hx (run w)
  rw [zf] at h
  split at h
  ·rename_i hd0
   obtain ⟨hd, hd2⟩ : d % 8 + d' % 8 < 8 ∧ d / 8 + d' / 8 < 2 := by
    rw [zJ] at hd0
    split at hd0
    ·rename_i q
     exact ⟨q, (z08 _ _).1 hd0⟩
    ·cases hd0
   have hmul : (zx * zy - ux * uy) % 18446744073709551616 = 0 := by
    have e : zx * zy - ux * uy = (zx - ux) * zy + ux * (zy - uy) := by
     rw [Int.sub_mul, Int.mul_sub]; omega
    rw [e]
    obtain ⟨a, ha⟩ := Int.dvd_of_emod_eq_zero x6
    obtain ⟨b, hb⟩ := Int.dvd_of_emod_eq_zero y6
    rw [ha, hb, Int.mul_assoc, Int.mul_left_comm ux]
    omega
   rw [zf] at h
   split at h
   ·rename_i hm
    obtain ⟨hm1, hm2⟩ := z0e hm
    have hm1 := Nat.le_of_ble_eq_true hm1
    have hm2 := Nat.le_of_ble_eq_true hm2
    have ax : zx.natAbs ≤ mabs lo hi := by
     have e : mabs lo hi = mxN (hi - 9223372036854775808) (9223372036854775808 - lo) := rfl
     have := mxle (hi - 9223372036854775808) (9223372036854775808 - lo)
     rw [e]; omega
    have ay : zy.natAbs ≤ mabs lo' hi' := by
     have e : mabs lo' hi' = mxN (hi' - 9223372036854775808) (9223372036854775808 - lo') := rfl
     have := mxle (hi' - 9223372036854775808) (9223372036854775808 - lo')
     rw [e]; omega
    have hxy : (zx * zy).natAbs ≤ mabs lo hi * mabs lo' hi' := by rw [Int.natAbs_mul]; exact Nat.mul_le_mul ax ay
    have hM : mabs lo hi * mabs lo' hi' ≤ 4611686018427387904 := zdb hm1 hm2
    have hnn : ∀ a b k l : Int, 0 ≤ a → 0 ≤ b → a ≤ k → b ≤ l → a * b ≤ k * l := fun a b k l h1 h2 h3 h4 => Int.mul_le_mul h3 h4 h2 (by omega)
    have hm1' : hi - 9223372036854775808 ≤ 2147483648 ∧ 9223372036854775808 - lo ≤ 2147483648 := by
     have e : mabs lo hi = mxN (hi - 9223372036854775808) (9223372036854775808 - lo) := rfl
     have := mxle (hi - 9223372036854775808) (9223372036854775808 - lo)
     rw [e] at hm1
     exact ⟨Nat.le_trans this.1 hm1, Nat.le_trans this.2 hm1⟩
    have hm2' : hi' - 9223372036854775808 ≤ 2147483648 ∧ 9223372036854775808 - lo' ≤ 2147483648 := by
     have e : mabs lo' hi' = mxN (hi' - 9223372036854775808) (9223372036854775808 - lo') := rfl
     have := mxle (hi' - 9223372036854775808) (9223372036854775808 - lo')
     rw [e] at hm2
     exact ⟨Nat.le_trans this.1 hm2, Nat.le_trans this.2 hm2⟩
    have hlow := zb5 hm1'.1 hm1'.2 hm2'.1 hm2'.2 hm1 hm2 ax ay x3 x4 y3 y4
    generalize mulLo lo hi lo' hi' = ml at *
    generalize mulHi lo hi lo' hi' = mh at *
    generalize mabs lo hi * mabs lo' hi' = M at *
    generalize hpr : zx * zy = pr at *
    exact z2v ⟨by omega, by omega, by omega, by omega, ux * uy, X5.mul Y5 hd hd2, by omega⟩ h (run w)
   ·exact z2v ⟨by omega, by omega, by omega, by omega, ux * uy, X5.mul Y5 hd hd2, by omega⟩ h (run w)
  ·injection h with a1 a2 a3
   subst a1; subst a2; subst a3
   exact .pure c (.anyI u (by omega) (by omega)) (run w)
 case quo =>
  rw [z8] at h
  split at h
  ·rename_i hy17
   subst hy17
   injection h with e1 e2 e3
   subst e1; subst e2; subst e3
   have hzy : zy = 1 := by
    obtain ⟨a, ha, _, hpa, hv⟩ := hy.z0i (by rfl)
    injection hv with _ hv
    have ha1 : a = 1 := by
     have : payOf 17 = a := hpa
     rw [← this]; rfl
    rw [hv, ha1]; rfl
   subst hzy
   obtain ⟨u, hu, u1, u2, u3⟩ := z1l zx
   have hzu : u = zx := by omega
   subst hzu
   exact .pure c hx (by simp [binOp, Op.intDiv, hu])
  ·exact dvs false h
 case rem =>
  rw [z8] at h
  split at h
  ·rename_i hy17
   subst hy17
   injection h with e1 e2 e3
   subst e1; subst e2; subst e3
   have hzy : zy = 1 := by
    obtain ⟨a, ha, _, hpa, hv⟩ := hy.z0i (by rfl)
    have ha1 : a = 1 := by
     have : payOf 17 = a := hpa
     rw [← this]; rfl
    rw [(Value.int.inj hv).2, ha1]; rfl
   subst hzy
   exact .pure c (.int 0 (by omega)) (by simp [binOp, Op.intDiv]; rfl)
  ·exact dvs true h
 case eql =>
  rw [zf] at h
  split at h
  ·rename_i hg
   rw [z8] at hg
   split at hg
   ·rename_i e
    have hs := (z08 _ _).1 hg
    have := PolyR.same X5 Y5 hs e
    exact bool (b := true) rfl h (fun w => by simp [binOp, Op.intCmp]; omega)
   ·cases hg
  ·rw [zf] at h
   split at h
   ·rename_i hg
    have hne : hi < lo' ∨ hi' < lo := by
     rw [zJ] at hg
     split at hg
     ·exact .inl (by assumption)
     ·exact .inr ((z08 _ _).1 hg)
    exact bool (b := false) rfl h (fun w => by simp [binOp, Op.intCmp]; omega)
   ·rcases fact _ _ _ h with ⟨lo2, hi2, f1, f2, f3, f4, h⟩ | h
    ·rw [zf] at h
     split at h
     ·rename_i hg
      have hne : hi2 < lo' ∨ hi' < lo2 := by
       rw [zJ] at hg
       split at hg
       ·exact .inl (by assumption)
       ·exact .inr ((z08 _ _).1 hg)
      exact bool (b := false) rfl h (fun w => by simp [binOp, Op.intCmp]; omega)
     ·rw [zf] at h
      split at h
      ·rename_i hg2
       obtain ⟨g1, hg2⟩ := z0e hg2
       obtain ⟨g2, g3⟩ := z0e hg2
       have g1 := Nat.eq_of_beq_eq_true g1
       have g2 := Nat.eq_of_beq_eq_true g2
       have g3 := Nat.eq_of_beq_eq_true g3
       exact bool (b := true) rfl h (fun w => by simp [binOp, Op.intCmp]; omega)
      ·cases h
    ·obtain ⟨lo2, hi2, f3, f4, h⟩ := diff h
     rw [zf] at h
     split at h
     ·rename_i hg
      have hne : hi2 < 9223372036854775808 ∨ 9223372036854775808 < lo2 := by
       rw [zJ] at hg
       split at hg
       ·exact .inl (by assumption)
       ·exact .inr ((z08 _ _).1 hg)
      exact bool (b := false) rfl h (fun w => by simp [binOp, Op.intCmp]; omega)
     ·rw [zf] at h
      split at h
      ·rename_i hg2
       obtain ⟨g1, g2⟩ := z0e hg2
       have g1 := Nat.eq_of_beq_eq_true g1
       have g2 := Nat.eq_of_beq_eq_true g2
       exact bool (b := true) rfl h (fun w => by simp [binOp, Op.intCmp]; omega)
      ·cases h
 case neq =>
  rw [zf] at h
  split at h
  ·rename_i hg
   rw [z8] at hg
   split at hg
   ·rename_i e
    have hs := (z08 _ _).1 hg
    have := PolyR.same X5 Y5 hs e
    exact bool (b := false) rfl h (fun w => by simp [binOp, Op.intCmp]; omega)
   ·cases hg
  ·rw [zf] at h
   split at h
   ·rename_i hg
    have hne : hi < lo' ∨ hi' < lo := by
     rw [zJ] at hg
     split at hg
     ·exact .inl (by assumption)
     ·exact .inr ((z08 _ _).1 hg)
    exact bool (b := true) rfl h (fun w => by simp [binOp, Op.intCmp]; omega)
   ·rcases fact _ _ _ h with ⟨lo2, hi2, f1, f2, f3, f4, h⟩ | h
    ·rw [zf] at h
     split at h
     ·rename_i hg
      have hne : hi2 < lo' ∨ hi' < lo2 := by
       rw [zJ] at hg
       split at hg
       ·exact .inl (by assumption)
       ·exact .inr ((z08 _ _).1 hg)
      exact bool (b := true) rfl h (fun w => by simp [binOp, Op.intCmp]; omega)
     ·rw [zf] at h
      split at h
      ·rename_i hg2
       obtain ⟨g1, hg2⟩ := z0e hg2
       obtain ⟨g2, g3⟩ := z0e hg2
       have g1 := Nat.eq_of_beq_eq_true g1
       have g2 := Nat.eq_of_beq_eq_true g2
       have g3 := Nat.eq_of_beq_eq_true g3
       exact bool (b := false) rfl h (fun w => by simp [binOp, Op.intCmp]; omega)
      ·cases h
    ·obtain ⟨lo2, hi2, f3, f4, h⟩ := diff h
     rw [zf] at h
     split at h
     ·rename_i hg
      have hne : hi2 < 9223372036854775808 ∨ 9223372036854775808 < lo2 := by
       rw [zJ] at hg
       split at hg
       ·exact .inl (by assumption)
       ·exact .inr ((z08 _ _).1 hg)
      exact bool (b := true) rfl h (fun w => by simp [binOp, Op.intCmp]; omega)
     ·rw [zf] at h
      split at h
      ·rename_i hg2
       obtain ⟨g1, g2⟩ := z0e hg2
       have g1 := Nat.eq_of_beq_eq_true g1
       have g2 := Nat.eq_of_beq_eq_true g2
       exact bool (b := false) rfl h (fun w => by simp [binOp, Op.intCmp]; omega)
      ·cases h
 case lss =>
  rw [zJ] at h
  split at h
  ·exact bool (b := true) rfl h (fun w => by simp [binOp, Op.intCmp]; omega)
  ·rw [z0k] at h
   split at h
   ·exact bool (b := false) rfl h (fun w => by simp [binOp, Op.intCmp]; omega)
   ·rcases fact _ _ _ h with ⟨lo2, hi2, f1, f2, f3, f4, h⟩ | h
    ·rw [zJ] at h
     split at h
     ·exact bool (b := true) rfl h (fun w => by simp [binOp, Op.intCmp]; omega)
     ·rw [z0k] at h
      split at h
      ·exact bool (b := false) rfl h (fun w => by simp [binOp, Op.intCmp]; omega)
      ·cases h
    ·obtain ⟨lo2, hi2, f3, f4, h⟩ := diff h
     rw [zJ] at h
     split at h
     ·exact bool (b := true) rfl h (fun w => by simp [binOp, Op.intCmp]; omega)
     ·rw [z0k] at h
      split at h
      ·exact bool (b := false) rfl h (fun w => by simp [binOp, Op.intCmp]; omega)
      ·cases h
 case geq =>
  rw [zJ] at h
  split at h
  ·exact bool (b := false) rfl h (fun w => by simp [binOp, Op.intCmp]; omega)
  ·rw [z0k] at h
   split at h
   ·exact bool (b := true) rfl h (fun w => by simp [binOp, Op.intCmp]; omega)
   ·rcases fact _ _ _ h with ⟨lo2, hi2, f1, f2, f3, f4, h⟩ | h
    ·rw [zJ] at h
     split at h
     ·exact bool (b := false) rfl h (fun w => by simp [binOp, Op.intCmp]; omega)
     ·rw [z0k] at h
      split at h
      ·exact bool (b := true) rfl h (fun w => by simp [binOp, Op.intCmp]; omega)
      ·cases h
    ·cases h
 case gtr =>
  rw [zJ] at h
  split at h
  ·exact bool (b := true) rfl h (fun w => by simp [binOp, Op.intCmp]; omega)
  ·rw [z0k] at h
   split at h
   ·exact bool (b := false) rfl h (fun w => by simp [binOp, Op.intCmp]; omega)
   ·rcases fact _ _ _ h with ⟨lo2, hi2, f1, f2, f3, f4, h⟩ | h
    ·rw [zJ] at h
     split at h
     ·exact bool (b := true) rfl h (fun w => by simp [binOp, Op.intCmp]; omega)
     ·rw [z0k] at h
      split at h
      ·exact bool (b := false) rfl h (fun w => by simp [binOp, Op.intCmp]; omega)
      ·cases h
    ·obtain ⟨lo2, hi2, f3, f4, h⟩ := diff h
     rw [z0k] at h
     split at h
     ·exact bool (b := false) rfl h (fun w => by simp [binOp, Op.intCmp]; omega)
     ·rw [zJ] at h
      split at h
      ·exact bool (b := true) rfl h (fun w => by simp [binOp, Op.intCmp]; omega)
      ·cases h
 case leq =>
  rw [zJ] at h
  split at h
  ·exact bool (b := false) rfl h (fun w => by simp [binOp, Op.intCmp]; omega)
  ·rw [z0k] at h
   split at h
   ·exact bool (b := true) rfl h (fun w => by simp [binOp, Op.intCmp]; omega)
   ·rcases fact _ _ _ h with ⟨lo2, hi2, f1, f2, f3, f4, h⟩ | h
    ·rw [zJ] at h
     split at h
     ·exact bool (b := false) rfl h (fun w => by simp [binOp, Op.intCmp]; omega)
     ·rw [z0k] at h
      split at h
      ·exact bool (b := true) rfl h (fun w => by simp [binOp, Op.intCmp]; omega)
      ·cases h
    ·cases h
theorem VR.z9D {x : Nat} {u : Value} (h : VR ρ L x u) (hx : x = 55) : ∃ z, u = .int .i64 z ∧ -9223372036854775808 ≤ z ∧ z < 9223372036854775808 := by
 have h7 : tagOf x = 7 := by rw [hx]; rfl
 have hk : xKind (payOf x) = 9 := by rw [hx]; rfl
 cases h with
 | anyI z h1 h2 => exact ⟨z, rfl, h1, h2⟩
 | int p hp => rw [z1i] at h7; cases h7
 | bool b => rw [z15] at h7; cases h7
 | ptr => rw [z0P] at h7; cases h7
 | slice => rw [z1e] at h7; cases h7
 | agg => rw [z0h] at h7; cases h7
 | tup => rw [z0h] at h7; cases h7
 | clo => rw [zS] at h7; cases h7
 | iface => rw [zS] at h7; cases h7
 | chan => rw [zS] at h7; cases h7
 | fn => rw [z0U] at h7; cases h7
 | yld => rw [z0D] at h7; cases h7
 | var => rw [z1t] at h7; cases h7
 | opq => rw [z1u] at h7; cases h7
 | btw => rw [z1v] at h7; cases h7
 | u64 => rw [z0V] at h7; cases h7
 | map b => rw [z3d, z1r (by omega)] at hk; omega
 | ostr j lo hi =>
  unfold ostrW at hx
  have : mk 7 (Nat.add 18 (Nat.mul 4 (Nat.add (Nat.mul 4194304 (Nat.add (Nat.mul 4194304 j) lo)) hi))) = 16 * (18 + 4 * (4194304 * (4194304 * j + lo) + hi)) + 7 := rfl
  rw [this] at hx; omega
 | str s =>
  unfold strW at hx
  have : mk 7 (Nat.add 19 (Nat.mul 4 (bytesW s.data.toList))) = 16 * (19 + 4 * bytesW s.data.toList) + 7 := rfl
  rw [this] at hx; omega
 | poly id =>
  have : polyW id = 16 * (16 + 4 * id) + 7 := rfl
  rw [this] at hx; omega
 | _ => cases hx
theorem z7U {x : Nat} {u : Value} (hx : VR ρ L x u) (h : isInt1 x = true) : ∃ z, u = .int .i64 z ∧ -9223372036854775808 ≤ z ∧ z < 9223372036854775808 := by
 unfold isInt1 at h
 rw [z8] at h
 split at h
 ·rename_i h1
  obtain ⟨a, ha, _, _, rfl⟩ := hx.z0i h1
  exact ⟨_, rfl, by unfold sInt; split <;> omega, by unfold sInt; split <;> omega⟩
 ·unfold isP at h
  rw [z8] at h
  split at h
  ·rename_i h12
   obtain ⟨j, lo, hi, q1, q2, q3, q4, rfl, rfl⟩ := hx.z3V h12
   have hw := E.wf j
   exact ⟨_, rfl, by omega, by omega⟩
  ·rw [z8] at h
   split at h
   ·rename_i h7
    rw [z8] at h
    split at h
    ·rename_i h55
     exact hx.z9D h55
    ·have hk := Nat.eq_of_beq_eq_true h
     obtain ⟨p', q', s', d', lo', hi', z, hL', hz, rfl⟩ := hx.zar h7 hk
     obtain ⟨f1, f2, f3, f4, _⟩ := hz
     exact ⟨_, rfl, by omega, by omega⟩
   ·cases h
theorem zdc {x : Nat} (h : isInt1 x = true) : tagOf x ≠ 15 := by
 intro h15
 unfold isInt1 isP at h
 rw [h15] at h
 cases h
theorem z2U {op : BinOp} {y : Nat} (h : anyBin op y H n = .ok v H' n') : H' = H ∧ n' = n ∧ ((op = .mul ∧ y = 1 ∧ v = 1) ∨ (isInt1 y = true ∧ v = 55 ∧ (op = .add ∨ op = .sub ∨ op = .mul))) := by
 unfold anyBin at h
 cases op <;> simp only at h <;> try (cases h; done)
 case add =>
  rw [zf] at h
  split at h
  ·rename_i h1
   injection h with a1 a2 a3
   exact ⟨a2.symm, a3.symm, .inr ⟨h1, a1.symm, .inl rfl⟩⟩
  ·cases h
 case sub =>
  rw [zf] at h
  split at h
  ·rename_i h1
   injection h with a1 a2 a3
   exact ⟨a2.symm, a3.symm, .inr ⟨h1, a1.symm, .inr (.inl rfl)⟩⟩
  ·cases h
 case mul =>
  rw [z8] at h
  split at h
  ·rename_i h1
   injection h with a1 a2 a3
   exact ⟨a2.symm, a3.symm, .inl ⟨rfl, h1, a1.symm⟩⟩
  ·rw [zf] at h
   split at h
   ·rename_i h1
    injection h with a1 a2 a3
    exact ⟨a2.symm, a3.symm, .inr ⟨h1, a1.symm, .inr (.inr rfl)⟩⟩
   ·cases h
theorem z3w {op : BinOp} {x y : Nat} (h : polyBin op x y H n = .ok v H' n') : tagOf x ≠ 15 ∧ tagOf y ≠ 15 := by
 have one : ∀ {z : Nat}, anyBin op z H n = .ok v H' n' → tagOf z ≠ 15 := fun {z} h => by
  obtain ⟨_, _, ⟨_, rfl, _⟩ | ⟨h1, _⟩⟩ := z2U h
  ·decide
  ·exact zdc h1
 unfold polyBin at h
 rw [z8] at h
 split at h
 ·rename_i hx
  subst hx
  exact ⟨by decide, one h⟩
 ·rw [z8] at h
  split at h
  ·rename_i hy
   subst hy
   exact ⟨one h, by decide⟩
  ·exact z7Q h
theorem z8z {op : BinOp} {x y : Nat} (h : polyBin op x y H n = .ok v H' n') : (H' = H ∧ n' = n) ∨ ∃ p q s d lo hi, H' = hset H n (.poly p q s d lo hi) ∧ n' = n + 1 ∧ n < 16384 ∧ d < 64 := by
 unfold polyBin at h
 rw [z8] at h
 split at h
 ·obtain ⟨h1, h2, _⟩ := z2U h
  exact .inl ⟨h1, h2⟩
 ·rw [z8] at h
  split at h
  ·obtain ⟨h1, h2, _⟩ := z2U h
   exact .inl ⟨h1, h2⟩
  ·exact z7R h
theorem zaz (op : BinOp) (ho : op = .add ∨ op = .sub ∨ op = .mul) (t : TypeId) (a b : Int) : ∃ u : Int, (-9223372036854775808 ≤ u ∧ u < 9223372036854775808) ∧ ∀ (P : Program) (w : World), (binOp op t (.int .i64 a) (.int .i64 b) : Sem Value).run P w = .ok (.int .i64 u) w := by
 rcases ho with rfl | rfl | rfl
 ·obtain ⟨u, hu, u1, u2, _⟩ := z1l (a + b)
  exact ⟨u, ⟨u1, u2⟩, fun P w => by simp [binOp, Op.intArith, hu]⟩
 ·obtain ⟨u, hu, u1, u2, _⟩ := z1l (a - b)
  exact ⟨u, ⟨u1, u2⟩, fun P w => by simp [binOp, Op.intArith, hu]⟩
 ·obtain ⟨u, hu, u1, u2, _⟩ := z1l (a * b)
  exact ⟨u, ⟨u1, u2⟩, fun P w => by simp [binOp, Op.intArith, hu]⟩
theorem zce {x : Nat} {u : Value} (h : VR ρ L x u) (hx : x = 1) : u = .int .i64 0 := by
 subst hx
 obtain ⟨a, ha, hw, hpa, hv⟩ := h.z0i (by rfl)
 have : payOf 1 = 0 := rfl
 rw [this] at hpa; subst hpa
 rw [hv]; rfl
theorem z2G (c : Ctx base H n ρ L w) {op : BinOp} {t : TypeId} {x y : Nat} {vx vy : Value} (hx : VR ρ L x vx) (hy : VR ρ L y vy) (h : polyBin op x y H n = .ok v H' n') :
  ∃ zx zy, vx = .int .i64 zx ∧ vy = .int .i64 zy ∧ CalmD ρ L H n w v H' n' (fun r w' => (binOp op t vx vy : Sem Value).run P w' = .ok r w') := by
 unfold polyBin at h
 rw [z8] at h
 split at h
 ·rename_i hx55
  obtain ⟨zx, rfl, _, _⟩ := hx.z9D hx55
  obtain ⟨rfl, rfl, ⟨rfl, h1, rfl⟩ | ⟨h1, rfl, ho⟩⟩ := z2U h
  ·obtain rfl := zce hy h1
   refine ⟨zx, 0, rfl, rfl, .pure c (x := .int .i64 0) (.int 0 (by omega)) ?_⟩
   obtain ⟨u, hu, u1, u2, u3⟩ := z1l (zx * 0)
   have : u = 0 := by rw [Int.mul_zero] at u3; omega
   subst this
   rw [Int.mul_zero] at hu
   simp [binOp, Op.intArith, hu]
  ·obtain ⟨zy, rfl, _, _⟩ := z7U hy h1
   obtain ⟨u, ⟨u1, u2⟩, hu⟩ := zaz op ho t zx zy
   exact ⟨zx, zy, rfl, rfl, .pure c (.anyI u u1 u2) (hu P w)⟩
 ·rw [z8] at h
  split at h
  ·rename_i hy55
   obtain ⟨zy, rfl, _, _⟩ := hy.z9D hy55
   obtain ⟨rfl, rfl, ⟨rfl, h1, rfl⟩ | ⟨h1, rfl, ho⟩⟩ := z2U h
   ·obtain rfl := zce hx h1
    refine ⟨0, zy, rfl, rfl, .pure c (x := .int .i64 0) (.int 0 (by omega)) ?_⟩
    obtain ⟨u, hu, u1, u2, u3⟩ := z1l (0 * zy)
    have : u = 0 := by rw [Int.zero_mul] at u3; omega
    subst this
    rw [Int.zero_mul] at hu
    simp [binOp, Op.intArith, hu]
   ·obtain ⟨zx, rfl, _, _⟩ := z7U hx h1
    obtain ⟨u, ⟨u1, u2⟩, hu⟩ := zaz op ho t zx zy
    exact ⟨zx, zy, rfl, rfl, .pure c (.anyI u u1 u2) (hu P w)⟩
  ·exact z7T c hx hy h
theorem z8A (P : Program) (c : Ctx base H n ρ L w) {x y : Nat} {zx zy : Int} (hx : VR ρ L x (.int .i64 zx)) (hy : VR ρ L y (.int .i64 zy)) (h : polyBin .eql x y H n = .ok v H' n') :
  (v = 18 → zx = zy) ∧ (v = 2 → zx ≠ zy) := by
 obtain ⟨zx', zy', e1, e2, u, hc, hr⟩ := z2G (P := P) (t := 0) c hx hy h
 have hu : u = .bool (zx == zy) := by
  have := hr
  simp [binOp, Op.intCmp] at this
  rw [← this]
 have hv : ∀ k, v = k → tagOf k = 2 → VR ρ L k u := by
  intro k hk ht
  rcases hc with ⟨_, _, hv⟩ | ⟨b, _, _, _, _, hv, _⟩
  ·rw [← hk]; exact hv
  ·exfalso
   rw [← hk, hv] at ht
   cases b with
   | box kd m c =>
    unfold wdOf at ht
    simp only at ht
    split at ht
    ·rw [zS] at ht; cases ht
    ·rw [z0h] at ht; cases ht
   | poly =>
    have ht : tagOf (polyW n) = 2 := ht
    unfold polyW at ht
    rw [zW] at ht; cases ht
   | _ => cases ht
 constructor
 ·intro hk
  have := (hv 18 hk rfl).z3F
  rw [hu] at this
  injection this with this
  exact eq_of_beq this
 ·intro hk
  have := (hv 2 hk rfl).z2O
  rw [hu] at this
  injection this with this
  exact ne_of_beq_false this
theorem zaA (c : Ctx base H n ρ L w) {x : Nat} {u : Value} (hx : VR ρ L x u) (h : sel (Nat.beq (tagOf x) 1) true (isP x) = true) : IntCell u := by
 have fin : ∀ z : Int, -9223372036854775808 ≤ z → z < 9223372036854775808 → IntCell (.int .i64 z) := by
  intro z h1 h2
  refine ⟨z, rfl, ?_⟩
  have e1 : IntKind.i64.min = -9223372036854775808 := by decide
  have e2 : IntKind.i64.max = 9223372036854775807 := by decide
  simp only [Lit.wf, e1, e2]
  simp
  omega
 rw [z8] at h
 split at h
 ·rename_i h1
  obtain ⟨a, ha, _, _, rfl⟩ := hx.z0i h1
  exact fin _ (by unfold sInt; split <;> omega) (by unfold sInt; split <;> omega)
 ·rename_i h1
  obtain ⟨z, rfl, z1, z2⟩ := z7U hx (by unfold isInt1; rw [z8, if_neg h1]; exact h)
  exact fin z z1 z2
theorem z7V (c i : Nat) : getW (Nat.shiftRight c 128) i = getW c (i + 1) := by
 apply Nat.eq_of_testBit_eq
 intro k
 rw [z0n, z0n]
 have : (Nat.shiftRight c 128).testBit (128 * i + k) = c.testBit (128 + (128 * i + k)) := Nat.testBit_shiftRight ..
 rw [this, show 128 * (i + 1) + k = 128 + (128 * i + k) from by omega]
theorem z4O : ∀ (m c : Nat), allNum m c = true → ∀ i, i < m → sel (Nat.beq (tagOf (getW c i)) 1) true (isP (getW c i)) = true
 | 0, _, _, i, hi => by omega
 | m + 1, c, h, i, hi => by
  have e : allNum (m + 1) c = sel (sel (Nat.beq (tagOf (getW c 0)) 1) true (isP (getW c 0))) (allNum m (Nat.shiftRight c 128)) false := rfl
  rw [e] at h
  obtain ⟨h1, h2⟩ := z0e h
  cases i with
  | zero => exact h1
  | succ i =>
   have := z4O m _ h2 i (by omega)
   rw [z7V] at this
   exact this
theorem z8B (P : Program) (cx : Ctx base H n ρ L w) : ∀ (m c c' : Nat) (f f' : Nat → Int), (∀ i, i < m → VR ρ L (getW c i) (.int .i64 (f i))) → (∀ i, i < m → VR ρ L (getW c' i) (.int .i64 (f' i))) →
  (eqP H n m c c' = 18 → ∀ i, i < m → f i = f' i) ∧ (eqP H n m c c' = 2 → ∃ i, i < m ∧ f i ≠ f' i)
 | 0, c, c', f, f', _, _ => ⟨fun _ i hi => by omega, fun h => by cases h⟩
 | m + 1, c, c', f, f', h1, h2 => by
  have e : eqP H n (m + 1) c c' = (match polyBin .eql (getW c 0) (getW c' 0) H n with
   | .ok v _ _ => sel (Nat.beq v 18) (eqP H n m (Nat.shiftRight c 128) (Nat.shiftRight c' 128)) (sel (Nat.beq v 2) 2 15)
   | .bad _ => 15) := rfl
  rw [e]
  have ih := z8B P cx m (Nat.shiftRight c 128) (Nat.shiftRight c' 128) (fun i => f (i + 1)) (fun i => f' (i + 1)) (fun i hi => by rw [z7V]; exact h1 (i + 1) (by omega)) (fun i hi => by rw [z7V]; exact h2 (i + 1) (by omega))
  cases hp : polyBin .eql (getW c 0) (getW c' 0) H n with
  | bad q => exact ⟨fun h => (by cases h), fun h => (by cases h)⟩
  | ok v H' n' =>
   have hs := z8A P cx (h1 0 (by omega)) (h2 0 (by omega)) hp
   simp only
   rw [z8]
   split
   ·rename_i hv
    refine ⟨fun h i hi => ?_, fun h => ?_⟩
    ·cases i with
     | zero => exact hs.1 hv
     | succ i => exact ih.1 h i (by omega)
    ·obtain ⟨i, hi, hne⟩ := ih.2 h
     exact ⟨i + 1, by omega, hne⟩
   ·rw [z8]
    split
    ·rename_i hv
     exact ⟨fun h => (by cases h), fun _ => ⟨0, by omega, hs.2 hv⟩⟩
    ·exact ⟨fun h => (by cases h), fun h => (by cases h)⟩
theorem numCells (cx : Ctx base H n ρ L w) {m c : Nat} {vs : Array Value} (h : CellsR ρ L m c vs) (hi : allNum m c = true) : (∀ v ∈ vs.toList, IntCell v) ∧ ∃ f : Nat → Int, ∀ i, i < m → VR ρ L (getW c i) (.int .i64 (f i)) ∧ vs[i]? = some (.int .i64 (f i)) := by
 have key : ∀ i, ∃ z : Int, i < m → VR ρ L (getW c i) (.int .i64 z) ∧ vs[i]? = some (.int .i64 z) := by
  intro i
  by_cases him : i < m
  ·obtain ⟨u, a, b, _⟩ := h.2.2 i him
   obtain ⟨z, rfl, _⟩ := zaA cx b (z4O m c hi i him)
   exact ⟨z, fun _ => ⟨b, a⟩⟩
  ·exact ⟨0, fun h => absurd h him⟩
 refine ⟨fun v hv => ?_, fun i => (key i).choose, fun i hi => (key i).choose_spec hi⟩
 obtain ⟨i, him, he⟩ := Array.mem_iff_getElem.1 (Array.mem_toList_iff.1 hv)
 obtain ⟨u, a, b, _⟩ := h.2.2 i (by rw [← h.1]; exact him)
 rw [Array.getElem?_eq_getElem him, he] at a
 injection a with a
 subst a
 exact zaA cx b (z4O m c hi i (by rw [← h.1]; exact him))
theorem zcf {op : BinOp} {r : Nat} (h : eqR op r H n = .ok v H' n') : H' = H ∧ n' = n ∧ ((op = .eql ∧ ((r = 18 ∧ v = 18) ∨ (r = 2 ∧ v = 2))) ∨ (op = .neq ∧ ((r = 18 ∧ v = 2) ∨ (r = 2 ∧ v = 18)))) := by
 unfold eqR at h
 split at h
 ·rw [z8] at h
  split at h
  ·injection h with a b c; exact ⟨b.symm, c.symm, .inl ⟨rfl, .inl ⟨by assumption, a.symm⟩⟩⟩
  ·rw [z8] at h
   split at h
   ·injection h with a b c; exact ⟨b.symm, c.symm, .inl ⟨rfl, .inr ⟨by assumption, a.symm⟩⟩⟩
   ·cases h
 ·rw [z8] at h
  split at h
  ·injection h with a b c; exact ⟨b.symm, c.symm, .inr ⟨rfl, .inl ⟨by assumption, a.symm⟩⟩⟩
  ·rw [z8] at h
   split at h
   ·injection h with a b c; exact ⟨b.symm, c.symm, .inr ⟨rfl, .inr ⟨by assumption, a.symm⟩⟩⟩
   ·cases h
 ·cases h
theorem zcg {op : BinOp} {t : TypeId} {m ch m' ch' : Nat} (h : eqA2 P op t m ch m' ch' H n = .ok v H' n') : H' = H ∧ n' = n := by
 unfold eqA2 at h
 obtain ⟨a, b, _⟩ := zcf (z1M h)
 exact ⟨a, b⟩
theorem zch (c : Ctx base H n ρ L w) {op : BinOp} {t : TypeId} {m ch m' ch' : Nat} {vs vs' : Array Value} (hk : keyT P t = true) (hgt : P.eqGuardType P.depth t = false) (hc1 : CellsR ρ L m ch vs) (hc2 : CellsR ρ L m' ch' vs') (ox oy : Operand)
  (h : eqA2 P op t m ch m' ch' H n = .ok v H' n') :
  CalmD ρ L H n w v H' n' (fun r w' => (do eqGuard op t ox oy (.agg vs) (.agg vs'); binOp op t (.agg vs) (.agg vs') : Sem Value).run P w' = .ok r w') := by
 unfold eqA2 at h
 have hq := z1s h
 have h := z1M h
 obtain ⟨q1, hq⟩ := z0e hq
 obtain ⟨q2, hq⟩ := z0e hq
 obtain ⟨hi1, hi2⟩ := z0e hq
 have hm : m = P.cellsOf t := Nat.eq_of_beq_eq_true q1
 have hm' : m' = P.cellsOf t := Nat.eq_of_beq_eq_true q2
 have hmm : m' = m := by rw [hm, hm']
 subst hmm
 obtain ⟨a1, f, a2⟩ := numCells c hc1 hi1
 obtain ⟨b1, f', b2⟩ := numCells c hc2 hi2
 obtain ⟨r, key, hiff⟩ := z6L (P := P) hk hm hc1.1 hc2.1 a1 b1 w
 obtain ⟨s1, s2⟩ := z8B P c m' ch ch' f f' (fun i hi => (a2 i hi).1) (fun i hi => (b2 i hi).1)
 obtain ⟨rfl, rfl, hcase⟩ := zcf h
 have yes : eqP H' n' m' ch ch' = 18 → r = true := by
  intro e
  refine hiff.2 (Array.ext (by rw [hc1.1, hc2.1]) fun i h1 h2 => ?_)
  have hi : i < m' := by rw [← hc1.1]; exact h1
  have x1 := (a2 i hi).2
  have x2 := (b2 i hi).2
  rw [Array.getElem?_eq_getElem h1] at x1
  rw [Array.getElem?_eq_getElem h2] at x2
  injection x1 with x1; injection x2 with x2
  rw [x1, x2, s1 e i hi]
 have no : eqP H' n' m' ch ch' = 2 → r = false := by
  intro e
  obtain ⟨i, hi, hne⟩ := s2 e
  cases r with
  | false => rfl
  | true =>
   have ev := hiff.1 rfl
   subst ev
   have x1 := (a2 i hi).2
   rw [(b2 i hi).2] at x1
   injection x1 with x1; injection x1 with _ x1
   exact absurd x1.symm hne
 have hgd : (eqGuard op t ox oy (.agg vs) (.agg vs')).run P w = .ok () w := by
  unfold eqGuard
  cases op <;> simp [hgt]
 have fin : ∀ b : Bool, v = wB b → (binOp op t (.agg vs) (.agg vs') : Sem Value).run P w = .ok (.bool b) w → CalmD ρ L H' n' w v H' n' (fun r w' => (do eqGuard op t ox oy (.agg vs) (.agg vs'); binOp op t (.agg vs) (.agg vs') : Sem Value).run P w' = .ok r w') := by
  rintro b rfl hb
  refine .pure c (.bool b) ?_
  simp only [Sem.run_bind, hgd, Result.andThen_ok, hb]
 rcases hcase with ⟨rfl, ⟨e, rfl⟩ | ⟨e, rfl⟩⟩ | ⟨rfl, ⟨e, rfl⟩ | ⟨e, rfl⟩⟩
 ·exact fin true rfl (by rw [yes e] at key; simp only [binOp, Sem.run_bind, key, Result.andThen_ok, Sem.run_pure])
 ·exact fin false rfl (by rw [no e] at key; simp only [binOp, Sem.run_bind, key, Result.andThen_ok, Sem.run_pure])
 ·exact fin false rfl (by rw [yes e] at key; simp only [binOp, Sem.run_bind, key, Result.andThen_ok, Sem.run_pure]; rfl)
 ·exact fin true rfl (by rw [no e] at key; simp only [binOp, Sem.run_bind, key, Result.andThen_ok, Sem.run_pure]; rfl)
theorem zdd (c : Ctx base H n ρ L w) {op : BinOp} {t : TypeId} {x y : Nat} {vx vy : Value} (hx : VR ρ L x vx) (hy : VR ρ L y vy) (h6 : tagOf x = 6) (ox oy : Operand) (h : eqA P op t x y H n = .ok v H' n') :
  CalmD ρ L H n w v H' n' (fun r w' => (do eqGuard op t ox oy vx vy; binOp op t vx vy : Sem Value).run P w' = .ok r w') := by
 unfold eqA at h
 have hg := z1s h
 have h := z1M h
 obtain ⟨hk, hg⟩ := z0e hg
 have hgt : P.eqGuardType P.depth t = false := by
  cases hq : P.eqGuardType P.depth t with
  | false => rfl
  | true => rw [hq] at hg; cases hg
 have hy6 : tagOf y = 6 := Nat.eq_of_beq_eq_true (z1s h)
 have h := z1M h
 split at h
 ·rename_i m ch m' ch' g1 g2
  obtain ⟨vs, rfl, hc1⟩ := hx.z2L h6 (c.agree.2 _ _ g1)
  obtain ⟨vs', rfl, hc2⟩ := hy.z2L hy6 (c.agree.2 _ _ g2)
  rw [zf] at h
  split at h
  ·rename_i hq
   obtain ⟨q1, hq⟩ := z0e hq
   obtain ⟨q2, hq⟩ := z0e hq
   obtain ⟨hi1, hi2⟩ := z0e hq
   have hm : m = P.cellsOf t := Nat.eq_of_beq_eq_true q1
   have hm' : m' = P.cellsOf t := Nat.eq_of_beq_eq_true q2
   have hmm : m' = m := by rw [hm, hm']
   subst hmm
   have key := z3v (P := P) hk hm hc1 hc2 hi1 hi2 w
   have hgd : (eqGuard op t ox oy (.agg vs) (.agg vs')).run P w = .ok () w := by
    unfold eqGuard
    cases op <;> simp [hgt]
   split at h
   ·injection h with e1 e2 e3
    subst e1; subst e2; subst e3
    refine .pure c (.bool _) ?_
    simp only [Sem.run_bind, hgd, Result.andThen_ok]
    simp only [binOp, Sem.run_bind, key, Result.andThen_ok, Sem.run_pure]
   ·injection h with e1 e2 e3
    subst e1; subst e2; subst e3
    refine .pure c (.bool _) ?_
    simp only [Sem.run_bind, hgd, Result.andThen_ok]
    have : sel (Nat.beq ch ch') false true = !(Nat.beq ch ch') := by cases Nat.beq ch ch' <;> rfl
    rw [this]
    simp only [binOp, Sem.run_bind, key, Result.andThen_ok, Sem.run_pure]
   ·cases h
  ·exact zch c hk hgt hc1 hc2 ox oy h
 ·cases h
theorem zde {op : BinOp} {t : TypeId} {x y : Nat} (h : eqA P op t x y H n = .ok v H' n') : H' = H ∧ n' = n := by
 unfold eqA at h
 have h := z1M (z1M h)
 split at h
 ·rw [zf] at h
  split at h
  ·split at h
   ·injection h with a b c; exact ⟨b.symm, c.symm⟩
   ·injection h with a b c; exact ⟨b.symm, c.symm⟩
   ·cases h
  ·exact zcg h
 ·cases h
theorem z7c : ∀ {a b : List UInt8}, bytesW a = bytesW b → a = b
 | [], [], _ => rfl
 | [], y :: b, h => by
  have e : bytesW (y :: b) = y.toNat + 256 * bytesW b := rfl
  have e0 : bytesW [] = 1 := rfl
  have hp : ∀ l : List UInt8, 1 ≤ bytesW l := fun l => by
   induction l with
   | nil => exact Nat.le_refl _
   | cons x l ih => have : bytesW (x :: l) = x.toNat + 256 * bytesW l := rfl; omega
  have := hp b
  omega
 | x :: a, [], h => by
  have e : bytesW (x :: a) = x.toNat + 256 * bytesW a := rfl
  have e0 : bytesW [] = 1 := rfl
  have hp : ∀ l : List UInt8, 1 ≤ bytesW l := fun l => by
   induction l with
   | nil => exact Nat.le_refl _
   | cons x l ih => have : bytesW (x :: l) = x.toNat + 256 * bytesW l := rfl; omega
  have := hp a
  omega
 | x :: a, y :: b, h => by
  have e : bytesW (x :: a) = x.toNat + 256 * bytesW a := rfl
  have e2 : bytesW (y :: b) = y.toNat + 256 * bytesW b := rfl
  have hx := x.toNat_lt
  have hy := y.toNat_lt
  rw [e, e2] at h
  have h1 : x.toNat = y.toNat := by omega
  have h2 : bytesW a = bytesW b := by omega
  rw [z7c h2, UInt8.toNat_inj.1 h1]
theorem zaB {a b : ByteArray} (h : strW a = strW b) : a = b := by
 have h1 : 16 * (19 + 4 * bytesW a.data.toList) + 7 = 16 * (19 + 4 * bytesW b.data.toList) + 7 := h
 have h2 : bytesW a.data.toList = bytesW b.data.toList := by omega
 exact WideShapes.bytes_inj (z7c h2)
theorem VR.z6a {x : Nat} {u : Value} (h : VR ρ L x u) (hx : isStr x = true) : ∃ s, x = strW s ∧ u = .string s := by
 unfold isStr at hx
 rw [z8] at hx
 split at hx
 ·rename_i h2
  have hk := Nat.eq_of_beq_eq_true hx
  cases h with
  | str s => exact ⟨s, rfl, rfl⟩
  | ostr j lo hi =>
   unfold ostrW at hk
   rw [z05 7 _ (by omega)] at hk
   have h4 : ∀ k, Nat.add 18 (Nat.mul 4 k) = 18 + 4 * k := fun _ => rfl
   rw [h4, z1r (by omega)] at hk; omega
  | int p hp => rw [z1i] at h2; cases h2
  | bool b => rw [z15] at h2; cases h2
  | ptr => rw [z0P] at h2; cases h2
  | slice => rw [z1e] at h2; cases h2
  | agg => rw [z0h] at h2; cases h2
  | tup => rw [z0h] at h2; cases h2
  | clo => rw [zS] at h2; cases h2
  | iface => rw [zS] at h2; cases h2
  | chan => rw [zS] at h2; cases h2
  | fn => rw [z0U] at h2; cases h2
  | yld => rw [z0D] at h2; cases h2
  | var => rw [z1t] at h2; cases h2
  | opq => rw [z1u] at h2; cases h2
  | btw => rw [z1v] at h2; cases h2
  | u64 => rw [z0V] at h2; cases h2
  | map b => rw [z3d, z1r (by omega)] at hk; omega
  | poly id =>
   unfold polyW at hk
   rw [z05 7 _ (by omega)] at hk
   have h4 : Nat.add 16 (Nat.mul 4 id) = 16 + 4 * id := rfl
   rw [h4, z1r (by omega)] at hk; omega
  | _ => cases hk
 ·cases hx
theorem zb6 {op : BinOp} {t : TypeId} {x y : Nat} {vx vy : Value} (hx : VR ρ L x vx) (hy : VR ρ L y vy) (h1 : isStr x = true) (h2 : isStr y = true) (h : tagOf (binS op x y) ≠ 15) :
  ∃ a b r, vx = .string a ∧ vy = .string b ∧ VR ρ L (binS op x y) r ∧ (binOp op t vx vy).run P w = .ok r w := by
 obtain ⟨a, rfl, rfl⟩ := hx.z6a h1
 obtain ⟨b, rfl, rfl⟩ := hy.z6a h2
 have key : Nat.beq (strW a) (strW b) = (a.toList == b.toList) := by
  by_cases hab : a = b
  ·subst hab; simp
  ·have h3 : Nat.beq (strW a) (strW b) = false := by
    cases hq : Nat.beq (strW a) (strW b) with
    | false => rfl
    | true => exact absurd (zaB (Nat.eq_of_beq_eq_true hq)) hab
   rw [h3]
   cases hq : (a.toList == b.toList) with
   | false => rfl
   | true =>
    have := eq_of_beq hq
    rw [ByteArray.toList_eq, ByteArray.toList_eq] at this
    exact absurd (WideShapes.bytes_inj this) hab
 refine ⟨a, b, ?_⟩
 unfold binS at h ⊢
 cases op <;> first | exact absurd rfl h | skip
 case eql => exact ⟨_, rfl, rfl, .bool _, by rw [key, binOp_string_eql]; rfl⟩
 case neq =>
  refine ⟨_, rfl, rfl, .bool _, ?_⟩
  have : sel (Nat.beq (strW a) (strW b)) false true = !(a.toList == b.toList) := by rw [← key]; cases Nat.beq (strW a) (strW b) <;> rfl
  rw [this, binOp_string_neq]; rfl
theorem VR.z5y {x : Nat} {u : Value} (h : VR ρ L x u) (hx : isOstr x = true) : ∃ j lo hi, lo < 4194304 ∧ hi < 4194304 ∧ lo ≤ (E.txt j).size ∧ (hi = 0 ∨ (E.txt j).size ≤ hi) ∧ E.int (txtIx j) = ((E.txt j).size : Int) ∧ x = ostrW j lo hi ∧ u = .string (E.txt j) := by
 unfold isOstr at hx
 rw [z8] at hx
 split at hx
 ·rename_i h2
  have hk := Nat.eq_of_beq_eq_true hx
  cases h with
  | ostr j lo hi a1 a2 a3 a4 a5 => exact ⟨j, lo, hi, a1, a2, a3, a4, a5, rfl, rfl⟩
  | str s =>
   unfold strW at hk
   rw [z05 7 _ (by omega)] at hk
   have h4 : Nat.add 19 (Nat.mul 4 (bytesW s.data.toList)) = 19 + 4 * bytesW s.data.toList := rfl
   rw [h4, z1r (by omega)] at hk; omega
  | int p hp => rw [z1i] at h2; cases h2
  | bool b => rw [z15] at h2; cases h2
  | ptr => rw [z0P] at h2; cases h2
  | slice => rw [z1e] at h2; cases h2
  | agg => rw [z0h] at h2; cases h2
  | tup => rw [z0h] at h2; cases h2
  | clo => rw [zS] at h2; cases h2
  | iface => rw [zS] at h2; cases h2
  | chan => rw [zS] at h2; cases h2
  | fn => rw [z0U] at h2; cases h2
  | yld => rw [z0D] at h2; cases h2
  | var => rw [z1t] at h2; cases h2
  | opq => rw [z1u] at h2; cases h2
  | btw => rw [z1v] at h2; cases h2
  | u64 => rw [z0V] at h2; cases h2
  | map b => rw [z3d, z1r (by omega)] at hk; omega
  | poly id =>
   unfold polyW at hk
   rw [z05 7 _ (by omega)] at hk
   have h4 : Nat.add 16 (Nat.mul 4 id) = 16 + 4 * id := rfl
   rw [h4, z1r (by omega)] at hk; omega
  | _ => cases hk
 ·cases hx
theorem z4A (j lo hi : Nat) (h1 : lo < 4194304) (h2 : hi < 4194304) : osHi (payOf (ostrW j lo hi)) = hi ∧ osLo (payOf (ostrW j lo hi)) = lo ∧ osIx (payOf (ostrW j lo hi)) = j := by
 have hp : payOf (ostrW j lo hi) = 18 + 4 * (4194304 * (4194304 * j + lo) + hi) := by
  unfold ostrW
  rw [z05 7 _ (by omega)]; rfl
 have hn : xNum (payOf (ostrW j lo hi)) = 4194304 * (4194304 * j + lo) + hi := by
  rw [hp]; show (18 + 4 * (4194304 * (4194304 * j + lo) + hi) - 16) / 4 = _; omega
 refine ⟨?_, ?_, ?_⟩
 ·show xNum _ % 4194304 = _; rw [hn]; omega
 ·show xNum _ / 4194304 % 4194304 = _; rw [hn]; omega
 ·show xNum _ / 17592186044416 = _; rw [hn]; omega
theorem bytes_beq (a b : ByteArray) (h : a ≠ b) : (a.toList == b.toList) = false := by
 cases hq : (a.toList == b.toList) with
 | false => rfl
 | true =>
  have := eq_of_beq hq
  rw [ByteArray.toList_eq, ByteArray.toList_eq] at this
  exact absurd (WideShapes.bytes_inj this) h
theorem zdK {j : Nat} {b : ByteArray} (hj : j < 1000) (h : inT knownT (strW b) = true) : E.txt j ≠ b := fun hh => by
 have := E.txtNe j hj
 rw [hh, h] at this
 cases this
theorem z7d {op : BinOp} {t : TypeId} {x y : Nat} {vx vy : Value} (hx : VR ρ L x vx) (hy : VR ρ L y vy) (h : tagOf (binT op x y) ≠ 15) :
  ∃ a b r, vx = .string a ∧ vy = .string b ∧ VR ρ L (binT op x y) r ∧ (binOp op t vx vy).run P w = .ok r w := by
 unfold binT at h ⊢
 rw [zf] at h ⊢
 split
 ·rename_i h1
  rw [if_pos h1, zf] at h
  rw [zf]
  split
  ·rename_i h2
   rw [if_pos h2] at h
   exact zb6 hx hy h1 h2 h
  ·rename_i h2
   rw [if_neg h2, zf] at h
   rw [zf]
   split
   ·rename_i h3
    rw [if_pos h3] at h
    obtain ⟨a, rfl, rfl⟩ := hx.z6a h1
    obtain ⟨j, lo, hi, a1, a2, a3, a4, a5, rfl, rfl⟩ := hy.z5y h3
    rw [zJ] at h ⊢
    split
    rotate_left
    ·rename_i hj
     rw [if_neg hj] at h
     exact absurd rfl h
    rename_i hj
    rw [if_pos hj] at h
    rw [(z4A j lo hi a1 a2).2.2] at hj
    unfold binO at h ⊢
    rw [zf] at h ⊢
    split
    ·rename_i h4
     rw [if_pos h4] at h
     have hne := bytes_beq _ _ (fun hh => zdK (j := j) hj h4 hh.symm : a ≠ E.txt j)
     cases op <;> first | exact absurd rfl h | skip
     case eql => exact ⟨_, _, _, rfl, rfl, .bool false, by rw [binOp_string_eql, hne]; rfl⟩
     case neq => exact ⟨_, _, _, rfl, rfl, .bool true, by rw [binOp_string_neq, hne]; rfl⟩
    ·rename_i h4
     rw [if_neg h4] at h
     exact absurd rfl h
   ·rename_i h3
    rw [if_neg h3] at h
    exact absurd rfl h
 ·rename_i h1
  rw [if_neg h1, zf] at h
  rw [zf]
  split
  ·rename_i h2
   rw [if_pos h2, zf] at h
   rw [zf]
   obtain ⟨j, lo, hi, a1, a2, a3, a4, a5, rfl, rfl⟩ := hx.z5y h2
   split
   ·rename_i h3
    rw [if_pos h3] at h
    obtain ⟨b, rfl, rfl⟩ := hy.z6a h3
    rw [zJ] at h ⊢
    split
    rotate_left
    ·rename_i hj
     rw [if_neg hj] at h
     exact absurd rfl h
    rename_i hj
    rw [if_pos hj] at h
    rw [(z4A j lo hi a1 a2).2.2] at hj
    unfold binO at h ⊢
    rw [zf] at h ⊢
    split
    ·rename_i h4
     rw [if_pos h4] at h
     have hne := bytes_beq _ _ (zdK (j := j) hj h4)
     cases op <;> first | exact absurd rfl h | skip
     case eql => exact ⟨_, _, _, rfl, rfl, .bool false, by rw [binOp_string_eql, hne]; rfl⟩
     case neq => exact ⟨_, _, _, rfl, rfl, .bool true, by rw [binOp_string_neq, hne]; rfl⟩
    ·rename_i h4
     rw [if_neg h4] at h
     exact absurd rfl h
   ·rename_i h3
    rw [if_neg h3, zf] at h
    rw [zf]
    split
    ·rename_i h4
     rw [if_pos h4] at h
     obtain ⟨j', lo', hi', b1, b2, b3, b4, b5, rfl, rfl⟩ := hy.z5y h4
     unfold binOO at h ⊢
     rw [z8] at h ⊢
     split
     ·rename_i h5
      rw [if_pos h5] at h
      have : j = j' := by
       have q1 := (z4A j lo hi a1 a2).2.2
       have q2 := (z4A j' lo' hi' b1 b2).2.2
       rw [h5] at q1
       omega
      subst this
      have hee : ((E.txt j).toList == (E.txt j).toList) = true := by simp
      cases op <;> first | exact absurd rfl h | skip
      case eql => exact ⟨_, _, _, rfl, rfl, .bool true, by rw [binOp_string_eql, hee]; rfl⟩
      case neq => exact ⟨_, _, _, rfl, rfl, .bool false, by rw [binOp_string_neq, hee]; rfl⟩
     ·rename_i h5
      rw [if_neg h5] at h
      exact absurd rfl h
    ·rename_i h4
     rw [if_neg h4] at h
     exact absurd rfl h
  ·rename_i h2
   rw [if_neg h2] at h
   exact absurd rfl h
theorem zb7 (l : List UInt8) : 256 ^ l.length ≤ bytesW l ∧ bytesW l < 2 * 256 ^ l.length := by
 induction l with
 | nil => exact ⟨by decide, by decide⟩
 | cons b l ih =>
  have e : bytesW (b :: l) = b.toNat + 256 * bytesW l := rfl
  have hb := b.toNat_lt
  rw [e, List.length_cons, Nat.pow_succ]
  omega
theorem z8C {x : Nat} {u : Value} (hx : VR ρ L x u) (h1 : isStr x = true) (h : tagOf (strLen x) ≠ 15) : ∃ s, u = .string s ∧ strLen x = wI s.size ∧ s.size < 16 := by
 obtain ⟨s, rfl, rfl⟩ := hx.z6a h1
 unfold strLen at h ⊢
 rw [zJ] at h ⊢
 split at h
 ·rename_i hlt
  rw [if_pos hlt]
  have hn : xNum (payOf (strW s)) = bytesW s.data.toList := by
   have hp : payOf (strW s) = 19 + 4 * bytesW s.data.toList := by unfold strW; rw [z05 7 _ (by omega)]; rfl
   rw [hp]; show (19 + 4 * bytesW s.data.toList - 16) / 4 = _; omega
  have hw : strW s = 16 * (19 + 4 * bytesW s.data.toList) + 7 := rfl
  obtain ⟨q1, q2⟩ := zb7 s.data.toList
  have hlen : s.data.toList.length = s.size := Array.length_toList
  rw [hlen] at q1 q2
  have h256 : ∀ k : Nat, 256 ^ k = 2 ^ (8 * k) := fun k => by rw [Nat.pow_mul]
  rw [h256] at q1 q2
  have hlog : Nat.log2 (bytesW s.data.toList) = 8 * s.size := by
   rw [Nat.log2_eq_iff (by have := Nat.pow_pos (n := 8 * s.size) (show 0 < 2 by omega); omega)]
   rw [Nat.pow_succ]
   omega
  refine ⟨s, rfl, ?_, ?_⟩
  ·rw [hn, hlog]
   have : Nat.div (8 * s.size) 8 = s.size := by show 8 * s.size / 8 = _; omega
   rw [this]
  ·by_cases hs : s.size < 16
   ·exact hs
   ·exfalso
    have h3 : 2 ^ 128 ≤ 2 ^ (8 * s.size) := Nat.pow_le_pow_right (by omega) (by omega)
    have h4 : (2 : Nat) ^ 128 = 340282366920938463463374607431768211456 := rfl
    rw [h4] at h3
    rw [hw] at hlt
    omega
 ·exact absurd rfl h
end
end Go.Eng
