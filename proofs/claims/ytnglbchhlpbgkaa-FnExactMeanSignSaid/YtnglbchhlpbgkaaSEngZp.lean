/- Part of the evaluator: Zn Zp. -/
import Derived.Test.YtnglbchhlpbgkaaSEngZd
import Derived.Test.YtnglbchhlpbgkaaSEngXp

/- Laws on three lists; on two lists and a point; on a list and two ints; on four ints. -/
namespace Go.Eng
set_option linter.unusedSectionVars false
set_option linter.unusedSimpArgs false
set_option linter.unusedVariables false
open Go Go.RowKit

theorem Cls.next_le (k : Cls) (n : Nat) : n ≤ k.next n ∧ k.next n ≤ n + 1 := by cases k <;> simp [Cls.next]
noncomputable section
/-- a law on three lists -/
def threeRun (P : Program) (S0 : Sums) (F : Fns) (fuel d f : Nat) (c1 c2 c3 : Cls) : OR :=
  lrun P S0 F fuel d f [c1.word 0 0, c2.word (c1.next 0) 1, c3.word (c2.next (c1.next 0)) 2] (c3.heap (c2.next (c1.next 0)) 2 (c2.heap (c1.next 0) 1 (c1.heap 0 0 .nil))) (c3.next (c2.next (c1.next 0)))
/-- a law on two lists and a point -/
def llpRun (P : Program) (S0 : Sums) (F : Fns) (fi fo fuel d f : Nat) (c1 c2 : Cls) (c3 : PCls) : OR :=
  prun P S0 F fi fo fuel d f [c1.word 0 0, c2.word (c1.next 0) 1, c3.word (c2.next (c1.next 0)) 8] (c3.heap (c2.next (c1.next 0)) 8 (c2.heap (c1.next 0) 1 (c1.heap 0 0 .nil))) (c3.next (c2.next (c1.next 0)))
/-- a law on a list and two ints -/
def liiRun (P : Program) (S0 : Sums) (F : Fns) (fuel d f : Nat) (c1 : Cls) (c2 c3 : ICls) : OR :=
  lrun P S0 F fuel d f [c1.word 0 0, c2.word 1, c3.word 2] (c1.heap 0 0 .nil) (c1.next 0)
/-- a law on four ints -/
def iiiiRun (P : Program) (S0 : Sums) (fuel d f : Nat) (c1 c2 c3 c4 : ICls) : OR :=
  funE P (callN P S0 fuel d) fuel f [c1.word 1, c2.word 2, c3.word 3, c4.word 4] .nil 0
end
/-- ██ The walk of a law on three lists, out of its runs. -/
theorem three_walk {P : Program} {S0 : Sums} (hS0 : Always P S0) {F : Fns} {tInt fuel d f : Nat} (K : ListK P F.to F.eq F.mark F.inn F.of tInt) {w : World}
    {len1 cap1 : Nat} {a1 : Option Addr} {zs1 : List Int} (w1 : IntRow w a1 len1 cap1 zs1) {len2 cap2 : Nat} {a2 : Option Addr} {zs2 : List Int} (w2 : IntRow w a2 len2 cap2 zs2) {len3 cap3 : Nat} {a3 : Option Addr} {zs3 : List Int} (w3 : IntRow w a3 len3 cap3 zs3)
    (hs : ∀ c1 ∈ classes, ∀ c2 ∈ classes, ∀ c3 ∈ classes, isTrue (threeRun P S0 F fuel d f c1 c2 c3) = true) :
    Calls P f #[.slice a1 len1 cap1, .slice a2 len2 cap2, .slice a3 len3 cap3] w fun e w' => e = .returned (.bool true) ∧ Below w.heap.size w w' := by
  obtain ⟨k1, hk1, f1⟩ := Cls.of_row w1
  obtain ⟨k2, hk2, f2⟩ := Cls.of_row w2
  obtain ⟨k3, hk3, f3⟩ := Cls.of_row w3
  have hrun := hs k1 hk1 k2 hk2 k3 hk3
  obtain ⟨t11, t12, t13⟩ := Cls.told_ok w1 f1
  obtain ⟨t21, t22, t23⟩ := Cls.told_ok w2 f2
  obtain ⟨t31, t32, t33⟩ := Cls.told_ok w3 f3
  let zs : Nat → List Int := fun j => if j = 0 then k1.told (zs1.take len1) else if j = 1 then k2.told (zs2.take len2) else k3.told (zs3.take len3)
  have all : ∀ {p : List Int → Prop}, p (k1.told (zs1.take len1)) → p (k2.told (zs2.take len2)) → p (k3.told (zs3.take len3)) → ∀ j, p (zs j) := fun {p} h1 h2 h3 j => by
    show p (if j = 0 then _ else if j = 1 then _ else _)
    split
    · exact h1
    · split
      · exact h2
      · exact h3
  have hz : ∀ j, (zs j).length < 9223372036854775808 := all (p := fun l => l.length < 9223372036854775808) t11 t21 t31
  letI E : Env := listEnv zs hz
  have hE : ListE zs := listEnv_ok hz (all (p := fun l => ∀ x ∈ l, -9223372036854775808 ≤ x ∧ x < 9223372036854775808) t12 t22 t32) (fun j _ => all (p := fun l => ¬ ShareZ (nth l) l.length) t13 t23 t33 j)
  obtain ⟨ρ1, L1, c1, e1, v1⟩ := k1.put (Ctx.start w) (by omega) (j := 0) (by omega) w1 f1 (hE.lst 0 (by omega))
  have hn1 := k1.next_le 0
  have hn2 := k2.next_le (k1.next 0)
  obtain ⟨ρ2, L2, c2, e2, v2⟩ := k2.put c1 (by omega) (j := 1) (by omega) w2 f2 (hE.lst 1 (by omega))
  obtain ⟨ρ3, L3, c3, e3, v3⟩ := k3.put c2 (by omega) (j := 2) (by omega) w3 f3 (hE.lst 2 (by omega))
  exact run_true (orS_sound (listS_sound K hE) (hS0 _)) c3 (.cons _ _ _ _ ((v1.mono e2).mono e3) (.cons _ _ _ _ (v2.mono e3) (.cons _ _ _ _ v3 .nil))) hrun
/-- ██ The walk of a law on two lists and a point, out of its runs. -/
theorem llp_walk {P : Program} {S0 : Sums} (hS0 : Always P S0) {F : Fns} {tInt fi fo fuel d f : Nat} (K : ListK P F.to F.eq F.mark F.inn F.of tInt) (KP : PointK P fi fo) {w : World}
    {len1 cap1 : Nat} {a1 : Option Addr} {zs1 : List Int} (w1 : IntRow w a1 len1 cap1 zs1) {len2 cap2 : Nat} {a2 : Option Addr} {zs2 : List Int} (w2 : IntRow w a2 len2 cap2 zs2) {len3 cap3 : Nat} {a3 : Option Addr} {zs3 : List Int} (w3 : IntRow w a3 len3 cap3 zs3)
    (hs : ∀ c1 ∈ classes, ∀ c2 ∈ classes, ∀ c3 ∈ pclasses, isTrue (llpRun P S0 F fi fo fuel d f c1 c2 c3) = true) :
    Calls P f #[.slice a1 len1 cap1, .slice a2 len2 cap2, .slice a3 len3 cap3] w fun e w' => e = .returned (.bool true) ∧ Below w.heap.size w w' := by
  obtain ⟨k1, hk1, f1⟩ := Cls.of_row w1
  obtain ⟨k2, hk2, f2⟩ := Cls.of_row w2
  obtain ⟨k3, hk3, f3⟩ := PCls.of_row w3
  have hrun := hs k1 hk1 k2 hk2 k3 hk3
  obtain ⟨t11, t12, t13⟩ := Cls.told_ok w1 f1
  obtain ⟨t21, t22, t23⟩ := Cls.told_ok w2 f2
  obtain ⟨t31, t32, t33⟩ := PCls.told_ok w3 f3
  let zs : Nat → List Int := fun j => if j = 0 then k1.told (zs1.take len1) else if j < 8 then k2.told (zs2.take len2) else k3.told (zs3.take len3)
  let ns : Nat → Int := fun j => nth (zs3.take len3) (j - 2199023255552)
  have all : ∀ {p : List Int → Prop}, p (k1.told (zs1.take len1)) → p (k2.told (zs2.take len2)) → p (k3.told (zs3.take len3)) → ∀ j, p (zs j) := fun {p} h1 h2 h3 j => by
    show p (if j = 0 then _ else if j < 8 then _ else _)
    split
    · exact h1
    · split
      · exact h2
      · exact h3
  have hz : ∀ j, (zs j).length < 9223372036854775808 := all (p := fun l => l.length < 9223372036854775808) t11 t21 t31
  have hn : ∀ j, -9223372036854775808 ≤ ns j ∧ ns j < 9223372036854775808 := fun j => nth_wf w3.wf _
  letI E : Env := argEnv zs hz ns hn
  have hno : ∀ j, j < 8 → ¬ ShareZ (nth (zs j)) (zs j).length := fun j hj => by
    show ¬ ShareZ (nth (if j = 0 then _ else if j < 8 then _ else _ : List Int)) (if j = 0 then _ else if j < 8 then _ else _ : List Int).length
    split
    · exact t13
    · exact t23
  have hE : ListE zs := { lst := fun j hj => listL_lst _ j hj, rng := all (p := fun l => ∀ x ∈ l, -9223372036854775808 ≤ x ∧ x < 9223372036854775808) t12 t22 t32, no := hno }
  have hP : ∀ j, 8 ≤ j → j < 16 → ¬ PtZ (nth (zs j)) (zs j).length := fun j h8 _ => by
    show ¬ PtZ (nth (if j = 0 then _ else if j < 8 then _ else _ : List Int)) (if j = 0 then _ else if j < 8 then _ else _ : List Int).length
    rw [if_neg (by omega), if_neg (by omega)]; exact t33
  have hpv : ∀ i, i < 8 → E.int (pvIx i) = nth (zs3.take len3) i := fun i hi => by
    have e : pvIx i = 2199023255552 + i := rfl
    show (if 1099511627776 ≤ pvIx i ∧ pvIx i < 1099511627776 + 1048576 then _ else nth (zs3.take len3) (pvIx i - 2199023255552)) = _
    rw [e, if_neg (by omega), show 2199023255552 + i - 2199023255552 = i from by omega]
  obtain ⟨ρ1, L1, c1, e1, v1⟩ := k1.put (Ctx.start w) (by omega) (j := 0) (by omega) w1 f1 (hE.lst 0 (by omega))
  have hn1 := k1.next_le 0
  have hn2 := k2.next_le (k1.next 0)
  obtain ⟨ρ2, L2, c2, e2, v2⟩ := k2.put c1 (by omega) (j := 1) (by omega) w2 f2 (hE.lst 1 (by omega))
  obtain ⟨ρ3, L3, c3, e3, v3⟩ := k3.put c2 (by omega) (j := 8) (by omega) w3 f3 (hE.lst 8 (by omega)) hpv
  exact run_true (orS_sound (orS_sound (listS_sound K hE) (pointS_sound KP hE hP)) (hS0 _)) c3 (.cons _ _ _ _ ((v1.mono e2).mono e3) (.cons _ _ _ _ (v2.mono e3) (.cons _ _ _ _ v3 .nil))) hrun
/-- ██ The walk of a law on a list and two ints, out of its runs. -/
theorem lii_walk {P : Program} {S0 : Sums} (hS0 : Always P S0) {F : Fns} {tInt fuel d f m2 m3 : Nat} (hm2 : m2 < 1000000) (hm3 : m3 < 1000000) (K : ListK P F.to F.eq F.mark F.inn F.of tInt) {w : World}
    {len1 cap1 : Nat} {a1 : Option Addr} {zs1 : List Int} (w1 : IntRow w a1 len1 cap1 zs1) {z2 z3 : Int} (w2 : (Lit.int .i64 z2).wf = true) (w3 : (Lit.int .i64 z3).wf = true)
    (hs : ∀ c1 ∈ classes, ∀ c2 ∈ iclasses m2, ∀ c3 ∈ iclasses m3, isTrue (liiRun P S0 F fuel d f c1 c2 c3) = true) :
    Calls P f #[.slice a1 len1 cap1, .int .i64 z2, .int .i64 z3] w fun e w' => e = .returned (.bool true) ∧ Below w.heap.size w w' := by
  obtain ⟨k1, hk1, f1⟩ := Cls.of_row w1
  obtain ⟨k2, hk2, f2⟩ := ICls.of_int m2 z2
  obtain ⟨k3, hk3, f3⟩ := ICls.of_int m3 z3
  have hrun := hs k1 hk1 k2 hk2 k3 hk3
  obtain ⟨t11, t12, t13⟩ := Cls.told_ok w1 f1
  letI E : Env := argEnv (fun _ => k1.told (zs1.take len1)) (fun _ => t11) (fun j => if j = 1 then z2 else z3) (fun j => by split; exact wf_i64 w2; exact wf_i64 w3)
  have hE : ListE (fun _ => k1.told (zs1.take len1)) := { lst := fun j hj => listL_lst _ j hj, rng := fun _ => t12, no := fun _ _ => t13 }
  obtain ⟨ρ1, L1, c1, e1, v1⟩ := k1.put (Ctx.start w) (by omega) (j := 0) (by omega) w1 f1 (hE.lst 0 (by omega))
  exact run_true (orS_sound (listS_sound K hE) (hS0 _)) c1 (.cons _ _ _ _ v1 (.cons _ _ _ _ (k2.put hk2 hm2 1 rfl f2) (.cons _ _ _ _ (k3.put hk3 hm3 2 rfl f3) .nil))) hrun
/-- ██ The walk of a law on four ints, out of its runs. -/
theorem iiii_walk {P : Program} {S0 : Sums} (hS0 : Always P S0) {fuel d f m1 m2 m3 m4 : Nat} (hm1 : m1 < 1000000) (hm2 : m2 < 1000000) (hm3 : m3 < 1000000) (hm4 : m4 < 1000000) {w : World}
    {z1 z2 z3 z4 : Int} (w1 : (Lit.int .i64 z1).wf = true) (w2 : (Lit.int .i64 z2).wf = true) (w3 : (Lit.int .i64 z3).wf = true) (w4 : (Lit.int .i64 z4).wf = true)
    (hs : ∀ c1 ∈ iclasses m1, ∀ c2 ∈ iclasses m2, ∀ c3 ∈ iclasses m3, ∀ c4 ∈ iclasses m4, isTrue (iiiiRun P S0 fuel d f c1 c2 c3 c4) = true) :
    Calls P f #[.int .i64 z1, .int .i64 z2, .int .i64 z3, .int .i64 z4] w fun e w' => e = .returned (.bool true) ∧ Below w.heap.size w w' := by
  obtain ⟨k1, hk1, f1⟩ := ICls.of_int m1 z1
  obtain ⟨k2, hk2, f2⟩ := ICls.of_int m2 z2
  obtain ⟨k3, hk3, f3⟩ := ICls.of_int m3 z3
  obtain ⟨k4, hk4, f4⟩ := ICls.of_int m4 z4
  have hrun := hs k1 hk1 k2 hk2 k3 hk3 k4 hk4
  letI E : Env := argEnv (fun _ => [7]) (fun _ => by decide) (fun j => if j = 1 then z1 else if j = 2 then z2 else if j = 3 then z3 else z4) (fun j => by
    split; exact wf_i64 w1; split; exact wf_i64 w2; split; exact wf_i64 w3; exact wf_i64 w4)
  exact run_true (hS0 _) (Ctx.start w) (.cons _ _ _ _ (k1.put hk1 hm1 1 rfl f1) (.cons _ _ _ _ (k2.put hk2 hm2 2 rfl f2) (.cons _ _ _ _ (k3.put hk3 hm3 3 rfl f3) (.cons _ _ _ _ (k4.put hk4 hm4 4 rfl f4) .nil)))) hrun
end Go.Eng

/- Laws on two lists and a point, with facts. -/
namespace Go.Eng
set_option linter.unusedSectionVars false
set_option linter.unusedSimpArgs false
set_option linter.unusedVariables false
open Go Go.RowKit

/-! ### two lists and a point, with facts -/
noncomputable section
def llpRunF (P : Program) (S0 : Sums) (F : Fns) (fi fo fuel d f : Nat) (c1 c2 : Cls) (c3 : PCls) (fs : List FE) : Bool :=
  sel (ltb fs.length 1000) (isTrue (prun P S0 F fi fo fuel d f [c1.word fs.length 0, c2.word (c1.next fs.length) 1, c3.word (c2.next (c1.next fs.length)) 8] (c3.heap (c2.next (c1.next fs.length)) 8 (c2.heap (c1.next fs.length) 1 (c1.heap fs.length 0 (feH fs 0 .nil)))) (c3.next (c2.next (c1.next fs.length))))) false
end
/-- ██ The walk of a law on two lists and a point, out of its runs with facts. -/
theorem llpF_walk {P : Program} {S0 : Sums} (hS0 : Always P S0) {F : Fns} {tInt fi fo fuel d f : Nat} (K : ListK P F.to F.eq F.mark F.inn F.of tInt) (KP : PointK P fi fo) {w : World}
    {len1 cap1 : Nat} {a1 : Option Addr} {zs1 : List Int} (w1 : IntRow w a1 len1 cap1 zs1) {len2 cap2 : Nat} {a2 : Option Addr} {zs2 : List Int} (w2 : IntRow w a2 len2 cap2 zs2) {len3 cap3 : Nat} {a3 : Option Addr} {zs3 : List Int} (w3 : IntRow w a3 len3 cap3 zs3)
    (hs : ∀ c1 ∈ classes, ∀ c2 ∈ classes, ∀ c3 ∈ pclasses, FtOk (llpRunF P S0 F fi fo fuel d f c1 c2 c3)) :
    Calls P f #[.slice a1 len1 cap1, .slice a2 len2 cap2, .slice a3 len3 cap3] w fun e w' => e = .returned (.bool true) ∧ Below w.heap.size w w' := by
  obtain ⟨k1, hk1, f1⟩ := Cls.of_row w1
  obtain ⟨k2, hk2, f2⟩ := Cls.of_row w2
  obtain ⟨k3, hk3, f3⟩ := PCls.of_row w3
  obtain ⟨t, ht⟩ := hs k1 hk1 k2 hk2 k3 hk3
  obtain ⟨t11, t12, t13⟩ := Cls.told_ok w1 f1
  obtain ⟨t21, t22, t23⟩ := Cls.told_ok w2 f2
  obtain ⟨t31, t32, t33⟩ := PCls.told_ok w3 f3
  let zs : Nat → List Int := fun j => if j = 0 then k1.told (zs1.take len1) else if j < 8 then k2.told (zs2.take len2) else k3.told (zs3.take len3)
  let ns : Nat → Int := fun j => nth (zs3.take len3) (j - 2199023255552)
  have all : ∀ {p : List Int → Prop}, p (k1.told (zs1.take len1)) → p (k2.told (zs2.take len2)) → p (k3.told (zs3.take len3)) → ∀ j, p (zs j) := fun {p} h1 h2 h3 j => by
    show p (if j = 0 then _ else if j < 8 then _ else _)
    split
    · exact h1
    · split
      · exact h2
      · exact h3
  have hz : ∀ j, (zs j).length < 9223372036854775808 := all (p := fun l => l.length < 9223372036854775808) t11 t21 t31
  have hn : ∀ j, -9223372036854775808 ≤ ns j ∧ ns j < 9223372036854775808 := fun j => nth_wf w3.wf _
  letI E : Env := argEnv zs hz ns hn
  have hno : ∀ j, j < 8 → ¬ ShareZ (nth (zs j)) (zs j).length := fun j hj => by
    show ¬ ShareZ (nth (if j = 0 then _ else if j < 8 then _ else _ : List Int)) (if j = 0 then _ else if j < 8 then _ else _ : List Int).length
    split
    · exact t13
    · exact t23
  have hE : ListE zs := { lst := fun j hj => listL_lst _ j hj, rng := all (p := fun l => ∀ x ∈ l, -9223372036854775808 ≤ x ∧ x < 9223372036854775808) t12 t22 t32, no := hno }
  have hP : ∀ j, 8 ≤ j → j < 16 → ¬ PtZ (nth (zs j)) (zs j).length := fun j h8 _ => by
    show ¬ PtZ (nth (if j = 0 then _ else if j < 8 then _ else _ : List Int)) (if j = 0 then _ else if j < 8 then _ else _ : List Int).length
    rw [if_neg (by omega), if_neg (by omega)]; exact t33
  have hpv : ∀ i, i < 8 → E.int (pvIx i) = nth (zs3.take len3) i := fun i hi => by
    have e : pvIx i = 2199023255552 + i := rfl
    show (if 1099511627776 ≤ pvIx i ∧ pvIx i < 1099511627776 + 1048576 then _ else nth (zs3.take len3) (pvIx i - 2199023255552)) = _
    rw [e, if_neg (by omega), show 2199023255552 + i - 2199023255552 = i from by omega]
  obtain ⟨fs, hfs, hrun⟩ := FT.sound E t [] ht (fun f h => by cases h)
  obtain ⟨hlen, hrun⟩ := sel_andN hrun
  have hlen := (ltb_iff _ _).1 hlen
  obtain ⟨L0, c0, _⟩ := put_fe fs 0 .nil _ _ w.heap.size w (Ctx.start w) (by omega) hfs
  rw [Nat.zero_add] at c0
  obtain ⟨ρ1, L1, c1, e1, v1⟩ := k1.put c0 (by omega) (j := 0) (by omega) w1 f1 (hE.lst 0 (by omega))
  have hn1 := k1.next_le fs.length
  have hn2 := k2.next_le (k1.next fs.length)
  obtain ⟨ρ2, L2, c2, e2, v2⟩ := k2.put c1 (by omega) (j := 1) (by omega) w2 f2 (hE.lst 1 (by omega))
  obtain ⟨ρ3, L3, c3, e3, v3⟩ := k3.put c2 (by omega) (j := 8) (by omega) w3 f3 (hE.lst 8 (by omega)) hpv
  exact run_true (orS_sound (orS_sound (listS_sound K hE) (pointS_sound KP hE hP)) (hS0 _)) c3 (.cons _ _ _ _ ((v1.mono e2).mono e3) (.cons _ _ _ _ (v2.mono e3) (.cons _ _ _ _ v3 .nil))) hrun
end Go.Eng
