/- Laws on a list and an int. -/
import Derived.Test.YthcdiaahpodkoabEngZa
namespace Go.Eng
set_option linter.unusedSectionVars false
set_option linter.unusedSimpArgs false
set_option linter.unusedVariables false
open Go Go.RowKit

/-- What an int that comes in may be: known, below 0, above a bound. -/
inductive ICls where
  | is (k : Nat)
  | neg
  | big (m : Nat)

noncomputable section
def ICls.word (c : ICls) (j : Nat) : Nat := ICls.rec (motive := fun _ => Nat) (fun k => wI k) (wV j 0 549755813887) (fun m => wV j (Nat.add 549755813889 m) 0) c
def ICls.Fits (c : ICls) (z : Int) : Prop := ICls.rec (motive := fun _ => Prop) (fun k => z = (k : Int)) (z < 0) (fun m => (m : Int) < z) c
def iclasses (m : Nat) : List ICls := .neg :: .big m :: (List.range (m + 1)).map .is
end

theorem ICls.of_int (m : Nat) (z : Int) : ∃ c ∈ iclasses m, c.Fits z := by
  by_cases h0 : z < 0
  · exact ⟨.neg, by simp [iclasses], h0⟩
  by_cases h1 : (m : Int) < z
  · exact ⟨.big m, by simp [iclasses], h1⟩
  · exact ⟨.is z.toNat, by simp [iclasses]; omega, by show z = ((z.toNat : Nat) : Int); omega⟩

section
variable [E : Env]
theorem ICls.put {ρ : Rho} {L : Look} {z : Int} (c : ICls) {m : Nat} (hc : c ∈ iclasses m) (hm : m < 1000000) (j : Nat) (he : E.int j = z) (hf : c.Fits z) : VR ρ L (c.word j) (.int .i64 z) := by
  cases c with
  | is k =>
    have hz : z = (k : Int) := hf
    subst hz
    have hk : k < m + 1 := by simpa [iclasses] using hc
    exact VR.small k (by omega)
  | neg =>
    have hz : z < 0 := hf
    rw [← he]
    exact VR.var j 0 549755813887 (by omega) (by omega) (.inl rfl) (.inr (by omega))
  | big k =>
    have hz : (k : Int) < z := hf
    have hk : k = m := by simpa [iclasses] using hc
    subst hk
    rw [← he]
    have e : Nat.add 549755813889 k = 549755813889 + k := rfl
    show VR ρ L (wV j (Nat.add 549755813889 k) 0) _
    rw [e]
    exact VR.var j _ 0 (by omega) (by omega) (.inr (by omega)) (.inl rfl)
end

noncomputable section
/-- a law on a list and an int -/
def lintRun (P : Program) (S0 : Sums) (F : Fns) (fuel d f : Nat) (c1 : Cls) (c2 : ICls) : OR :=
  lrun P S0 F fuel d f [c1.word 0 0, c2.word 1] (c1.heap 0 0 .nil) (c1.next 0)
end

/-- ██ The walk of a law on a list of ints and an int, out of its runs. -/
theorem lint_walk {P : Program} {S0 : Sums} (hS0 : Always P S0) {F : Fns} {tInt fuel d f m : Nat} (hm : m < 1000000) (K : ListK P F.to F.eq F.mark F.inn F.of tInt) {w : World}
    {len1 cap1 : Nat} {a1 : Option Addr} {zs1 : List Int} (w1 : IntRow w a1 len1 cap1 zs1) {z : Int} (w2 : (Lit.int .i64 z).wf = true)
    (hs : AllL (fun c1 => AllL (fun c2 => isTrue (lintRun P S0 F fuel d f c1 c2) = true) (iclasses m)) classes) :
    Calls P f #[.slice a1 len1 cap1, .int .i64 z] w fun e w' => e = .returned (.bool true) ∧ Below w.heap.size w w' := by
  obtain ⟨k1, hk1, f1⟩ := Cls.of_row w1
  obtain ⟨k2, hk2, f2⟩ := ICls.of_int m z
  have hrun := (hs.mem k1 hk1).mem k2 hk2
  obtain ⟨t11, t12, t13⟩ := Cls.told_ok w1 f1
  letI E : Env := argEnv (fun _ => k1.told (zs1.take len1)) (fun _ => t11) (fun _ => z) (fun _ => wf_i64 w2)
  have hE : ListE (fun _ => k1.told (zs1.take len1)) := { lst := fun j hj => listL_lst _ j hj, rng := fun _ => t12, no := fun _ _ => t13 }
  obtain ⟨ρ1, L1, c1, e1, v1⟩ := k1.put (Ctx.start w) (by omega) (j := 0) (by omega) w1 f1 (hE.lst 0 (by omega))
  exact run_true (orS_sound (listS_sound K hE) (hS0 _)) c1 (.cons _ _ _ _ v1 (.cons _ _ _ _ (k2.put hk2 hm 1 rfl f2) .nil)) hrun
end Go.Eng
