/- From the evaluator to a function's calls. -/
import Derived.Test.YthcdiaahpodkoabEngR
namespace Go.Eng
set_option linter.unusedSectionVars false
set_option linter.unusedSimpArgs false
set_option linter.unusedVariables false
open Go Go.RowKit
variable [E : Env]

noncomputable def isTrue (r : OR) : Bool := match r with | .ok v _ _ => Nat.beq v 18 | .bad _ => false

theorem Ctx.start (w : World) : Ctx w.heap.size .nil 0 (fun _ => none) (fun _ => none) w := by
  refine ⟨⟨?_, ?_, ?_, ?_, ?_, ?_, ?_, Nat.le_refl _, ?_, ?_⟩, ⟨?_, ?_⟩, fun b _ => ⟨rfl, rfl⟩⟩
  · intro b r h; cases h
  · intro b b' r r' h; cases h
  · intro b b' r r' h; cases h
  · intro b r n c g k s m h; cases h
  · intro b r h; cases h
  · intro b r h; cases h
  · intro b r h; cases h
  · intro b r h; cases h
  · intro b n c g k s m h; cases h
  · exact trivial
  · intro b k h
    cases h

theorem VR.small {ρ : Rho} {L : Look} (p : Nat) (h : p < 9223372036854775808) : VR ρ L (wI p) (.int .i64 (p : Int)) := by
  have e : sInt p = (p : Int) := by unfold sInt; rw [if_pos h]
  rw [← e]; exact .int p (by omega)

/-- Nothing is known beforehand. -/
def noSums : Sums := fun _ _ _ _ => .no
theorem noSums_ok (P : Program) : SumS P noSums := fun _ _ _ _ _ _ _ _ _ _ _ _ _ _ _ h => by cases h

theorem run_true {P : Program} {fuel d f base n : Nat} {args : List Nat} {vs : Array Value} {H : Trie} {ρ : Rho} {L : Look} {w : World}
    {S : Sums} (hS : SumS P S) (c : Ctx base H n ρ L w) (ha : AR ρ L args vs.toList) (h : isTrue (funE P (callN P S fuel d) fuel f args H n) = true) :
    Calls P f vs w fun e w' => e = .returned (.bool true) ∧ Below base w w' := by
  intro cs
  cases hr : funE P (callN P S fuel d) fuel f args H n with
  | bad => rw [hr] at h; cases h
  | ok v H' n' =>
    rw [hr] at h
    have hv : v = 18 := Nat.eq_of_beq_eq_true h
    subst hv
    obtain ⟨ρ', L', w', x, _, _, hb, _, _, hx, _, hc⟩ := funE_sound (callN_sound P hS fuel d) cs c ha hr
    obtain ⟨b, hb1, hb2⟩ := hx.bool_inv (by rfl)
    have hbt : b = true := by
      cases b with
      | true => rfl
      | false => cases hb1
    subst hbt
    subst hb2
    obtain ⟨e, W, fr, ⟨h1, h2⟩, h3⟩ := hc
    subst h2
    exact ⟨e, W, fr, ⟨h1, hb⟩, h3⟩
end Go.Eng
