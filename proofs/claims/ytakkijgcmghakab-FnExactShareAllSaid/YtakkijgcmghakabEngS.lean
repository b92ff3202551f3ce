/- From the evaluator to a function's calls. -/
import Derived.Test.YtakkijgcmghakabEngR
namespace Go.Eng
open Go Go.RowKit

noncomputable def isTrue (r : OR) : Bool := match r with | .ok v _ _ => Nat.beq v 18 | .bad => false

theorem Ctx.start (w : World) : Ctx w.heap.size .nil 0 (fun _ => none) (fun _ => none) w := by
  refine ⟨⟨?_, ?_, ?_, ?_, ?_, ?_, ?_, Nat.le_refl _, ?_, ?_⟩, ⟨?_, ?_⟩, fun b _ => ⟨rfl, rfl⟩⟩
  · intro b r h; cases h
  · intro b b' r r' h; cases h
  · intro b b' r r' h; cases h
  · intro b r n c g k s m h; cases h
  · intro b r h; cases h
  · intro b r h; cases h
  · intro b r h; cases h
  · intro b r h; cases h
  · intro b n c g k s m h; cases h
  · exact trivial
  · intro b k h
    cases h

theorem VR.small {ρ : Rho} {L : Look} (p : Nat) (h : p < 9223372036854775808) : VR ρ L (wI p) (.int .i64 (p : Int)) := by
  have e : sInt p = (p : Int) := by unfold sInt; rw [if_pos h]
  rw [← e]; exact .int p (by omega)

theorem run_true {P : Program} {fuel d f base n : Nat} {args : List Nat} {vs : Array Value} {H : Trie} {ρ : Rho} {L : Look} {w : World}
    (c : Ctx base H n ρ L w) (ha : AR ρ L args vs.toList) (h : isTrue (callN P fuel (d + 1) (mk 8 f) args H n) = true) :
    Calls P f vs w fun e w' => e = .returned (.bool true) ∧ Below base w w' := by
  have e : callN P fuel (d + 1) (mk 8 f) args H n = funE P (callN P fuel d) fuel f args H n := by
    show sel (Nat.beq (tagOf (mk 8 f)) 8) (funE P (callN P fuel d) fuel (payOf (mk 8 f)) args H n) _ = _
    rw [tagOf_mk _ _ (by omega), payOf_mk _ _ (by omega)]
    rfl
  rw [e] at h
  cases hr : funE P (callN P fuel d) fuel f args H n with
  | bad => rw [hr] at h; cases h
  | ok v H' n' =>
    rw [hr] at h
    have hv : v = 18 := Nat.eq_of_beq_eq_true h
    subst hv
    obtain ⟨ρ', L', w', x, _, _, hb, _, _, hx, _, hc⟩ := funE_sound (callN_sound P fuel d) c ha hr
    obtain ⟨b, hb1, hb2⟩ := hx.bool_inv (by rfl)
    have hbt : b = true := by
      cases b with
      | true => rfl
      | false => cases hb1
    subst hbt
    subst hb2
    exact hc.mono fun e W ⟨h1, h2⟩ => by subst h2; exact ⟨h1, hb⟩
end Go.Eng
