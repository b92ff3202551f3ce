/- What is known of calls of the program at a seat. -/
import Derived.Test.YtnglbchhlpbgkaaSEngXk
import Derived.Test.YtnglbchhlpbgkaaProg
namespace Go.Proofs.Ytnglbchhlpbgkaa.va
open Go Go.Eng
set_option linter.unusedVariables false
set_option linter.unusedSectionVars false
set_option linter.unusedSimpArgs false
set_option maxRecDepth 100000
/-- a sum of products by their codes -/
noncomputable def polyN (l : List Nat) : Nat := List.rec (motive := fun _ => Nat) 0 (fun k _ ih => Nat.add (Nat.pow 18446744073709551616 k) ih) l
noncomputable def allP (P : Program) (S : Sums) (l : List MemoP) : Bool := List.rec (motive := fun _ => Bool) true (fun e _ ih => sel (isP1 e.2.2.1 e.2.2.2 (runP P S 1000 60 e.1 e.2.1)) ih false) l
theorem allP_all {P : Program} {S : Sums} (hS : Always P S) : ∀ l, allP P S l = true → ∀ e ∈ l, ∀ E, MemoPK E P e
  | [], _ => fun e he => by cases he
  | x :: l, h => by
    have e0 : allP P S (x :: l) = sel (isP1 x.2.2.1 x.2.2.2 (runP P S 1000 60 x.1 x.2.1)) (allP P S l) false := rfl
    rw [e0] at h
    obtain ⟨h1, h2⟩ := sel_and h
    intro e he E
    rcases List.mem_cons.1 he with rfl | he
    · exact memoP_of hS h1 E
    · exact allP_all hS l h2 e he E
noncomputable def allV (P : Program) (S : Sums) (l : List MemoV) : Bool := List.rec (motive := fun _ => Bool) true (fun e _ ih => sel (isV1 e.2.2.2.2 (runV P S 1000 60 e.1 e.2.1 e.2.2.1 e.2.2.2.1)) ih false) l
theorem allV_all {P : Program} {S : Sums} (hS : Always P S) : ∀ l, allV P S l = true → ∀ e ∈ l, ∀ E, MemoVK E P e
  | [], _ => fun e he => by cases he
  | x :: l, h => by
    have e0 : allV P S (x :: l) = sel (isV1 x.2.2.2.2 (runV P S 1000 60 x.1 x.2.1 x.2.2.1 x.2.2.2.1)) (allV P S l) false := rfl
    rw [e0] at h
    obtain ⟨h1, h2⟩ := sel_and h
    intro e he E
    rcases List.mem_cons.1 he with rfl | he
    · exact memoV_of hS h1 E
    · exact allV_all hS l h2 e he E
theorem orS_always {P : Program} {A B : Sums} (ha : Always P A) (hb : Always P B) : Always P (orS A B) := fun E => @orS_sound E P A B (ha E) (hb E)
/-- what is known of one function -/
noncomputable def onF (f : Nat) (S : Sums) : Sums := fun g args H n => sel (Nat.beq f g) (S g args H n) .no
theorem onF_always {P : Program} {S : Sums} {f : Nat} (hS : Always P S) : Always P (onF f S) := by
  intro E base H n ρ L w g args vs v H' n' cs c ha h
  have e : onF f S g args H n = sel (Nat.beq f g) (S g args H n) .no := rfl
  rw [e, sel_beq] at h
  split at h
  · exact hS E base H n ρ L w g args vs v H' n' cs c ha h
  · cases h
noncomputable def w0_1 : List Nat := [42535295865126979339478663797531476060]
noncomputable def w0_2 : List Nat := [42535295865126979339478663797531476060, 42535295865146322152592497864326774876]
noncomputable def w1_2 : List Nat := [42535295865146322152592497864326774876]
noncomputable def w0_3 : List Nat := [42535295865126979339478663797531476060, 42535295865146322152592497864326774876, 42535295865165664965706331931122073692]
noncomputable def w1_3 : List Nat := [42535295865146322152592497864326774876, 42535295865165664965706331931122073692]
noncomputable def w2_3 : List Nat := [42535295865165664965706331931122073692]
noncomputable def w0_4 : List Nat := [42535295865126979339478663797531476060, 42535295865146322152592497864326774876, 42535295865165664965706331931122073692, 42535295865185007778820165997917372508]
noncomputable def w1_4 : List Nat := [42535295865146322152592497864326774876, 42535295865165664965706331931122073692, 42535295865185007778820165997917372508]
noncomputable def w2_4 : List Nat := [42535295865165664965706331931122073692, 42535295865185007778820165997917372508]
noncomputable def w3_4 : List Nat := [42535295865185007778820165997917372508]
noncomputable def w0_5 : List Nat := [42535295865126979339478663797531476060, 42535295865146322152592497864326774876, 42535295865165664965706331931122073692, 42535295865185007778820165997917372508, 42535295865204350591934000064712671324]
noncomputable def w1_5 : List Nat := [42535295865146322152592497864326774876, 42535295865165664965706331931122073692, 42535295865185007778820165997917372508, 42535295865204350591934000064712671324]
noncomputable def w2_5 : List Nat := [42535295865165664965706331931122073692, 42535295865185007778820165997917372508, 42535295865204350591934000064712671324]
noncomputable def w3_5 : List Nat := [42535295865185007778820165997917372508, 42535295865204350591934000064712671324]
noncomputable def w4_5 : List Nat := [42535295865204350591934000064712671324]
end Go.Proofs.Ytnglbchhlpbgkaa.va
