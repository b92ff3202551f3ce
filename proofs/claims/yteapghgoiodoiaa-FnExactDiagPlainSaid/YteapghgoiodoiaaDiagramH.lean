/- What is known of calls of the program at a seat. -/
import Derived.Test.YteapghgoiodoiaaEngXf
import Derived.Test.YteapghgoiodoiaaProg
namespace Go.Proofs.Yteapghgoiodoiaa.tabDiagram
open Go Go.Eng
set_option linter.unusedVariables false
set_option linter.unusedSectionVars false
set_option linter.unusedSimpArgs false
/-- what is known of one function -/
noncomputable def onF (f : Nat) (S : Sums) : Sums := fun g args H n => sel (Nat.beq f g) (S g args H n) .no
theorem onF_always {P : Program} {S : Sums} {f : Nat} (hS : Always P S) : Always P (onF f S) := by
  intro E base H n ρ L w g args vs v H' n' cs c ha h
  have e : onF f S g args H n = sel (Nat.beq f g) (S g args H n) .no := rfl
  rw [e, sel_beq] at h
  split at h
  · exact hS E base H n ρ L w g args vs v H' n' cs c ha h
  · cases h
/-- what is known of calls whose first argument holds that -/
noncomputable def preS (s : Sh) (S : Sums) : Sums := fun g args H n => match args with | x :: l => sel (matchS H x s) (S g (x :: l) H n) .no | [] => .no
theorem preS_always {P : Program} {S : Sums} {s : Sh} (hS : Always P S) : Always P (preS s S) := by
  intro E base H n ρ L w g args vs v H' n' cs c ha h
  cases args with
  | nil => cases h
  | cons x l =>
    have e : preS s S g (x :: l) H n = sel (matchS H x s) (S g (x :: l) H n) .no := rfl
    rw [e, sel_eq] at h
    split at h
    · exact hS E base H n ρ L w g (x :: l) vs v H' n' cs c ha h
    · cases h
/-- all memos of a list are found by runs -/
noncomputable def allM (P : Program) (S : Sums) (l : List Memo2) : Bool := List.rec (motive := fun _ => Bool) true (fun e _ ih => sel (isRes e.2.2 (memoRun P S 1000 60 e.1 e.2.1)) ih false) l
theorem allM_all {P : Program} {S : Sums} (hS : Always P S) : ∀ l, allM P S l = true → ∀ e ∈ l, Memo2K P e
  | [], _ => fun e he => by cases he
  | x :: l, h => by
    have e0 : allM P S (x :: l) = sel (isRes x.2.2 (memoRun P S 1000 60 x.1 x.2.1)) (allM P S l) false := rfl
    rw [e0, sel_eq] at h
    split at h
    · rename_i h1
      intro e he
      rcases List.mem_cons.1 he with rfl | he
      · exact memo2_of hS h1
      · exact allM_all hS l h e he
    · cases h
/-- what is known of calls whose fourth argument holds that -/
noncomputable def pre3S (s : Sh) (S : Sums) : Sums := fun g args H n => match args with | a :: b :: c :: x :: l => sel (matchS H x s) (S g (a :: b :: c :: x :: l) H n) .no | _ => .no
theorem pre3S_always {P : Program} {S : Sums} {s : Sh} (hS : Always P S) : Always P (pre3S s S) := by
  intro E base H n ρ L w g args vs v H' n' cs c ha h
  match args, h, ha with
  | [], h, _ => cases h
  | [_], h, _ => cases h
  | [_, _], h, _ => cases h
  | [_, _, _], h, _ => cases h
  | a :: b :: d :: x :: l, h, ha =>
    have e : pre3S s S g (a :: b :: d :: x :: l) H n = sel (matchS H x s) (S g (a :: b :: d :: x :: l) H n) .no := rfl
    rw [e, sel_eq] at h
    split at h
    · exact hS E base H n ρ L w g (a :: b :: d :: x :: l) vs v H' n' cs c ha h
    · cases h
theorem orS_always {P : Program} {A B : Sums} (ha : Always P A) (hb : Always P B) : Always P (orS A B) := fun E => @orS_sound E P A B (ha E) (hb E)
end Go.Proofs.Yteapghgoiodoiaa.tabDiagram
