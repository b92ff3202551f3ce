/- Runs of the program at a seat. -/
import Derived.Test.YtnobdifmnoehbabEngXf
import Derived.Test.YtnobdifmnoehbabProg
namespace Go.Proofs.Ytnobdifmnoehbab.rootofDrawn
open Go Go.Eng
set_option linter.unusedVariables false
set_option linter.unusedSectionVars false
set_option linter.unusedSimpArgs false
/-- the questions of a point: its length, its width, its numbers, the throw behind them -/
noncomputable def jsQ (pl wd n : Nat) : List Nat := Nat.rec (motive := fun _ => Nat → List Nat) (fun _ => []) (fun _ ih i => Nat.add (Nat.mul i 4096) (Nat.succ (Nat.mul 2 (Nat.succ wd))) :: ih (Nat.succ i)) n pl
noncomputable def pointQ (pl most : Nat) : QT := .part (Nat.add (Nat.mul pl 4096) (Nat.succ most)) fun n => .part (Nat.add (Nat.mul (Nat.succ pl) 4096) 3) fun wd => .pts (jsQ (Nat.add pl 2) wd n) (.three (Nat.add (Nat.mul (Nat.add (Nat.add pl 2) n) 4096) 60) (.of 400) (.of 400) (.of 400))
theorem orS_always {P : Program} {A B : Sums} (ha : Always P A) (hb : Always P B) : Always P (orS A B) := fun E => @orS_sound E P A B (ha E) (hb E)
/-- what is known of one function -/
noncomputable def onF (f : Nat) (S : Sums) : Sums := fun g args H n => sel (Nat.beq f g) (S g args H n) .no
theorem onF_always {P : Program} {S : Sums} {f : Nat} (hS : Always P S) : Always P (onF f S) := by
  intro E base H n ρ L w g args vs v H' n' cs c ha h
  have e : onF f S g args H n = sel (Nat.beq f g) (S g args H n) .no := rfl
  rw [e, sel_beq] at h
  split at h
  · exact hS E base H n ρ L w g args vs v H' n' cs c ha h
  · cases h
noncomputable def allsS : Sums := noSums
theorem allsS_always : Always Try.prog allsS := noSums_always _
noncomputable def dR : Tab → OR := dRun Try.prog allsS 47 71 1000 60 15 0
noncomputable def i0 : DI := .row [17, 17, 17, 17, 17, 17]
noncomputable def i1 : DI := .row [42535295865126979339478698981903564860]
noncomputable def i2 : DI := .row [42535295865126979339478698981903564860, 97]
noncomputable def i3 : DI := .row [42535295865126979339478698981903564860, 42535295865146322152592533048698863676]
noncomputable def i4 : DI := .row [42535295865126979339478698981903564860, 42535295865146322152592533048698863676, 97]
noncomputable def i5 : DI := .row [42535295865126979339478698981903564860, 42535295865146322152592533048698863676, 42535295865165664965706367115494162492]
noncomputable def i6 : DI := .row [42535295865126979339478698981903564860, 42535295865146322152592533048698863676, 42535295865165664965706367115494162492, 97]
noncomputable def i7 : DI := .row [42535295865126979339478698981903564860, 42535295865146322152592533048698863676, 42535295865165664965706367115494162492, 42535295865185007778820201182289461308]
noncomputable def i8 : DI := .row [42535295865126979339478698981903564860, 42535295865146322152592533048698863676, 42535295865165664965706367115494162492, 42535295865185007778820201182289461308, 97]
noncomputable def i9 : DI := .row [42535295865126979339478698981903564860, 42535295865146322152592533048698863676, 42535295865165664965706367115494162492, 42535295865185007778820201182289461308, 42535295865204350591934035249084760124]
noncomputable def i10 : DI := .row [42535295865126979339478698981903564860, 42535295865146322152592533048698863676, 42535295865165664965706367115494162492, 42535295865185007778820201182289461308, 42535295865204350591934035249084760124, 97]
noncomputable def d0 : List DI := [.emp]
noncomputable def d1 : List DI := [.row [97]]
noncomputable def d2 : List DI := [i0]
noncomputable def d3 : List DI := [i1]
noncomputable def d4 : List DI := [i2]
noncomputable def d5 : List DI := [i3]
noncomputable def d6 : List DI := [i4]
noncomputable def d7 : List DI := [i5]
noncomputable def d8 : List DI := [i6]
noncomputable def d9 : List DI := [i7]
noncomputable def d10 : List DI := [i8]
noncomputable def d11 : List DI := [i9]
noncomputable def d12 : List DI := [i10]
noncomputable def ls0 : List (List DI) := [d0, d1, d2]
noncomputable def ls1 : List (List DI) := [d3, d4, d2]
noncomputable def ls2 : List (List DI) := [d5, d6, d2]
noncomputable def ls3 : List (List DI) := [d7, d8, d2]
noncomputable def ls4 : List (List DI) := [d9, d10, d2]
noncomputable def ls5 : List (List DI) := [d11, d12, d2]
end Go.Proofs.Ytnobdifmnoehbab.rootofDrawn
