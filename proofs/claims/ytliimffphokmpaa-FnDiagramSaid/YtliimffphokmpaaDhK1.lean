/- What is known of calls of the program at a seat. -/
import Derived.Test.YtliimffphokmpaaEngXg
import Derived.Test.YtliimffphokmpaaMemo
import Derived.Test.YtliimffphokmpaaProg
namespace Go.Proofs.Ytliimffphokmpaa.dhM
open Go Go.Eng
set_option linter.unusedVariables false
set_option linter.unusedSectionVars false
set_option linter.unusedSimpArgs false
/-- a sum of products by their codes -/
noncomputable def polyN (l : List Nat) : Nat := List.rec (motive := fun _ => Nat) 0 (fun k _ ih => Nat.add (Nat.pow 18446744073709551616 k) ih) l
noncomputable def allP (P : Program) (S : Sums) (l : List MemoP) : Bool := List.rec (motive := fun _ => Bool) true (fun e _ ih => sel (isP1 e.2.2.1 e.2.2.2 (runP P S 1000 60 e.1 e.2.1)) ih false) l
theorem allP_all {P : Program} {S : Sums} (hS : Always P S) : ∀ l, allP P S l = true → ∀ e ∈ l, ∀ E, MemoPK E P e
  | [], _ => fun e he => by cases he
  | x :: l, h => by
    have e0 : allP P S (x :: l) = sel (isP1 x.2.2.1 x.2.2.2 (runP P S 1000 60 x.1 x.2.1)) (allP P S l) false := rfl
    rw [e0] at h
    obtain ⟨h1, h2⟩ := sel_and h
    intro e he E
    rcases List.mem_cons.1 he with rfl | he
    · exact memoP_of hS h1 E
    · exact allP_all hS l h2 e he E
theorem orS_always {P : Program} {A B : Sums} (ha : Always P A) (hb : Always P B) : Always P (orS A B) := fun E => @orS_sound E P A B (ha E) (hb E)
/-- what is known of one function -/
noncomputable def onF (f : Nat) (S : Sums) : Sums := fun g args H n => sel (Nat.beq f g) (S g args H n) .no
theorem onF_always {P : Program} {S : Sums} {f : Nat} (hS : Always P S) : Always P (onF f S) := by
  intro E base H n ρ L w g args vs v H' n' cs c ha h
  have e : onF f S g args H n = sel (Nat.beq f g) (S g args H n) .no := rfl
  rw [e, sel_beq] at h
  split at h
  · exact hS E base H n ρ L w g args vs v H' n' cs c ha h
  · cases h
noncomputable def e1_0 : List MemoP := [(68, [.row [17], .row [42535295865126979339478698981903564860]], true, [.poly (polyN [1]) 0 12 1 0 18446744073709551615])]
set_option maxRecDepth 100000 in
theorem e1_0_ok : allP Try.prog (Go.Proofs.Ytliimffphokmpaa.memo.allsS) e1_0 = true := by kernel_rfl
noncomputable def e1_1 : List MemoP := [(68, [.row [33], .row [42535295865126979339478698981903564860]], true, [.poly (polyN [2]) 0 16 2 0 18446744073709551615])]
set_option maxRecDepth 100000 in
theorem e1_1_ok : allP Try.prog (Go.Proofs.Ytliimffphokmpaa.memo.allsS) e1_1 = true := by kernel_rfl
noncomputable def e1_2 : List MemoP := [(68, [.row [17, 17], .row [42535295865126979339478698981903564860]], true, [.lit 1])]
set_option maxRecDepth 100000 in
theorem e1_2_ok : allP Try.prog (Go.Proofs.Ytliimffphokmpaa.memo.allsS) e1_2 = true := by kernel_rfl
noncomputable def e1_3 : List MemoP := [(68, [.row [49], .row [42535295865126979339478698981903564860]], true, [.poly (polyN [3]) 0 20 3 0 18446744073709551615])]
set_option maxRecDepth 100000 in
theorem e1_3_ok : allP Try.prog (Go.Proofs.Ytliimffphokmpaa.memo.allsS) e1_3 = true := by kernel_rfl
noncomputable def e1_4 : List MemoP := [(68, [.row [33, 17], .row [42535295865126979339478698981903564860]], true, [.lit 1])]
set_option maxRecDepth 100000 in
theorem e1_4_ok : allP Try.prog (Go.Proofs.Ytliimffphokmpaa.memo.allsS) e1_4 = true := by kernel_rfl
noncomputable def e1_5 : List MemoP := [(68, [.row [17, 17, 17], .row [42535295865126979339478698981903564860]], true, [.lit 1])]
set_option maxRecDepth 100000 in
theorem e1_5_ok : allP Try.prog (Go.Proofs.Ytliimffphokmpaa.memo.allsS) e1_5 = true := by kernel_rfl
noncomputable def e1_6 : List MemoP := [(68, [.row [65], .row [42535295865126979339478698981903564860]], true, [.poly (polyN [4]) 0 24 4 0 18446744073709551615])]
set_option maxRecDepth 100000 in
theorem e1_6_ok : allP Try.prog (Go.Proofs.Ytliimffphokmpaa.memo.allsS) e1_6 = true := by kernel_rfl
noncomputable def e1_7 : List MemoP := [(68, [.row [49, 17], .row [42535295865126979339478698981903564860]], true, [.lit 1])]
set_option maxRecDepth 100000 in
theorem e1_7_ok : allP Try.prog (Go.Proofs.Ytliimffphokmpaa.memo.allsS) e1_7 = true := by kernel_rfl
noncomputable def e1_8 : List MemoP := [(68, [.row [33, 33], .row [42535295865126979339478698981903564860]], true, [.lit 1])]
set_option maxRecDepth 100000 in
theorem e1_8_ok : allP Try.prog (Go.Proofs.Ytliimffphokmpaa.memo.allsS) e1_8 = true := by kernel_rfl
noncomputable def e1_9 : List MemoP := [(68, [.row [33, 17, 17], .row [42535295865126979339478698981903564860]], true, [.lit 1])]
set_option maxRecDepth 100000 in
theorem e1_9_ok : allP Try.prog (Go.Proofs.Ytliimffphokmpaa.memo.allsS) e1_9 = true := by kernel_rfl
noncomputable def e1_10 : List MemoP := [(68, [.row [17, 17, 17, 17], .row [42535295865126979339478698981903564860]], true, [.lit 1])]
set_option maxRecDepth 100000 in
theorem e1_10_ok : allP Try.prog (Go.Proofs.Ytliimffphokmpaa.memo.allsS) e1_10 = true := by kernel_rfl
noncomputable def e1_11 : List MemoP := [(68, [.row [81], .row [42535295865126979339478698981903564860]], true, [.poly (polyN [5]) 0 28 5 0 18446744073709551615])]
set_option maxRecDepth 100000 in
theorem e1_11_ok : allP Try.prog (Go.Proofs.Ytliimffphokmpaa.memo.allsS) e1_11 = true := by kernel_rfl
noncomputable def e1_12 : List MemoP := [(68, [.row [65, 17], .row [42535295865126979339478698981903564860]], true, [.lit 1])]
set_option maxRecDepth 100000 in
theorem e1_12_ok : allP Try.prog (Go.Proofs.Ytliimffphokmpaa.memo.allsS) e1_12 = true := by kernel_rfl
noncomputable def e1_13 : List MemoP := [(68, [.row [49, 33], .row [42535295865126979339478698981903564860]], true, [.lit 1])]
set_option maxRecDepth 100000 in
theorem e1_13_ok : allP Try.prog (Go.Proofs.Ytliimffphokmpaa.memo.allsS) e1_13 = true := by kernel_rfl
noncomputable def e1_14 : List MemoP := [(68, [.row [49, 17, 17], .row [42535295865126979339478698981903564860]], true, [.lit 1])]
set_option maxRecDepth 100000 in
theorem e1_14_ok : allP Try.prog (Go.Proofs.Ytliimffphokmpaa.memo.allsS) e1_14 = true := by kernel_rfl
noncomputable def e1_15 : List MemoP := [(68, [.row [33, 33, 17], .row [42535295865126979339478698981903564860]], true, [.lit 1])]
set_option maxRecDepth 100000 in
theorem e1_15_ok : allP Try.prog (Go.Proofs.Ytliimffphokmpaa.memo.allsS) e1_15 = true := by kernel_rfl
noncomputable def e1_16 : List MemoP := [(68, [.row [33, 17, 17, 17], .row [42535295865126979339478698981903564860]], true, [.lit 1])]
set_option maxRecDepth 100000 in
theorem e1_16_ok : allP Try.prog (Go.Proofs.Ytliimffphokmpaa.memo.allsS) e1_16 = true := by kernel_rfl
noncomputable def e1_17 : List MemoP := [(68, [.row [17, 17, 17, 17, 17], .row [42535295865126979339478698981903564860]], true, [.lit 1])]
set_option maxRecDepth 100000 in
theorem e1_17_ok : allP Try.prog (Go.Proofs.Ytliimffphokmpaa.memo.allsS) e1_17 = true := by kernel_rfl
noncomputable def e1_18 : List MemoP := [(68, [.row [97], .row [42535295865126979339478698981903564860]], true, [.poly (polyN [6]) 0 32 6 0 18446744073709551615])]
set_option maxRecDepth 100000 in
theorem e1_18_ok : allP Try.prog (Go.Proofs.Ytliimffphokmpaa.memo.allsS) e1_18 = true := by kernel_rfl
noncomputable def e1_19 : List MemoP := [(68, [.row [81, 17], .row [42535295865126979339478698981903564860]], true, [.lit 1])]
set_option maxRecDepth 100000 in
theorem e1_19_ok : allP Try.prog (Go.Proofs.Ytliimffphokmpaa.memo.allsS) e1_19 = true := by kernel_rfl
noncomputable def e1_20 : List MemoP := [(68, [.row [65, 33], .row [42535295865126979339478698981903564860]], true, [.lit 1])]
set_option maxRecDepth 100000 in
theorem e1_20_ok : allP Try.prog (Go.Proofs.Ytliimffphokmpaa.memo.allsS) e1_20 = true := by kernel_rfl
noncomputable def e1_21 : List MemoP := [(68, [.row [65, 17, 17], .row [42535295865126979339478698981903564860]], true, [.lit 1])]
set_option maxRecDepth 100000 in
theorem e1_21_ok : allP Try.prog (Go.Proofs.Ytliimffphokmpaa.memo.allsS) e1_21 = true := by kernel_rfl
noncomputable def e1_22 : List MemoP := [(68, [.row [49, 49], .row [42535295865126979339478698981903564860]], true, [.lit 1])]
set_option maxRecDepth 100000 in
theorem e1_22_ok : allP Try.prog (Go.Proofs.Ytliimffphokmpaa.memo.allsS) e1_22 = true := by kernel_rfl
noncomputable def e1_23 : List MemoP := [(68, [.row [49, 33, 17], .row [42535295865126979339478698981903564860]], true, [.lit 1])]
set_option maxRecDepth 100000 in
theorem e1_23_ok : allP Try.prog (Go.Proofs.Ytliimffphokmpaa.memo.allsS) e1_23 = true := by kernel_rfl
noncomputable def e1_24 : List MemoP := [(68, [.row [49, 17, 17, 17], .row [42535295865126979339478698981903564860]], true, [.lit 1])]
set_option maxRecDepth 100000 in
theorem e1_24_ok : allP Try.prog (Go.Proofs.Ytliimffphokmpaa.memo.allsS) e1_24 = true := by kernel_rfl
noncomputable def e1_25 : List MemoP := [(68, [.row [33, 33, 33], .row [42535295865126979339478698981903564860]], true, [.lit 1])]
set_option maxRecDepth 100000 in
theorem e1_25_ok : allP Try.prog (Go.Proofs.Ytliimffphokmpaa.memo.allsS) e1_25 = true := by kernel_rfl
noncomputable def e1_26 : List MemoP := [(68, [.row [33, 33, 17, 17], .row [42535295865126979339478698981903564860]], true, [.lit 1])]
set_option maxRecDepth 100000 in
theorem e1_26_ok : allP Try.prog (Go.Proofs.Ytliimffphokmpaa.memo.allsS) e1_26 = true := by kernel_rfl
noncomputable def e1_27 : List MemoP := [(68, [.row [33, 17, 17, 17, 17], .row [42535295865126979339478698981903564860]], true, [.lit 1])]
set_option maxRecDepth 100000 in
theorem e1_27_ok : allP Try.prog (Go.Proofs.Ytliimffphokmpaa.memo.allsS) e1_27 = true := by kernel_rfl
noncomputable def e1_28 : List MemoP := [(68, [.row [17, 17, 17, 17, 17, 17], .row [42535295865126979339478698981903564860]], true, [.lit 1])]
set_option maxRecDepth 100000 in
theorem e1_28_ok : allP Try.prog (Go.Proofs.Ytliimffphokmpaa.memo.allsS) e1_28 = true := by kernel_rfl
noncomputable def k1L : List MemoP := e1_0 ++ e1_1 ++ e1_2 ++ e1_3 ++ e1_4 ++ e1_5 ++ e1_6 ++ e1_7 ++ e1_8 ++ e1_9 ++ e1_10 ++ e1_11 ++ e1_12 ++ e1_13 ++ e1_14 ++ e1_15 ++ e1_16 ++ e1_17 ++ e1_18 ++ e1_19 ++ e1_20 ++ e1_21 ++ e1_22 ++ e1_23 ++ e1_24 ++ e1_25 ++ e1_26 ++ e1_27 ++ e1_28
theorem k1_all : ∀ e ∈ k1L, ∀ E, MemoPK E Try.prog e := by
  intro e he
  unfold k1L at he
  simp only [List.mem_append] at he
  rcases he with ((((((((((((((((((((((((((((he | he) | he) | he) | he) | he) | he) | he) | he) | he) | he) | he) | he) | he) | he) | he) | he) | he) | he) | he) | he) | he) | he) | he) | he) | he) | he) | he) | he)
  · exact allP_all (Go.Proofs.Ytliimffphokmpaa.memo.allsS_always) _ e1_0_ok e he
  · exact allP_all (Go.Proofs.Ytliimffphokmpaa.memo.allsS_always) _ e1_1_ok e he
  · exact allP_all (Go.Proofs.Ytliimffphokmpaa.memo.allsS_always) _ e1_2_ok e he
  · exact allP_all (Go.Proofs.Ytliimffphokmpaa.memo.allsS_always) _ e1_3_ok e he
  · exact allP_all (Go.Proofs.Ytliimffphokmpaa.memo.allsS_always) _ e1_4_ok e he
  · exact allP_all (Go.Proofs.Ytliimffphokmpaa.memo.allsS_always) _ e1_5_ok e he
  · exact allP_all (Go.Proofs.Ytliimffphokmpaa.memo.allsS_always) _ e1_6_ok e he
  · exact allP_all (Go.Proofs.Ytliimffphokmpaa.memo.allsS_always) _ e1_7_ok e he
  · exact allP_all (Go.Proofs.Ytliimffphokmpaa.memo.allsS_always) _ e1_8_ok e he
  · exact allP_all (Go.Proofs.Ytliimffphokmpaa.memo.allsS_always) _ e1_9_ok e he
  · exact allP_all (Go.Proofs.Ytliimffphokmpaa.memo.allsS_always) _ e1_10_ok e he
  · exact allP_all (Go.Proofs.Ytliimffphokmpaa.memo.allsS_always) _ e1_11_ok e he
  · exact allP_all (Go.Proofs.Ytliimffphokmpaa.memo.allsS_always) _ e1_12_ok e he
  · exact allP_all (Go.Proofs.Ytliimffphokmpaa.memo.allsS_always) _ e1_13_ok e he
  · exact allP_all (Go.Proofs.Ytliimffphokmpaa.memo.allsS_always) _ e1_14_ok e he
  · exact allP_all (Go.Proofs.Ytliimffphokmpaa.memo.allsS_always) _ e1_15_ok e he
  · exact allP_all (Go.Proofs.Ytliimffphokmpaa.memo.allsS_always) _ e1_16_ok e he
  · exact allP_all (Go.Proofs.Ytliimffphokmpaa.memo.allsS_always) _ e1_17_ok e he
  · exact allP_all (Go.Proofs.Ytliimffphokmpaa.memo.allsS_always) _ e1_18_ok e he
  · exact allP_all (Go.Proofs.Ytliimffphokmpaa.memo.allsS_always) _ e1_19_ok e he
  · exact allP_all (Go.Proofs.Ytliimffphokmpaa.memo.allsS_always) _ e1_20_ok e he
  · exact allP_all (Go.Proofs.Ytliimffphokmpaa.memo.allsS_always) _ e1_21_ok e he
  · exact allP_all (Go.Proofs.Ytliimffphokmpaa.memo.allsS_always) _ e1_22_ok e he
  · exact allP_all (Go.Proofs.Ytliimffphokmpaa.memo.allsS_always) _ e1_23_ok e he
  · exact allP_all (Go.Proofs.Ytliimffphokmpaa.memo.allsS_always) _ e1_24_ok e he
  · exact allP_all (Go.Proofs.Ytliimffphokmpaa.memo.allsS_always) _ e1_25_ok e he
  · exact allP_all (Go.Proofs.Ytliimffphokmpaa.memo.allsS_always) _ e1_26_ok e he
  · exact allP_all (Go.Proofs.Ytliimffphokmpaa.memo.allsS_always) _ e1_27_ok e he
  · exact allP_all (Go.Proofs.Ytliimffphokmpaa.memo.allsS_always) _ e1_28_ok e he
noncomputable def k1S : Sums := onF 68 (memoP k1L)
theorem k1_always : Always Try.prog k1S := onF_always (memoP_always _ k1_all)
end Go.Proofs.Ytliimffphokmpaa.dhM
