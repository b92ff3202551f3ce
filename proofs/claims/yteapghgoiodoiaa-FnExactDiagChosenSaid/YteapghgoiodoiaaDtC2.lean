/- What is known of calls of the program at a seat. -/
import Derived.Test.YteapghgoiodoiaaDtH
namespace Go.Proofs.Yteapghgoiodoiaa.dt
open Go Go.Eng Go.Proofs.Yteapghgoiodoiaa.va
set_option linter.unusedVariables false
set_option linter.unusedSectionVars false
set_option linter.unusedSimpArgs false
set_option maxRecDepth 100000
noncomputable def rC2_0 : List PR := [.lit 1, .lit 1, .lit 1, .lit 1, .lit 1, .lit 17, .poly (e2_1) 0 2 1 0 hM, .poly (e2_2) 0 1 2 0 hM, .lit 1, .lit 1, .lit 1, .lit 1]
noncomputable def rC2_1 : List PR := [.lit 1, .lit 1, .lit 1, .lit 1, .lit 1, .lit 1, .lit 17, .poly (e2_1) 0 2 1 0 hM, .poly (e2_2) 0 1 2 0 hM, .lit 1, .lit 1, .lit 1]
noncomputable def rC2_2 : List PR := [.lit 1, .lit 1, .lit 1, .lit 1, .lit 1, .lit 1, .lit 1, .lit 17, .poly (e2_1) 0 2 1 0 hM, .poly (e2_2) 0 1 2 0 hM, .lit 1, .lit 1]
noncomputable def rC2_3 : List PR := [.lit 1, .lit 1, .lit 1, .lit 1, .lit 1, .lit 1, .lit 1, .lit 1, .lit 17, .poly (e2_1) 0 2 1 0 hM, .poly (e2_2) 0 1 2 0 hM, .lit 1]
noncomputable def rC2_4 : List PR := [.lit 1, .lit 1, .lit 1, .lit 1, .lit 1, .lit 1, .lit 1, .lit 1, .lit 1, .lit 17, .poly (e2_1) 0 2 1 0 hM, .poly (e2_2) 0 1 2 0 hM]
noncomputable def rC2_5 : List PR := [.lit 1, .lit 1, .lit 1, .lit 1, .lit 1, .lit 1, .lit 1, .lit 1, .lit 1, .lit 1, .lit 17, .poly (e2_1) 0 2 1 0 hM]
noncomputable def pC2_3 : List PA := [.row [145, 161, 177]]
noncomputable def mC2_3_0 : List MemoM := [(117, [rC2_0, rC2_1, rC2_2], pC2_3, .lit 1), (117, [rC2_0, rC2_1, rC2_3], pC2_3, .lit 1), (117, [rC2_0, rC2_1, rC2_4], pC2_3, .lit 1), (117, [rC2_0, rC2_1, rC2_5], pC2_3, .lit 1), (117, [rC2_0, rC2_2, rC2_3], pC2_3, .lit 1), (117, [rC2_0, rC2_2, rC2_4], pC2_3, .lit 1), (117, [rC2_0, rC2_2, rC2_5], pC2_3, .lit 1)]
theorem mC2_3_0_ok : allM Try.prog (noSums) mC2_3_0 = true := by kernel_rfl
noncomputable def mC2_3_7 : List MemoM := [(117, [rC2_0, rC2_3, rC2_4], pC2_3, .lit 1), (117, [rC2_0, rC2_3, rC2_5], pC2_3, .lit 1), (117, [rC2_0, rC2_4, rC2_5], pC2_3, .lit 1), (117, [rC2_1, rC2_2, rC2_3], pC2_3, .lit 1), (117, [rC2_1, rC2_2, rC2_4], pC2_3, .lit 1), (117, [rC2_1, rC2_2, rC2_5], pC2_3, .lit 1), (117, [rC2_1, rC2_3, rC2_4], pC2_3, .lit 1)]
theorem mC2_3_7_ok : allM Try.prog (noSums) mC2_3_7 = true := by kernel_rfl
noncomputable def mC2_3_14 : List MemoM := [(117, [rC2_1, rC2_3, rC2_5], pC2_3, .lit 1), (117, [rC2_1, rC2_4, rC2_5], pC2_3, .lit 1), (117, [rC2_2, rC2_3, rC2_4], pC2_3, .poly (Nat.mul (Nat.mul e2_2 e2_2) e2_2) 0 1 6 0 hM), (117, [rC2_2, rC2_3, rC2_5], pC2_3, .poly (Nat.mul (Nat.mul e2_1 e2_2) e2_2) 0 2 5 0 hM), (117, [rC2_2, rC2_4, rC2_5], pC2_3, .poly (Nat.mul (Nat.mul e2_1 e2_1) e2_2) (Nat.mul e2_2 e2_2) 5 4 0 hM), (117, [rC2_3, rC2_4, rC2_5], pC2_3, .poly (Nat.mul (Nat.mul e2_1 e2_1) e2_1) (Nat.mul 2 (Nat.mul e2_1 e2_2)) 12 3 0 hM)]
theorem mC2_3_14_ok : allM Try.prog (noSums) mC2_3_14 = true := by kernel_rfl
noncomputable def iC2_3S : Sums := onF 117 (preQ 3 12 (orS (memoM mC2_3_0) (orS (memoM mC2_3_7) (memoM mC2_3_14))))
theorem iC2_3_al : Always Try.prog iC2_3S := onF_always (preQ_always (orS_always (memoM_always _ (allM_all (noSums_always _) _ mC2_3_0_ok)) (orS_always (memoM_always _ (allM_all (noSums_always _) _ mC2_3_7_ok)) (memoM_always _ (allM_all (noSums_always _) _ mC2_3_14_ok)))))
noncomputable def pC2_4 : List PA := [.row [129, 145, 161, 177]]
noncomputable def mC2_4_0 : List MemoM := [(117, [rC2_0, rC2_1, rC2_2, rC2_3], pC2_4, .lit 1), (117, [rC2_0, rC2_1, rC2_2, rC2_4], pC2_4, .lit 1), (117, [rC2_0, rC2_1, rC2_2, rC2_5], pC2_4, .lit 1), (117, [rC2_0, rC2_1, rC2_3, rC2_4], pC2_4, .lit 1), (117, [rC2_0, rC2_1, rC2_3, rC2_5], pC2_4, .lit 1), (117, [rC2_0, rC2_1, rC2_4, rC2_5], pC2_4, .lit 1), (117, [rC2_0, rC2_2, rC2_3, rC2_4], pC2_4, .lit 1)]
theorem mC2_4_0_ok : allM Try.prog (iC2_3S) mC2_4_0 = true := by kernel_rfl
noncomputable def mC2_4_7 : List MemoM := [(117, [rC2_0, rC2_2, rC2_3, rC2_5], pC2_4, .lit 1), (117, [rC2_0, rC2_2, rC2_4, rC2_5], pC2_4, .lit 1), (117, [rC2_0, rC2_3, rC2_4, rC2_5], pC2_4, .lit 1), (117, [rC2_1, rC2_2, rC2_3, rC2_4], pC2_4, .any), (117, [rC2_1, rC2_2, rC2_3, rC2_5], pC2_4, .poly (Nat.mul (Nat.mul (Nat.mul e2_1 e2_2) e2_2) e2_2) 0 2 7 0 hM), (117, [rC2_1, rC2_2, rC2_4, rC2_5], pC2_4, .poly (Nat.mul (Nat.mul (Nat.mul e2_1 e2_1) e2_2) e2_2) (Nat.mul (Nat.mul e2_2 e2_2) e2_2) 5 6 0 hM), (117, [rC2_1, rC2_3, rC2_4, rC2_5], pC2_4, .poly (Nat.mul (Nat.mul (Nat.mul e2_1 e2_1) e2_1) e2_2) (Nat.mul 2 (Nat.mul (Nat.mul e2_1 e2_2) e2_2)) 12 5 0 hM)]
theorem mC2_4_7_ok : allM Try.prog (iC2_3S) mC2_4_7 = true := by kernel_rfl
noncomputable def mC2_4_14 : List MemoM := [(117, [rC2_2, rC2_3, rC2_4, rC2_5], pC2_4, .poly (Nat.add (Nat.mul (Nat.mul (Nat.mul e2_1 e2_1) e2_1) e2_1) (Nat.mul e2_2 e2_2)) (Nat.mul 3 (Nat.mul (Nat.mul e2_1 e2_1) e2_2)) 29 4 0 hM)]
theorem mC2_4_14_ok : allM Try.prog (iC2_3S) mC2_4_14 = true := by kernel_rfl
noncomputable def iC2_4S : Sums := onF 117 (preQ 4 12 (orS (memoM mC2_4_0) (orS (memoM mC2_4_7) (memoM mC2_4_14))))
theorem iC2_4_al : Always Try.prog iC2_4S := onF_always (preQ_always (orS_always (memoM_always _ (allM_all (iC2_3_al) _ mC2_4_0_ok)) (orS_always (memoM_always _ (allM_all (iC2_3_al) _ mC2_4_7_ok)) (memoM_always _ (allM_all (iC2_3_al) _ mC2_4_14_ok)))))
noncomputable def pC2_5 : List PA := [.row [113, 129, 145, 161, 177]]
noncomputable def mC2_5_0 : List MemoM := [(117, [rC2_0, rC2_1, rC2_2, rC2_3, rC2_4], pC2_5, .any), (117, [rC2_0, rC2_1, rC2_2, rC2_3, rC2_5], pC2_5, .any), (117, [rC2_0, rC2_1, rC2_2, rC2_4, rC2_5], pC2_5, .any), (117, [rC2_0, rC2_1, rC2_3, rC2_4, rC2_5], pC2_5, .poly (Nat.mul (Nat.mul (Nat.mul (Nat.mul e2_1 e2_1) e2_1) e2_2) e2_2) (Nat.mul 2 (Nat.mul (Nat.mul (Nat.mul e2_1 e2_2) e2_2) e2_2)) 12 7 0 hM), (117, [rC2_0, rC2_2, rC2_3, rC2_4, rC2_5], pC2_5, .poly (Nat.add (Nat.mul (Nat.mul (Nat.mul (Nat.mul e2_1 e2_1) e2_1) e2_1) e2_2) (Nat.mul (Nat.mul e2_2 e2_2) e2_2)) (Nat.mul 3 (Nat.mul (Nat.mul (Nat.mul e2_1 e2_1) e2_2) e2_2)) 29 6 0 hM), (117, [rC2_1, rC2_2, rC2_3, rC2_4, rC2_5], pC2_5, .poly (Nat.add (Nat.mul (Nat.mul (Nat.mul (Nat.mul e2_1 e2_1) e2_1) e2_1) e2_1) (Nat.mul 3 (Nat.mul (Nat.mul e2_1 e2_2) e2_2))) (Nat.mul 4 (Nat.mul (Nat.mul (Nat.mul e2_1 e2_1) e2_1) e2_2)) 70 5 0 hM)]
theorem mC2_5_0_ok : allM Try.prog (iC2_4S) mC2_5_0 = true := by kernel_rfl
noncomputable def iC2_5S : Sums := onF 117 (preQ 5 12 (memoM mC2_5_0))
theorem iC2_5_al : Always Try.prog iC2_5S := onF_always (preQ_always (memoM_always _ (allM_all (iC2_4_al) _ mC2_5_0_ok)))
noncomputable def pC2_6 : List PA := [.row [97, 113, 129, 145, 161, 177]]
noncomputable def mC2_6_0 : List MemoM := [(117, [rC2_0, rC2_1, rC2_2, rC2_3, rC2_4, rC2_5], pC2_6, .poly (Nat.add (Nat.mul (Nat.mul (Nat.mul (Nat.mul (Nat.mul e2_1 e2_1) e2_1) e2_1) e2_1) e2_1) (Nat.mul 6 (Nat.mul (Nat.mul (Nat.mul e2_1 e2_1) e2_2) e2_2))) (Nat.add (Nat.mul 5 (Nat.mul (Nat.mul (Nat.mul (Nat.mul e2_1 e2_1) e2_1) e2_1) e2_2)) (Nat.mul (Nat.mul e2_2 e2_2) e2_2)) 169 6 0 hM)]
theorem mC2_6_0_ok : allM Try.prog (iC2_5S) mC2_6_0 = true := by kernel_rfl
noncomputable def iC2_6S : Sums := onF 117 (preQ 6 12 (memoM mC2_6_0))
theorem iC2_6_al : Always Try.prog iC2_6S := onF_always (preQ_always (memoM_always _ (allM_all (iC2_5_al) _ mC2_6_0_ok)))
noncomputable def tC2_0 : List PR := [.poly (e2_1) 0 2 1 0 hM, .poly (e2_2) 0 1 2 0 hM, .lit 1, .lit 1, .lit 1, .lit 1]
noncomputable def tC2_1 : List PR := [.lit 17, .poly (e2_1) 0 2 1 0 hM, .poly (e2_2) 0 1 2 0 hM, .lit 1, .lit 1, .lit 1]
noncomputable def tC2_2 : List PR := [.lit 1, .lit 17, .poly (e2_1) 0 2 1 0 hM, .poly (e2_2) 0 1 2 0 hM, .lit 1, .lit 1]
noncomputable def tC2_3 : List PR := [.lit 1, .lit 1, .lit 17, .poly (e2_1) 0 2 1 0 hM, .poly (e2_2) 0 1 2 0 hM, .lit 1]
noncomputable def tC2_4 : List PR := [.lit 1, .lit 1, .lit 1, .lit 17, .poly (e2_1) 0 2 1 0 hM, .poly (e2_2) 0 1 2 0 hM]
noncomputable def tC2_5 : List PR := [.lit 1, .lit 1, .lit 1, .lit 1, .lit 17, .poly (e2_1) 0 2 1 0 hM]
noncomputable def tC2 : List (List PR) := [tC2_0, tC2_1, tC2_2, tC2_3, tC2_4, tC2_5]
noncomputable def uC2_3_0 : List MemoM := [(72, tC2, [.lit 49, .lit 113], .poly (Nat.mul (Nat.mul e2_1 e2_1) e2_1) (Nat.mul 2 (Nat.mul e2_1 e2_2)) 12 3 0 hM), (72, tC2, [.lit 49, .lit 177], .poly (e2_2) (Nat.mul e2_1 e2_1) 5 2 0 hM), (72, tC2, [.lit 49, .lit 305], .poly (e2_1) 0 2 1 0 hM), (72, tC2, [.lit 49, .lit 561], .lit 295147905179352825841), (72, tC2, [.lit 49, .lit 209], .lit 1), (72, tC2, [.lit 49, .lit 337], .lit 1), (72, tC2, [.lit 49, .lit 593], .lit 1)]
theorem uC2_3_0_ok : allM Try.prog (noSums) uC2_3_0 = true := by kernel_rfl
noncomputable def uC2_3_7 : List MemoM := [(72, tC2, [.lit 49, .lit 401], .lit 1), (72, tC2, [.lit 49, .lit 657], .lit 1), (72, tC2, [.lit 49, .lit 785], .lit 1), (72, tC2, [.lit 49, .lit 225], .lit 1), (72, tC2, [.lit 49, .lit 353], .lit 1), (72, tC2, [.lit 49, .lit 609], .lit 1), (72, tC2, [.lit 49, .lit 417], .lit 1)]
theorem uC2_3_7_ok : allM Try.prog (noSums) uC2_3_7 = true := by kernel_rfl
noncomputable def uC2_3_14 : List MemoM := [(72, tC2, [.lit 49, .lit 673], .lit 1), (72, tC2, [.lit 49, .lit 801], .lit 1), (72, tC2, [.lit 49, .lit 449], .lit 1), (72, tC2, [.lit 49, .lit 705], .lit 1), (72, tC2, [.lit 49, .lit 833], .lit 1), (72, tC2, [.lit 49, .lit 897], .lit 1)]
theorem uC2_3_14_ok : allM Try.prog (noSums) uC2_3_14 = true := by kernel_rfl
noncomputable def sC2_3S : Sums := onF 72 (preQ 6 6 (orS (memoM uC2_3_0) (orS (memoM uC2_3_7) (memoM uC2_3_14))))
theorem sC2_3_al : Always Try.prog sC2_3S := onF_always (preQ_always (orS_always (memoM_always _ (allM_all (noSums_always _) _ uC2_3_0_ok)) (orS_always (memoM_always _ (allM_all (noSums_always _) _ uC2_3_7_ok)) (memoM_always _ (allM_all (noSums_always _) _ uC2_3_14_ok)))))
noncomputable def uC2_4_0 : List MemoM := [(72, tC2, [.lit 33, .lit 49], .poly (Nat.add (Nat.mul (Nat.mul (Nat.mul e2_1 e2_1) e2_1) e2_1) (Nat.mul e2_2 e2_2)) (Nat.mul 3 (Nat.mul (Nat.mul e2_1 e2_1) e2_2)) 29 4 0 hM), (72, tC2, [.lit 33, .lit 81], .poly (Nat.mul 2 (Nat.mul e2_1 e2_2)) (Nat.mul (Nat.mul e2_1 e2_1) e2_1) 12 3 0 hM), (72, tC2, [.lit 33, .lit 145], .poly (Nat.mul e2_1 e2_1) (e2_2) 5 2 0 hM), (72, tC2, [.lit 33, .lit 273], .poly 0 (e2_1) 2 1 0 hM), (72, tC2, [.lit 33, .lit 529], .lit 17), (72, tC2, [.lit 33, .lit 97], .lit 1), (72, tC2, [.lit 33, .lit 161], .lit 1)]
theorem uC2_4_0_ok : allM Try.prog (sC2_3S) uC2_4_0 = true := by kernel_rfl
noncomputable def uC2_4_7 : List MemoM := [(72, tC2, [.lit 33, .lit 289], .lit 1), (72, tC2, [.lit 33, .lit 545], .lit 1), (72, tC2, [.lit 33, .lit 193], .lit 1), (72, tC2, [.lit 33, .lit 321], .lit 1), (72, tC2, [.lit 33, .lit 577], .lit 1), (72, tC2, [.lit 33, .lit 385], .lit 1), (72, tC2, [.lit 33, .lit 641], .lit 1)]
theorem uC2_4_7_ok : allM Try.prog (sC2_3S) uC2_4_7 = true := by kernel_rfl
noncomputable def uC2_4_14 : List MemoM := [(72, tC2, [.lit 33, .lit 769], .lit 1)]
theorem uC2_4_14_ok : allM Try.prog (sC2_3S) uC2_4_14 = true := by kernel_rfl
noncomputable def sC2_4S : Sums := onF 72 (preQ 6 6 (orS (memoM uC2_4_0) (orS (memoM uC2_4_7) (memoM uC2_4_14))))
theorem sC2_4_al : Always Try.prog sC2_4S := onF_always (preQ_always (orS_always (memoM_always _ (allM_all (sC2_3_al) _ uC2_4_0_ok)) (orS_always (memoM_always _ (allM_all (sC2_3_al) _ uC2_4_7_ok)) (memoM_always _ (allM_all (sC2_3_al) _ uC2_4_14_ok)))))
noncomputable def uC2_5_0 : List MemoM := [(72, tC2, [.lit 17, .lit 17], .poly (Nat.add (Nat.mul (Nat.mul (Nat.mul (Nat.mul e2_1 e2_1) e2_1) e2_1) e2_1) (Nat.mul 3 (Nat.mul (Nat.mul e2_1 e2_2) e2_2))) (Nat.mul 4 (Nat.mul (Nat.mul (Nat.mul e2_1 e2_1) e2_1) e2_2)) 70 5 0 hM), (72, tC2, [.lit 17, .lit 33], .poly (Nat.mul 3 (Nat.mul (Nat.mul e2_1 e2_1) e2_2)) (Nat.add (Nat.mul (Nat.mul (Nat.mul e2_1 e2_1) e2_1) e2_1) (Nat.mul e2_2 e2_2)) 29 4 0 hM), (72, tC2, [.lit 17, .lit 65], .poly (Nat.mul (Nat.mul e2_1 e2_1) e2_1) (Nat.mul 2 (Nat.mul e2_1 e2_2)) 12 3 0 hM), (72, tC2, [.lit 17, .lit 129], .poly (e2_2) (Nat.mul e2_1 e2_1) 5 2 0 hM), (72, tC2, [.lit 17, .lit 257], .poly (e2_1) 0 2 1 0 hM), (72, tC2, [.lit 17, .lit 513], .lit 295147905179352825841)]
theorem uC2_5_0_ok : allM Try.prog (sC2_4S) uC2_5_0 = true := by kernel_rfl
noncomputable def sC2_5S : Sums := onF 72 (preQ 6 6 (memoM uC2_5_0))
theorem sC2_5_al : Always Try.prog sC2_5S := onF_always (preQ_always (memoM_always _ (allM_all (sC2_4_al) _ uC2_5_0_ok)))
noncomputable def uC2_6_0 : List MemoM := [(72, tC2, [.lit 1, .lit 1], .poly (Nat.add (Nat.mul (Nat.mul (Nat.mul (Nat.mul (Nat.mul e2_1 e2_1) e2_1) e2_1) e2_1) e2_1) (Nat.mul 6 (Nat.mul (Nat.mul (Nat.mul e2_1 e2_1) e2_2) e2_2))) (Nat.add (Nat.mul 5 (Nat.mul (Nat.mul (Nat.mul (Nat.mul e2_1 e2_1) e2_1) e2_1) e2_2)) (Nat.mul (Nat.mul e2_2 e2_2) e2_2)) 169 6 0 hM)]
theorem uC2_6_0_ok : allM Try.prog (sC2_5S) uC2_6_0 = true := by kernel_rfl
noncomputable def sC2_6S : Sums := onF 72 (preQ 6 6 (memoM uC2_6_0))
theorem sC2_6_al : Always Try.prog sC2_6S := onF_always (preQ_always (memoM_always _ (allM_all (sC2_5_al) _ uC2_6_0_ok)))
end Go.Proofs.Yteapghgoiodoiaa.dt
