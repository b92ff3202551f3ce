/- What is known of calls of the program at a seat. -/
import Derived.Test.YteapghgoiodoiaaDtH
namespace Go.Proofs.Yteapghgoiodoiaa.dt
open Go Go.Eng Go.Proofs.Yteapghgoiodoiaa.va
set_option linter.unusedVariables false
set_option linter.unusedSectionVars false
set_option linter.unusedSimpArgs false
set_option maxRecDepth 100000
noncomputable def rC1_0 : List PR := [.lit 1, .lit 1, .lit 1, .lit 1, .lit 1, .lit 17, .poly (e1_1) 0 1 1 0 hM, .lit 1, .lit 1, .lit 1, .lit 1, .lit 1]
noncomputable def rC1_1 : List PR := [.lit 1, .lit 1, .lit 1, .lit 1, .lit 1, .lit 1, .lit 17, .poly (e1_1) 0 1 1 0 hM, .lit 1, .lit 1, .lit 1, .lit 1]
noncomputable def rC1_2 : List PR := [.lit 1, .lit 1, .lit 1, .lit 1, .lit 1, .lit 1, .lit 1, .lit 17, .poly (e1_1) 0 1 1 0 hM, .lit 1, .lit 1, .lit 1]
noncomputable def rC1_3 : List PR := [.lit 1, .lit 1, .lit 1, .lit 1, .lit 1, .lit 1, .lit 1, .lit 1, .lit 17, .poly (e1_1) 0 1 1 0 hM, .lit 1, .lit 1]
noncomputable def rC1_4 : List PR := [.lit 1, .lit 1, .lit 1, .lit 1, .lit 1, .lit 1, .lit 1, .lit 1, .lit 1, .lit 17, .poly (e1_1) 0 1 1 0 hM, .lit 1]
noncomputable def rC1_5 : List PR := [.lit 1, .lit 1, .lit 1, .lit 1, .lit 1, .lit 1, .lit 1, .lit 1, .lit 1, .lit 1, .lit 17, .poly (e1_1) 0 1 1 0 hM]
noncomputable def pC1_3 : List PA := [.row [145, 161, 177]]
noncomputable def mC1_3_0 : List MemoM := [(117, [rC1_0, rC1_1, rC1_2], pC1_3, .lit 1), (117, [rC1_0, rC1_1, rC1_3], pC1_3, .lit 1), (117, [rC1_0, rC1_1, rC1_4], pC1_3, .lit 1), (117, [rC1_0, rC1_1, rC1_5], pC1_3, .lit 1), (117, [rC1_0, rC1_2, rC1_3], pC1_3, .lit 1), (117, [rC1_0, rC1_2, rC1_4], pC1_3, .lit 1), (117, [rC1_0, rC1_2, rC1_5], pC1_3, .lit 1)]
theorem mC1_3_0_ok : allM Try.prog (noSums) mC1_3_0 = true := by kernel_rfl
noncomputable def mC1_3_7 : List MemoM := [(117, [rC1_0, rC1_3, rC1_4], pC1_3, .lit 1), (117, [rC1_0, rC1_3, rC1_5], pC1_3, .lit 1), (117, [rC1_0, rC1_4, rC1_5], pC1_3, .lit 1), (117, [rC1_1, rC1_2, rC1_3], pC1_3, .lit 1), (117, [rC1_1, rC1_2, rC1_4], pC1_3, .lit 1), (117, [rC1_1, rC1_2, rC1_5], pC1_3, .lit 1), (117, [rC1_1, rC1_3, rC1_4], pC1_3, .lit 1)]
theorem mC1_3_7_ok : allM Try.prog (noSums) mC1_3_7 = true := by kernel_rfl
noncomputable def mC1_3_14 : List MemoM := [(117, [rC1_1, rC1_3, rC1_5], pC1_3, .lit 1), (117, [rC1_1, rC1_4, rC1_5], pC1_3, .lit 1), (117, [rC1_2, rC1_3, rC1_4], pC1_3, .lit 1), (117, [rC1_2, rC1_3, rC1_5], pC1_3, .lit 1), (117, [rC1_2, rC1_4, rC1_5], pC1_3, .lit 1), (117, [rC1_3, rC1_4, rC1_5], pC1_3, .poly (Nat.mul (Nat.mul e1_1 e1_1) e1_1) 0 1 3 0 hM)]
theorem mC1_3_14_ok : allM Try.prog (noSums) mC1_3_14 = true := by kernel_rfl
noncomputable def iC1_3S : Sums := onF 117 (preQ 3 12 (orS (memoM mC1_3_0) (orS (memoM mC1_3_7) (memoM mC1_3_14))))
theorem iC1_3_al : Always Try.prog iC1_3S := onF_always (preQ_always (orS_always (memoM_always _ (allM_all (noSums_always _) _ mC1_3_0_ok)) (orS_always (memoM_always _ (allM_all (noSums_always _) _ mC1_3_7_ok)) (memoM_always _ (allM_all (noSums_always _) _ mC1_3_14_ok)))))
noncomputable def pC1_4 : List PA := [.row [129, 145, 161, 177]]
noncomputable def mC1_4_0 : List MemoM := [(117, [rC1_0, rC1_1, rC1_2, rC1_3], pC1_4, .lit 1), (117, [rC1_0, rC1_1, rC1_2, rC1_4], pC1_4, .lit 1), (117, [rC1_0, rC1_1, rC1_2, rC1_5], pC1_4, .lit 1), (117, [rC1_0, rC1_1, rC1_3, rC1_4], pC1_4, .lit 1), (117, [rC1_0, rC1_1, rC1_3, rC1_5], pC1_4, .lit 1), (117, [rC1_0, rC1_1, rC1_4, rC1_5], pC1_4, .lit 1), (117, [rC1_0, rC1_2, rC1_3, rC1_4], pC1_4, .lit 1)]
theorem mC1_4_0_ok : allM Try.prog (iC1_3S) mC1_4_0 = true := by kernel_rfl
noncomputable def mC1_4_7 : List MemoM := [(117, [rC1_0, rC1_2, rC1_3, rC1_5], pC1_4, .lit 1), (117, [rC1_0, rC1_2, rC1_4, rC1_5], pC1_4, .lit 1), (117, [rC1_0, rC1_3, rC1_4, rC1_5], pC1_4, .lit 1), (117, [rC1_1, rC1_2, rC1_3, rC1_4], pC1_4, .lit 1), (117, [rC1_1, rC1_2, rC1_3, rC1_5], pC1_4, .lit 1), (117, [rC1_1, rC1_2, rC1_4, rC1_5], pC1_4, .lit 1), (117, [rC1_1, rC1_3, rC1_4, rC1_5], pC1_4, .lit 1)]
theorem mC1_4_7_ok : allM Try.prog (iC1_3S) mC1_4_7 = true := by kernel_rfl
noncomputable def mC1_4_14 : List MemoM := [(117, [rC1_2, rC1_3, rC1_4, rC1_5], pC1_4, .poly (Nat.mul (Nat.mul (Nat.mul e1_1 e1_1) e1_1) e1_1) 0 1 4 0 hM)]
theorem mC1_4_14_ok : allM Try.prog (iC1_3S) mC1_4_14 = true := by kernel_rfl
noncomputable def iC1_4S : Sums := onF 117 (preQ 4 12 (orS (memoM mC1_4_0) (orS (memoM mC1_4_7) (memoM mC1_4_14))))
theorem iC1_4_al : Always Try.prog iC1_4S := onF_always (preQ_always (orS_always (memoM_always _ (allM_all (iC1_3_al) _ mC1_4_0_ok)) (orS_always (memoM_always _ (allM_all (iC1_3_al) _ mC1_4_7_ok)) (memoM_always _ (allM_all (iC1_3_al) _ mC1_4_14_ok)))))
noncomputable def pC1_5 : List PA := [.row [113, 129, 145, 161, 177]]
noncomputable def mC1_5_0 : List MemoM := [(117, [rC1_0, rC1_1, rC1_2, rC1_3, rC1_4], pC1_5, .lit 1), (117, [rC1_0, rC1_1, rC1_2, rC1_3, rC1_5], pC1_5, .lit 1), (117, [rC1_0, rC1_1, rC1_2, rC1_4, rC1_5], pC1_5, .lit 1), (117, [rC1_0, rC1_1, rC1_3, rC1_4, rC1_5], pC1_5, .lit 1), (117, [rC1_0, rC1_2, rC1_3, rC1_4, rC1_5], pC1_5, .lit 1), (117, [rC1_1, rC1_2, rC1_3, rC1_4, rC1_5], pC1_5, .poly (Nat.mul (Nat.mul (Nat.mul (Nat.mul e1_1 e1_1) e1_1) e1_1) e1_1) 0 1 5 0 hM)]
theorem mC1_5_0_ok : allM Try.prog (iC1_4S) mC1_5_0 = true := by kernel_rfl
noncomputable def iC1_5S : Sums := onF 117 (preQ 5 12 (memoM mC1_5_0))
theorem iC1_5_al : Always Try.prog iC1_5S := onF_always (preQ_always (memoM_always _ (allM_all (iC1_4_al) _ mC1_5_0_ok)))
noncomputable def pC1_6 : List PA := [.row [97, 113, 129, 145, 161, 177]]
noncomputable def mC1_6_0 : List MemoM := [(117, [rC1_0, rC1_1, rC1_2, rC1_3, rC1_4, rC1_5], pC1_6, .poly (Nat.mul (Nat.mul (Nat.mul (Nat.mul (Nat.mul e1_1 e1_1) e1_1) e1_1) e1_1) e1_1) 0 1 6 0 hM)]
theorem mC1_6_0_ok : allM Try.prog (iC1_5S) mC1_6_0 = true := by kernel_rfl
noncomputable def iC1_6S : Sums := onF 117 (preQ 6 12 (memoM mC1_6_0))
theorem iC1_6_al : Always Try.prog iC1_6S := onF_always (preQ_always (memoM_always _ (allM_all (iC1_5_al) _ mC1_6_0_ok)))
noncomputable def tC1_0 : List PR := [.poly (e1_1) 0 1 1 0 hM, .lit 1, .lit 1, .lit 1, .lit 1, .lit 1]
noncomputable def tC1_1 : List PR := [.lit 17, .poly (e1_1) 0 1 1 0 hM, .lit 1, .lit 1, .lit 1, .lit 1]
noncomputable def tC1_2 : List PR := [.lit 1, .lit 17, .poly (e1_1) 0 1 1 0 hM, .lit 1, .lit 1, .lit 1]
noncomputable def tC1_3 : List PR := [.lit 1, .lit 1, .lit 17, .poly (e1_1) 0 1 1 0 hM, .lit 1, .lit 1]
noncomputable def tC1_4 : List PR := [.lit 1, .lit 1, .lit 1, .lit 17, .poly (e1_1) 0 1 1 0 hM, .lit 1]
noncomputable def tC1_5 : List PR := [.lit 1, .lit 1, .lit 1, .lit 1, .lit 17, .poly (e1_1) 0 1 1 0 hM]
noncomputable def tC1 : List (List PR) := [tC1_0, tC1_1, tC1_2, tC1_3, tC1_4, tC1_5]
noncomputable def uC1_3_0 : List MemoM := [(72, tC1, [.lit 49, .lit 113], .poly (Nat.mul (Nat.mul e1_1 e1_1) e1_1) 0 1 3 0 hM), (72, tC1, [.lit 49, .lit 177], .poly 0 (Nat.mul e1_1 e1_1) 1 2 0 hM), (72, tC1, [.lit 49, .lit 305], .poly (e1_1) 0 1 1 0 hM), (72, tC1, [.lit 49, .lit 561], .lit 295147905179352825841), (72, tC1, [.lit 49, .lit 209], .lit 1), (72, tC1, [.lit 49, .lit 337], .lit 1), (72, tC1, [.lit 49, .lit 593], .lit 1)]
theorem uC1_3_0_ok : allM Try.prog (noSums) uC1_3_0 = true := by kernel_rfl
noncomputable def uC1_3_7 : List MemoM := [(72, tC1, [.lit 49, .lit 401], .lit 1), (72, tC1, [.lit 49, .lit 657], .lit 1), (72, tC1, [.lit 49, .lit 785], .lit 1), (72, tC1, [.lit 49, .lit 225], .lit 1), (72, tC1, [.lit 49, .lit 353], .lit 1), (72, tC1, [.lit 49, .lit 609], .lit 1), (72, tC1, [.lit 49, .lit 417], .lit 1)]
theorem uC1_3_7_ok : allM Try.prog (noSums) uC1_3_7 = true := by kernel_rfl
noncomputable def uC1_3_14 : List MemoM := [(72, tC1, [.lit 49, .lit 673], .lit 1), (72, tC1, [.lit 49, .lit 801], .lit 1), (72, tC1, [.lit 49, .lit 449], .lit 1), (72, tC1, [.lit 49, .lit 705], .lit 1), (72, tC1, [.lit 49, .lit 833], .lit 1), (72, tC1, [.lit 49, .lit 897], .lit 1)]
theorem uC1_3_14_ok : allM Try.prog (noSums) uC1_3_14 = true := by kernel_rfl
noncomputable def sC1_3S : Sums := onF 72 (preQ 6 6 (orS (memoM uC1_3_0) (orS (memoM uC1_3_7) (memoM uC1_3_14))))
theorem sC1_3_al : Always Try.prog sC1_3S := onF_always (preQ_always (orS_always (memoM_always _ (allM_all (noSums_always _) _ uC1_3_0_ok)) (orS_always (memoM_always _ (allM_all (noSums_always _) _ uC1_3_7_ok)) (memoM_always _ (allM_all (noSums_always _) _ uC1_3_14_ok)))))
noncomputable def uC1_4_0 : List MemoM := [(72, tC1, [.lit 33, .lit 49], .poly (Nat.mul (Nat.mul (Nat.mul e1_1 e1_1) e1_1) e1_1) 0 1 4 0 hM), (72, tC1, [.lit 33, .lit 81], .poly 0 (Nat.mul (Nat.mul e1_1 e1_1) e1_1) 1 3 0 hM), (72, tC1, [.lit 33, .lit 145], .poly (Nat.mul e1_1 e1_1) 0 1 2 0 hM), (72, tC1, [.lit 33, .lit 273], .poly 0 (e1_1) 1 1 0 hM), (72, tC1, [.lit 33, .lit 529], .lit 17), (72, tC1, [.lit 33, .lit 97], .lit 1), (72, tC1, [.lit 33, .lit 161], .lit 1)]
theorem uC1_4_0_ok : allM Try.prog (sC1_3S) uC1_4_0 = true := by kernel_rfl
noncomputable def uC1_4_7 : List MemoM := [(72, tC1, [.lit 33, .lit 289], .lit 1), (72, tC1, [.lit 33, .lit 545], .lit 1), (72, tC1, [.lit 33, .lit 193], .lit 1), (72, tC1, [.lit 33, .lit 321], .lit 1), (72, tC1, [.lit 33, .lit 577], .lit 1), (72, tC1, [.lit 33, .lit 385], .lit 1), (72, tC1, [.lit 33, .lit 641], .lit 1)]
theorem uC1_4_7_ok : allM Try.prog (sC1_3S) uC1_4_7 = true := by kernel_rfl
noncomputable def uC1_4_14 : List MemoM := [(72, tC1, [.lit 33, .lit 769], .lit 1)]
theorem uC1_4_14_ok : allM Try.prog (sC1_3S) uC1_4_14 = true := by kernel_rfl
noncomputable def sC1_4S : Sums := onF 72 (preQ 6 6 (orS (memoM uC1_4_0) (orS (memoM uC1_4_7) (memoM uC1_4_14))))
theorem sC1_4_al : Always Try.prog sC1_4S := onF_always (preQ_always (orS_always (memoM_always _ (allM_all (sC1_3_al) _ uC1_4_0_ok)) (orS_always (memoM_always _ (allM_all (sC1_3_al) _ uC1_4_7_ok)) (memoM_always _ (allM_all (sC1_3_al) _ uC1_4_14_ok)))))
noncomputable def uC1_5_0 : List MemoM := [(72, tC1, [.lit 17, .lit 17], .poly (Nat.mul (Nat.mul (Nat.mul (Nat.mul e1_1 e1_1) e1_1) e1_1) e1_1) 0 1 5 0 hM), (72, tC1, [.lit 17, .lit 33], .poly 0 (Nat.mul (Nat.mul (Nat.mul e1_1 e1_1) e1_1) e1_1) 1 4 0 hM), (72, tC1, [.lit 17, .lit 65], .poly (Nat.mul (Nat.mul e1_1 e1_1) e1_1) 0 1 3 0 hM), (72, tC1, [.lit 17, .lit 129], .poly 0 (Nat.mul e1_1 e1_1) 1 2 0 hM), (72, tC1, [.lit 17, .lit 257], .poly (e1_1) 0 1 1 0 hM), (72, tC1, [.lit 17, .lit 513], .lit 295147905179352825841)]
theorem uC1_5_0_ok : allM Try.prog (sC1_4S) uC1_5_0 = true := by kernel_rfl
noncomputable def sC1_5S : Sums := onF 72 (preQ 6 6 (memoM uC1_5_0))
theorem sC1_5_al : Always Try.prog sC1_5S := onF_always (preQ_always (memoM_always _ (allM_all (sC1_4_al) _ uC1_5_0_ok)))
noncomputable def uC1_6_0 : List MemoM := [(72, tC1, [.lit 1, .lit 1], .poly (Nat.mul (Nat.mul (Nat.mul (Nat.mul (Nat.mul e1_1 e1_1) e1_1) e1_1) e1_1) e1_1) 0 1 6 0 hM)]
theorem uC1_6_0_ok : allM Try.prog (sC1_5S) uC1_6_0 = true := by kernel_rfl
noncomputable def sC1_6S : Sums := onF 72 (preQ 6 6 (memoM uC1_6_0))
theorem sC1_6_al : Always Try.prog sC1_6S := onF_always (preQ_always (memoM_always _ (allM_all (sC1_5_al) _ uC1_6_0_ok)))
end Go.Proofs.Yteapghgoiodoiaa.dt
