/- What is known of calls of the program at a seat. -/
import Derived.Test.YteapghgoiodoiaaDtH
namespace Go.Proofs.Yteapghgoiodoiaa.dt
open Go Go.Eng Go.Proofs.Yteapghgoiodoiaa.va
set_option linter.unusedVariables false
set_option linter.unusedSectionVars false
set_option linter.unusedSimpArgs false
set_option maxRecDepth 100000
noncomputable def rC0_0 : List PR := [.lit 1, .lit 1, .lit 1, .lit 1, .lit 1, .lit 17, .lit 1, .lit 1, .lit 1, .lit 1, .lit 1, .lit 1]
noncomputable def rC0_1 : List PR := [.lit 1, .lit 1, .lit 1, .lit 1, .lit 1, .lit 1, .lit 17, .lit 1, .lit 1, .lit 1, .lit 1, .lit 1]
noncomputable def rC0_2 : List PR := [.lit 1, .lit 1, .lit 1, .lit 1, .lit 1, .lit 1, .lit 1, .lit 17, .lit 1, .lit 1, .lit 1, .lit 1]
noncomputable def rC0_3 : List PR := [.lit 1, .lit 1, .lit 1, .lit 1, .lit 1, .lit 1, .lit 1, .lit 1, .lit 17, .lit 1, .lit 1, .lit 1]
noncomputable def rC0_4 : List PR := [.lit 1, .lit 1, .lit 1, .lit 1, .lit 1, .lit 1, .lit 1, .lit 1, .lit 1, .lit 17, .lit 1, .lit 1]
noncomputable def rC0_5 : List PR := [.lit 1, .lit 1, .lit 1, .lit 1, .lit 1, .lit 1, .lit 1, .lit 1, .lit 1, .lit 1, .lit 17, .lit 1]
noncomputable def pC0_3 : List PA := [.row [145, 161, 177]]
noncomputable def mC0_3_0 : List MemoM := [(117, [rC0_0, rC0_1, rC0_2], pC0_3, .lit 1), (117, [rC0_0, rC0_1, rC0_3], pC0_3, .lit 1), (117, [rC0_0, rC0_1, rC0_4], pC0_3, .lit 1), (117, [rC0_0, rC0_1, rC0_5], pC0_3, .lit 1), (117, [rC0_0, rC0_2, rC0_3], pC0_3, .lit 1), (117, [rC0_0, rC0_2, rC0_4], pC0_3, .lit 1), (117, [rC0_0, rC0_2, rC0_5], pC0_3, .lit 1)]
theorem mC0_3_0_ok : allM Try.prog (noSums) mC0_3_0 = true := by kernel_rfl
noncomputable def mC0_3_7 : List MemoM := [(117, [rC0_0, rC0_3, rC0_4], pC0_3, .lit 1), (117, [rC0_0, rC0_3, rC0_5], pC0_3, .lit 1), (117, [rC0_0, rC0_4, rC0_5], pC0_3, .lit 1), (117, [rC0_1, rC0_2, rC0_3], pC0_3, .lit 1), (117, [rC0_1, rC0_2, rC0_4], pC0_3, .lit 1), (117, [rC0_1, rC0_2, rC0_5], pC0_3, .lit 1), (117, [rC0_1, rC0_3, rC0_4], pC0_3, .lit 1)]
theorem mC0_3_7_ok : allM Try.prog (noSums) mC0_3_7 = true := by kernel_rfl
noncomputable def mC0_3_14 : List MemoM := [(117, [rC0_1, rC0_3, rC0_5], pC0_3, .lit 1), (117, [rC0_1, rC0_4, rC0_5], pC0_3, .lit 1), (117, [rC0_2, rC0_3, rC0_4], pC0_3, .lit 1), (117, [rC0_2, rC0_3, rC0_5], pC0_3, .lit 1), (117, [rC0_2, rC0_4, rC0_5], pC0_3, .lit 1), (117, [rC0_3, rC0_4, rC0_5], pC0_3, .lit 1)]
theorem mC0_3_14_ok : allM Try.prog (noSums) mC0_3_14 = true := by kernel_rfl
noncomputable def iC0_3S : Sums := onF 117 (preQ 3 12 (orS (memoM mC0_3_0) (orS (memoM mC0_3_7) (memoM mC0_3_14))))
theorem iC0_3_al : Always Try.prog iC0_3S := onF_always (preQ_always (orS_always (memoM_always _ (allM_all (noSums_always _) _ mC0_3_0_ok)) (orS_always (memoM_always _ (allM_all (noSums_always _) _ mC0_3_7_ok)) (memoM_always _ (allM_all (noSums_always _) _ mC0_3_14_ok)))))
noncomputable def pC0_4 : List PA := [.row [129, 145, 161, 177]]
noncomputable def mC0_4_0 : List MemoM := [(117, [rC0_0, rC0_1, rC0_2, rC0_3], pC0_4, .lit 1), (117, [rC0_0, rC0_1, rC0_2, rC0_4], pC0_4, .lit 1), (117, [rC0_0, rC0_1, rC0_2, rC0_5], pC0_4, .lit 1), (117, [rC0_0, rC0_1, rC0_3, rC0_4], pC0_4, .lit 1), (117, [rC0_0, rC0_1, rC0_3, rC0_5], pC0_4, .lit 1), (117, [rC0_0, rC0_1, rC0_4, rC0_5], pC0_4, .lit 1), (117, [rC0_0, rC0_2, rC0_3, rC0_4], pC0_4, .lit 1)]
theorem mC0_4_0_ok : allM Try.prog (iC0_3S) mC0_4_0 = true := by kernel_rfl
noncomputable def mC0_4_7 : List MemoM := [(117, [rC0_0, rC0_2, rC0_3, rC0_5], pC0_4, .lit 1), (117, [rC0_0, rC0_2, rC0_4, rC0_5], pC0_4, .lit 1), (117, [rC0_0, rC0_3, rC0_4, rC0_5], pC0_4, .lit 1), (117, [rC0_1, rC0_2, rC0_3, rC0_4], pC0_4, .lit 1), (117, [rC0_1, rC0_2, rC0_3, rC0_5], pC0_4, .lit 1), (117, [rC0_1, rC0_2, rC0_4, rC0_5], pC0_4, .lit 1), (117, [rC0_1, rC0_3, rC0_4, rC0_5], pC0_4, .lit 1)]
theorem mC0_4_7_ok : allM Try.prog (iC0_3S) mC0_4_7 = true := by kernel_rfl
noncomputable def mC0_4_14 : List MemoM := [(117, [rC0_2, rC0_3, rC0_4, rC0_5], pC0_4, .lit 1)]
theorem mC0_4_14_ok : allM Try.prog (iC0_3S) mC0_4_14 = true := by kernel_rfl
noncomputable def iC0_4S : Sums := onF 117 (preQ 4 12 (orS (memoM mC0_4_0) (orS (memoM mC0_4_7) (memoM mC0_4_14))))
theorem iC0_4_al : Always Try.prog iC0_4S := onF_always (preQ_always (orS_always (memoM_always _ (allM_all (iC0_3_al) _ mC0_4_0_ok)) (orS_always (memoM_always _ (allM_all (iC0_3_al) _ mC0_4_7_ok)) (memoM_always _ (allM_all (iC0_3_al) _ mC0_4_14_ok)))))
noncomputable def pC0_5 : List PA := [.row [113, 129, 145, 161, 177]]
noncomputable def mC0_5_0 : List MemoM := [(117, [rC0_0, rC0_1, rC0_2, rC0_3, rC0_4], pC0_5, .lit 1), (117, [rC0_0, rC0_1, rC0_2, rC0_3, rC0_5], pC0_5, .lit 1), (117, [rC0_0, rC0_1, rC0_2, rC0_4, rC0_5], pC0_5, .lit 1), (117, [rC0_0, rC0_1, rC0_3, rC0_4, rC0_5], pC0_5, .lit 1), (117, [rC0_0, rC0_2, rC0_3, rC0_4, rC0_5], pC0_5, .lit 1), (117, [rC0_1, rC0_2, rC0_3, rC0_4, rC0_5], pC0_5, .lit 1)]
theorem mC0_5_0_ok : allM Try.prog (iC0_4S) mC0_5_0 = true := by kernel_rfl
noncomputable def iC0_5S : Sums := onF 117 (preQ 5 12 (memoM mC0_5_0))
theorem iC0_5_al : Always Try.prog iC0_5S := onF_always (preQ_always (memoM_always _ (allM_all (iC0_4_al) _ mC0_5_0_ok)))
noncomputable def pC0_6 : List PA := [.row [97, 113, 129, 145, 161, 177]]
noncomputable def mC0_6_0 : List MemoM := [(117, [rC0_0, rC0_1, rC0_2, rC0_3, rC0_4, rC0_5], pC0_6, .lit 1)]
theorem mC0_6_0_ok : allM Try.prog (iC0_5S) mC0_6_0 = true := by kernel_rfl
noncomputable def iC0_6S : Sums := onF 117 (preQ 6 12 (memoM mC0_6_0))
theorem iC0_6_al : Always Try.prog iC0_6S := onF_always (preQ_always (memoM_always _ (allM_all (iC0_5_al) _ mC0_6_0_ok)))
noncomputable def tC0_0 : List PR := [.lit 1, .lit 1, .lit 1, .lit 1, .lit 1, .lit 1]
noncomputable def tC0_1 : List PR := [.lit 17, .lit 1, .lit 1, .lit 1, .lit 1, .lit 1]
noncomputable def tC0_2 : List PR := [.lit 1, .lit 17, .lit 1, .lit 1, .lit 1, .lit 1]
noncomputable def tC0_3 : List PR := [.lit 1, .lit 1, .lit 17, .lit 1, .lit 1, .lit 1]
noncomputable def tC0_4 : List PR := [.lit 1, .lit 1, .lit 1, .lit 17, .lit 1, .lit 1]
noncomputable def tC0_5 : List PR := [.lit 1, .lit 1, .lit 1, .lit 1, .lit 17, .lit 1]
noncomputable def tC0 : List (List PR) := [tC0_0, tC0_1, tC0_2, tC0_3, tC0_4, tC0_5]
noncomputable def uC0_3_0 : List MemoM := [(72, tC0, [.lit 49, .lit 113], .lit 1), (72, tC0, [.lit 49, .lit 177], .lit 1), (72, tC0, [.lit 49, .lit 305], .lit 1), (72, tC0, [.lit 49, .lit 561], .lit 295147905179352825841), (72, tC0, [.lit 49, .lit 209], .lit 1), (72, tC0, [.lit 49, .lit 337], .lit 1), (72, tC0, [.lit 49, .lit 593], .lit 1)]
theorem uC0_3_0_ok : allM Try.prog (noSums) uC0_3_0 = true := by kernel_rfl
noncomputable def uC0_3_7 : List MemoM := [(72, tC0, [.lit 49, .lit 401], .lit 1), (72, tC0, [.lit 49, .lit 657], .lit 1), (72, tC0, [.lit 49, .lit 785], .lit 1), (72, tC0, [.lit 49, .lit 225], .lit 1), (72, tC0, [.lit 49, .lit 353], .lit 1), (72, tC0, [.lit 49, .lit 609], .lit 1), (72, tC0, [.lit 49, .lit 417], .lit 1)]
theorem uC0_3_7_ok : allM Try.prog (noSums) uC0_3_7 = true := by kernel_rfl
noncomputable def uC0_3_14 : List MemoM := [(72, tC0, [.lit 49, .lit 673], .lit 1), (72, tC0, [.lit 49, .lit 801], .lit 1), (72, tC0, [.lit 49, .lit 449], .lit 1), (72, tC0, [.lit 49, .lit 705], .lit 1), (72, tC0, [.lit 49, .lit 833], .lit 1), (72, tC0, [.lit 49, .lit 897], .lit 1)]
theorem uC0_3_14_ok : allM Try.prog (noSums) uC0_3_14 = true := by kernel_rfl
noncomputable def sC0_3S : Sums := onF 72 (preQ 6 6 (orS (memoM uC0_3_0) (orS (memoM uC0_3_7) (memoM uC0_3_14))))
theorem sC0_3_al : Always Try.prog sC0_3S := onF_always (preQ_always (orS_always (memoM_always _ (allM_all (noSums_always _) _ uC0_3_0_ok)) (orS_always (memoM_always _ (allM_all (noSums_always _) _ uC0_3_7_ok)) (memoM_always _ (allM_all (noSums_always _) _ uC0_3_14_ok)))))
noncomputable def uC0_4_0 : List MemoM := [(72, tC0, [.lit 33, .lit 49], .lit 1), (72, tC0, [.lit 33, .lit 81], .lit 1), (72, tC0, [.lit 33, .lit 145], .lit 1), (72, tC0, [.lit 33, .lit 273], .lit 1), (72, tC0, [.lit 33, .lit 529], .lit 17), (72, tC0, [.lit 33, .lit 97], .lit 1), (72, tC0, [.lit 33, .lit 161], .lit 1)]
theorem uC0_4_0_ok : allM Try.prog (sC0_3S) uC0_4_0 = true := by kernel_rfl
noncomputable def uC0_4_7 : List MemoM := [(72, tC0, [.lit 33, .lit 289], .lit 1), (72, tC0, [.lit 33, .lit 545], .lit 1), (72, tC0, [.lit 33, .lit 193], .lit 1), (72, tC0, [.lit 33, .lit 321], .lit 1), (72, tC0, [.lit 33, .lit 577], .lit 1), (72, tC0, [.lit 33, .lit 385], .lit 1), (72, tC0, [.lit 33, .lit 641], .lit 1)]
theorem uC0_4_7_ok : allM Try.prog (sC0_3S) uC0_4_7 = true := by kernel_rfl
noncomputable def uC0_4_14 : List MemoM := [(72, tC0, [.lit 33, .lit 769], .lit 1)]
theorem uC0_4_14_ok : allM Try.prog (sC0_3S) uC0_4_14 = true := by kernel_rfl
noncomputable def sC0_4S : Sums := onF 72 (preQ 6 6 (orS (memoM uC0_4_0) (orS (memoM uC0_4_7) (memoM uC0_4_14))))
theorem sC0_4_al : Always Try.prog sC0_4S := onF_always (preQ_always (orS_always (memoM_always _ (allM_all (sC0_3_al) _ uC0_4_0_ok)) (orS_always (memoM_always _ (allM_all (sC0_3_al) _ uC0_4_7_ok)) (memoM_always _ (allM_all (sC0_3_al) _ uC0_4_14_ok)))))
noncomputable def uC0_5_0 : List MemoM := [(72, tC0, [.lit 17, .lit 17], .lit 1), (72, tC0, [.lit 17, .lit 33], .lit 1), (72, tC0, [.lit 17, .lit 65], .lit 1), (72, tC0, [.lit 17, .lit 129], .lit 1), (72, tC0, [.lit 17, .lit 257], .lit 1), (72, tC0, [.lit 17, .lit 513], .lit 295147905179352825841)]
theorem uC0_5_0_ok : allM Try.prog (sC0_4S) uC0_5_0 = true := by kernel_rfl
noncomputable def sC0_5S : Sums := onF 72 (preQ 6 6 (memoM uC0_5_0))
theorem sC0_5_al : Always Try.prog sC0_5S := onF_always (preQ_always (memoM_always _ (allM_all (sC0_4_al) _ uC0_5_0_ok)))
noncomputable def uC0_6_0 : List MemoM := [(72, tC0, [.lit 1, .lit 1], .lit 1)]
theorem uC0_6_0_ok : allM Try.prog (sC0_5S) uC0_6_0 = true := by kernel_rfl
noncomputable def sC0_6S : Sums := onF 72 (preQ 6 6 (memoM uC0_6_0))
theorem sC0_6_al : Always Try.prog sC0_6S := onF_always (preQ_always (memoM_always _ (allM_all (sC0_5_al) _ uC0_6_0_ok)))
end Go.Proofs.Yteapghgoiodoiaa.dt
