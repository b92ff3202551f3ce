/- What is known of calls of the program at a seat. -/
import Derived.Test.YteapghgoiodoiaaDtH
namespace Go.Proofs.Yteapghgoiodoiaa.dt
open Go Go.Eng Go.Proofs.Yteapghgoiodoiaa.va
set_option linter.unusedVariables false
set_option linter.unusedSectionVars false
set_option linter.unusedSimpArgs false
set_option maxRecDepth 100000
noncomputable def rF0_0 : List PR := [.lit 1, .lit 1, .lit 1, .lit 1, .lit 1, .lit 17, .lit 1, .lit 1, .lit 1, .lit 1, .lit 1, .lit 1]
noncomputable def rF0_1 : List PR := [.lit 1, .lit 1, .lit 1, .lit 1, .lit 1, .lit 1, .lit 17, .lit 1, .lit 1, .lit 1, .lit 1, .lit 1]
noncomputable def rF0_2 : List PR := [.lit 1, .lit 1, .lit 1, .lit 1, .lit 1, .lit 1, .lit 1, .lit 17, .lit 1, .lit 1, .lit 1, .lit 1]
noncomputable def rF0_3 : List PR := [.lit 1, .lit 1, .lit 1, .lit 1, .lit 1, .lit 1, .lit 1, .lit 1, .lit 17, .lit 1, .lit 1, .lit 1]
noncomputable def rF0_4 : List PR := [.lit 1, .lit 1, .lit 1, .lit 1, .lit 1, .lit 1, .lit 1, .lit 1, .lit 1, .lit 17, .lit 1, .lit 1]
noncomputable def rF0_5 : List PR := [.lit 1, .lit 1, .lit 1, .lit 1, .lit 1, .lit 1, .lit 1, .lit 1, .lit 1, .lit 1, .lit 17, .lit 1]
noncomputable def pF0_3 : List PA := [.row [145, 161, 177]]
noncomputable def mF0_3_0 : List MemoM := [(117, [rF0_0, rF0_1, rF0_2], pF0_3, .lit 1), (117, [rF0_0, rF0_1, rF0_3], pF0_3, .lit 1), (117, [rF0_0, rF0_1, rF0_4], pF0_3, .lit 1), (117, [rF0_0, rF0_1, rF0_5], pF0_3, .lit 1), (117, [rF0_0, rF0_2, rF0_3], pF0_3, .lit 1), (117, [rF0_0, rF0_2, rF0_4], pF0_3, .lit 1), (117, [rF0_0, rF0_2, rF0_5], pF0_3, .lit 1)]
theorem mF0_3_0_ok : allM Try.prog (noSums) mF0_3_0 = true := by kernel_rfl
noncomputable def mF0_3_7 : List MemoM := [(117, [rF0_0, rF0_3, rF0_4], pF0_3, .lit 1), (117, [rF0_0, rF0_3, rF0_5], pF0_3, .lit 1), (117, [rF0_0, rF0_4, rF0_5], pF0_3, .lit 1), (117, [rF0_1, rF0_2, rF0_3], pF0_3, .lit 1), (117, [rF0_1, rF0_2, rF0_4], pF0_3, .lit 1), (117, [rF0_1, rF0_2, rF0_5], pF0_3, .lit 1), (117, [rF0_1, rF0_3, rF0_4], pF0_3, .lit 1)]
theorem mF0_3_7_ok : allM Try.prog (noSums) mF0_3_7 = true := by kernel_rfl
noncomputable def mF0_3_14 : List MemoM := [(117, [rF0_1, rF0_3, rF0_5], pF0_3, .lit 1), (117, [rF0_1, rF0_4, rF0_5], pF0_3, .lit 1), (117, [rF0_2, rF0_3, rF0_4], pF0_3, .lit 1), (117, [rF0_2, rF0_3, rF0_5], pF0_3, .lit 1), (117, [rF0_2, rF0_4, rF0_5], pF0_3, .lit 1), (117, [rF0_3, rF0_4, rF0_5], pF0_3, .lit 1)]
theorem mF0_3_14_ok : allM Try.prog (noSums) mF0_3_14 = true := by kernel_rfl
noncomputable def iF0_3S : Sums := onF 117 (preQ 3 12 (orS (memoM mF0_3_0) (orS (memoM mF0_3_7) (memoM mF0_3_14))))
theorem iF0_3_al : Always Try.prog iF0_3S := onF_always (preQ_always (orS_always (memoM_always _ (allM_all (noSums_always _) _ mF0_3_0_ok)) (orS_always (memoM_always _ (allM_all (noSums_always _) _ mF0_3_7_ok)) (memoM_always _ (allM_all (noSums_always _) _ mF0_3_14_ok)))))
noncomputable def pF0_4 : List PA := [.row [129, 145, 161, 177]]
noncomputable def mF0_4_0 : List MemoM := [(117, [rF0_0, rF0_1, rF0_2, rF0_3], pF0_4, .lit 1), (117, [rF0_0, rF0_1, rF0_2, rF0_4], pF0_4, .lit 1), (117, [rF0_0, rF0_1, rF0_2, rF0_5], pF0_4, .lit 1), (117, [rF0_0, rF0_1, rF0_3, rF0_4], pF0_4, .lit 1), (117, [rF0_0, rF0_1, rF0_3, rF0_5], pF0_4, .lit 1), (117, [rF0_0, rF0_1, rF0_4, rF0_5], pF0_4, .lit 1), (117, [rF0_0, rF0_2, rF0_3, rF0_4], pF0_4, .lit 1)]
theorem mF0_4_0_ok : allM Try.prog (iF0_3S) mF0_4_0 = true := by kernel_rfl
noncomputable def mF0_4_7 : List MemoM := [(117, [rF0_0, rF0_2, rF0_3, rF0_5], pF0_4, .lit 1), (117, [rF0_0, rF0_2, rF0_4, rF0_5], pF0_4, .lit 1), (117, [rF0_0, rF0_3, rF0_4, rF0_5], pF0_4, .lit 1), (117, [rF0_1, rF0_2, rF0_3, rF0_4], pF0_4, .lit 1), (117, [rF0_1, rF0_2, rF0_3, rF0_5], pF0_4, .lit 1), (117, [rF0_1, rF0_2, rF0_4, rF0_5], pF0_4, .lit 1), (117, [rF0_1, rF0_3, rF0_4, rF0_5], pF0_4, .lit 1)]
theorem mF0_4_7_ok : allM Try.prog (iF0_3S) mF0_4_7 = true := by kernel_rfl
noncomputable def mF0_4_14 : List MemoM := [(117, [rF0_2, rF0_3, rF0_4, rF0_5], pF0_4, .lit 1)]
theorem mF0_4_14_ok : allM Try.prog (iF0_3S) mF0_4_14 = true := by kernel_rfl
noncomputable def iF0_4S : Sums := onF 117 (preQ 4 12 (orS (memoM mF0_4_0) (orS (memoM mF0_4_7) (memoM mF0_4_14))))
theorem iF0_4_al : Always Try.prog iF0_4S := onF_always (preQ_always (orS_always (memoM_always _ (allM_all (iF0_3_al) _ mF0_4_0_ok)) (orS_always (memoM_always _ (allM_all (iF0_3_al) _ mF0_4_7_ok)) (memoM_always _ (allM_all (iF0_3_al) _ mF0_4_14_ok)))))
noncomputable def pF0_5 : List PA := [.row [113, 129, 145, 161, 177]]
noncomputable def mF0_5_0 : List MemoM := [(117, [rF0_0, rF0_1, rF0_2, rF0_3, rF0_4], pF0_5, .lit 1), (117, [rF0_0, rF0_1, rF0_2, rF0_3, rF0_5], pF0_5, .lit 1), (117, [rF0_0, rF0_1, rF0_2, rF0_4, rF0_5], pF0_5, .lit 1), (117, [rF0_0, rF0_1, rF0_3, rF0_4, rF0_5], pF0_5, .lit 1), (117, [rF0_0, rF0_2, rF0_3, rF0_4, rF0_5], pF0_5, .lit 1), (117, [rF0_1, rF0_2, rF0_3, rF0_4, rF0_5], pF0_5, .lit 1)]
theorem mF0_5_0_ok : allM Try.prog (iF0_4S) mF0_5_0 = true := by kernel_rfl
noncomputable def iF0_5S : Sums := onF 117 (preQ 5 12 (memoM mF0_5_0))
theorem iF0_5_al : Always Try.prog iF0_5S := onF_always (preQ_always (memoM_always _ (allM_all (iF0_4_al) _ mF0_5_0_ok)))
noncomputable def pF0_6 : List PA := [.row [97, 113, 129, 145, 161, 177]]
noncomputable def mF0_6_0 : List MemoM := [(117, [rF0_0, rF0_1, rF0_2, rF0_3, rF0_4, rF0_5], pF0_6, .lit 1)]
theorem mF0_6_0_ok : allM Try.prog (iF0_5S) mF0_6_0 = true := by kernel_rfl
noncomputable def iF0_6S : Sums := onF 117 (preQ 6 12 (memoM mF0_6_0))
theorem iF0_6_al : Always Try.prog iF0_6S := onF_always (preQ_always (memoM_always _ (allM_all (iF0_5_al) _ mF0_6_0_ok)))
noncomputable def tF0_0 : List PR := [.lit 1, .lit 1, .lit 1, .lit 1, .lit 1, .lit 1]
noncomputable def tF0_1 : List PR := [.lit 17, .lit 1, .lit 1, .lit 1, .lit 1, .lit 1]
noncomputable def tF0_2 : List PR := [.lit 1, .lit 17, .lit 1, .lit 1, .lit 1, .lit 1]
noncomputable def tF0_3 : List PR := [.lit 1, .lit 1, .lit 17, .lit 1, .lit 1, .lit 1]
noncomputable def tF0_4 : List PR := [.lit 1, .lit 1, .lit 1, .lit 17, .lit 1, .lit 1]
noncomputable def tF0_5 : List PR := [.lit 1, .lit 1, .lit 1, .lit 1, .lit 17, .lit 1]
noncomputable def tF0 : List (List PR) := [tF0_0, tF0_1, tF0_2, tF0_3, tF0_4, tF0_5]
noncomputable def uF0_3_0 : List MemoM := [(72, tF0, [.lit 49, .lit 113], .lit 1), (72, tF0, [.lit 49, .lit 177], .lit 1), (72, tF0, [.lit 49, .lit 305], .lit 1), (72, tF0, [.lit 49, .lit 561], .lit 295147905179352825841), (72, tF0, [.lit 49, .lit 209], .lit 1), (72, tF0, [.lit 49, .lit 337], .lit 1), (72, tF0, [.lit 49, .lit 593], .lit 1)]
theorem uF0_3_0_ok : allM Try.prog (noSums) uF0_3_0 = true := by kernel_rfl
noncomputable def uF0_3_7 : List MemoM := [(72, tF0, [.lit 49, .lit 401], .lit 1), (72, tF0, [.lit 49, .lit 657], .lit 1), (72, tF0, [.lit 49, .lit 785], .lit 1), (72, tF0, [.lit 49, .lit 225], .lit 1), (72, tF0, [.lit 49, .lit 353], .lit 1), (72, tF0, [.lit 49, .lit 609], .lit 1), (72, tF0, [.lit 49, .lit 417], .lit 1)]
theorem uF0_3_7_ok : allM Try.prog (noSums) uF0_3_7 = true := by kernel_rfl
noncomputable def uF0_3_14 : List MemoM := [(72, tF0, [.lit 49, .lit 673], .lit 1), (72, tF0, [.lit 49, .lit 801], .lit 1), (72, tF0, [.lit 49, .lit 449], .lit 1), (72, tF0, [.lit 49, .lit 705], .lit 1), (72, tF0, [.lit 49, .lit 833], .lit 1), (72, tF0, [.lit 49, .lit 897], .lit 1)]
theorem uF0_3_14_ok : allM Try.prog (noSums) uF0_3_14 = true := by kernel_rfl
noncomputable def sF0_3S : Sums := onF 72 (preQ 6 6 (orS (memoM uF0_3_0) (orS (memoM uF0_3_7) (memoM uF0_3_14))))
theorem sF0_3_al : Always Try.prog sF0_3S := onF_always (preQ_always (orS_always (memoM_always _ (allM_all (noSums_always _) _ uF0_3_0_ok)) (orS_always (memoM_always _ (allM_all (noSums_always _) _ uF0_3_7_ok)) (memoM_always _ (allM_all (noSums_always _) _ uF0_3_14_ok)))))
noncomputable def uF0_4_0 : List MemoM := [(72, tF0, [.lit 33, .lit 49], .lit 1), (72, tF0, [.lit 33, .lit 81], .lit 1), (72, tF0, [.lit 33, .lit 145], .lit 1), (72, tF0, [.lit 33, .lit 273], .lit 1), (72, tF0, [.lit 33, .lit 529], .lit 17), (72, tF0, [.lit 33, .lit 97], .lit 1), (72, tF0, [.lit 33, .lit 161], .lit 1)]
theorem uF0_4_0_ok : allM Try.prog (sF0_3S) uF0_4_0 = true := by kernel_rfl
noncomputable def uF0_4_7 : List MemoM := [(72, tF0, [.lit 33, .lit 289], .lit 1), (72, tF0, [.lit 33, .lit 545], .lit 1), (72, tF0, [.lit 33, .lit 193], .lit 1), (72, tF0, [.lit 33, .lit 321], .lit 1), (72, tF0, [.lit 33, .lit 577], .lit 1), (72, tF0, [.lit 33, .lit 385], .lit 1), (72, tF0, [.lit 33, .lit 641], .lit 1)]
theorem uF0_4_7_ok : allM Try.prog (sF0_3S) uF0_4_7 = true := by kernel_rfl
noncomputable def uF0_4_14 : List MemoM := [(72, tF0, [.lit 33, .lit 769], .lit 1)]
theorem uF0_4_14_ok : allM Try.prog (sF0_3S) uF0_4_14 = true := by kernel_rfl
noncomputable def sF0_4S : Sums := onF 72 (preQ 6 6 (orS (memoM uF0_4_0) (orS (memoM uF0_4_7) (memoM uF0_4_14))))
theorem sF0_4_al : Always Try.prog sF0_4S := onF_always (preQ_always (orS_always (memoM_always _ (allM_all (sF0_3_al) _ uF0_4_0_ok)) (orS_always (memoM_always _ (allM_all (sF0_3_al) _ uF0_4_7_ok)) (memoM_always _ (allM_all (sF0_3_al) _ uF0_4_14_ok)))))
noncomputable def uF0_5_0 : List MemoM := [(72, tF0, [.lit 17, .lit 17], .lit 1), (72, tF0, [.lit 17, .lit 33], .lit 1), (72, tF0, [.lit 17, .lit 65], .lit 1), (72, tF0, [.lit 17, .lit 129], .lit 1), (72, tF0, [.lit 17, .lit 257], .lit 1), (72, tF0, [.lit 17, .lit 513], .lit 295147905179352825841)]
theorem uF0_5_0_ok : allM Try.prog (sF0_4S) uF0_5_0 = true := by kernel_rfl
noncomputable def sF0_5S : Sums := onF 72 (preQ 6 6 (memoM uF0_5_0))
theorem sF0_5_al : Always Try.prog sF0_5S := onF_always (preQ_always (memoM_always _ (allM_all (sF0_4_al) _ uF0_5_0_ok)))
noncomputable def uF0_6_0 : List MemoM := [(72, tF0, [.lit 1, .lit 1], .lit 1)]
theorem uF0_6_0_ok : allM Try.prog (sF0_5S) uF0_6_0 = true := by kernel_rfl
noncomputable def sF0_6S : Sums := onF 72 (preQ 6 6 (memoM uF0_6_0))
theorem sF0_6_al : Always Try.prog sF0_6S := onF_always (preQ_always (memoM_always _ (allM_all (sF0_5_al) _ uF0_6_0_ok)))
end Go.Proofs.Yteapghgoiodoiaa.dt
