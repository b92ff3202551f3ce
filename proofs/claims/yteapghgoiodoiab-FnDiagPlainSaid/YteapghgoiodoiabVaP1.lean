/- What is known of calls of the program at a seat. -/
import Derived.Test.YteapghgoiodoiabVaH
namespace Go.Proofs.Yteapghgoiodoiab.va
open Go Go.Eng
set_option linter.unusedVariables false
set_option linter.unusedSectionVars false
set_option linter.unusedSimpArgs false
set_option maxRecDepth 100000
noncomputable def ip1_0 : List MemoV := [(137, 7, w0_4, [.row [33, 17, 17, 17, 17]], .lit 1)]
theorem ip1_0_ok : allV Try.prog noSums ip1_0 = true := by kernel_rfl
noncomputable def ip1_1 : List MemoV := [(137, 7, w0_4, [.row [49, 17, 17, 17]], .poly (polyN [587, 601, 713, 1609]) 0 4 6 0 18446744073709551615)]
theorem ip1_1_ok : allV Try.prog noSums ip1_1 = true := by kernel_rfl
noncomputable def ip1_2 : List MemoV := [(137, 7, w0_4, [.row [17, 17, 17, 17, 17]], .lit 1)]
theorem ip1_2_ok : allV Try.prog noSums ip1_2 = true := by kernel_rfl
noncomputable def ip1_3 : List MemoV := [(137, 7, w0_4, [.row [49, 17, 17]], .poly (polyN [75, 89, 201, 523, 537, 579, 600, 705, 712, 1545, 1601, 1608]) 0 12 5 0 18446744073709551615)]
theorem ip1_3_ok : allV Try.prog noSums ip1_3 = true := by kernel_rfl
noncomputable def ip1_4 : List MemoV := [(137, 7, w0_4, [.row [81]], .poly (polyN [5, 40, 320, 2560]) 0 4 5 0 18446744073709551615)]
theorem ip1_4_ok : allV Try.prog noSums ip1_4 = true := by kernel_rfl
noncomputable def ip1_5 : List MemoV := [(137, 7, w0_4, [.row [33, 33]], .poly (polyN [18, 130, 144, 1026, 1040, 1152]) 0 6 4 0 18446744073709551615)]
theorem ip1_5_ok : allV Try.prog noSums ip1_5 = true := by kernel_rfl
noncomputable def ip1_6 : List MemoV := [(137, 7, w0_4, [.row [33]], .poly (polyN [2, 16, 128, 1024]) 0 4 2 0 18446744073709551615)]
theorem ip1_6_ok : allV Try.prog noSums ip1_6 = true := by kernel_rfl
noncomputable def ip1_7 : List MemoV := [(137, 7, w0_3, [.row [33, 17, 17, 17, 17]], .lit 1)]
theorem ip1_7_ok : allV Try.prog noSums ip1_7 = true := by kernel_rfl
noncomputable def ip1_8 : List MemoV := [(137, 7, w0_3, [.row [49, 17, 17, 17]], .lit 1)]
theorem ip1_8_ok : allV Try.prog noSums ip1_8 = true := by kernel_rfl
noncomputable def ip1_9 : List MemoV := [(137, 7, w0_3, [.row [65, 17, 17]], .poly (polyN [76, 97, 265]) 0 3 6 0 18446744073709551615)]
theorem ip1_9_ok : allV Try.prog noSums ip1_9 = true := by kernel_rfl
noncomputable def ip1_10 : List MemoV := [(137, 7, w0_3, [.row [49, 17, 17]], .poly (polyN [75, 89, 201]) 0 3 5 0 18446744073709551615)]
theorem ip1_10_ok : allV Try.prog noSums ip1_10 = true := by kernel_rfl
noncomputable def ip1_11 : List MemoV := [(137, 7, w0_3, [.row [81]], .poly (polyN [5, 40, 320]) 0 3 5 0 18446744073709551615)]
theorem ip1_11_ok : allV Try.prog noSums ip1_11 = true := by kernel_rfl
noncomputable def ip1_12 : List MemoV := [(137, 7, w0_3, [.row [33, 33]], .poly (polyN [18, 130, 144]) 0 3 4 0 18446744073709551615)]
theorem ip1_12_ok : allV Try.prog noSums ip1_12 = true := by kernel_rfl
noncomputable def ip1_13 : List MemoV := [(137, 7, w0_3, [.row [17, 17, 17]], .poly (polyN [73]) 0 1 3 0 18446744073709551615)]
theorem ip1_13_ok : allV Try.prog noSums ip1_13 = true := by kernel_rfl
noncomputable def ip1_14 : List MemoV := [(137, 7, w0_2, [.row [33, 17, 17, 17, 17]], .lit 1)]
theorem ip1_14_ok : allV Try.prog noSums ip1_14 = true := by kernel_rfl
noncomputable def ip1_15 : List MemoV := [(137, 7, w0_2, [.row [49, 17, 17, 17]], .lit 1)]
theorem ip1_15_ok : allV Try.prog noSums ip1_15 = true := by kernel_rfl
noncomputable def ip1_16 : List MemoV := [(137, 7, w0_2, [.row [65, 17, 17]], .lit 1)]
theorem ip1_16_ok : allV Try.prog noSums ip1_16 = true := by kernel_rfl
noncomputable def ip1_17 : List MemoV := [(137, 7, w0_2, [.row [97]], .poly (polyN [6, 48]) 0 2 6 0 18446744073709551615)]
theorem ip1_17_ok : allV Try.prog noSums ip1_17 = true := by kernel_rfl
noncomputable def ip1_18 : List MemoV := [(137, 7, w0_2, [.row [81]], .poly (polyN [5, 40]) 0 2 5 0 18446744073709551615)]
theorem ip1_18_ok : allV Try.prog noSums ip1_18 = true := by kernel_rfl
noncomputable def ip1_19 : List MemoV := [(137, 7, w0_2, [.row [33, 33]], .poly (polyN [18]) 0 1 4 0 18446744073709551615)]
theorem ip1_19_ok : allV Try.prog noSums ip1_19 = true := by kernel_rfl
noncomputable def ip1_20 : List MemoV := [(137, 7, w0_2, [.row [17, 17, 17]], .lit 1)]
theorem ip1_20_ok : allV Try.prog noSums ip1_20 = true := by kernel_rfl
noncomputable def ip1_21 : List MemoV := [(137, 7, w0_2, [.row [17, 17]], .poly (polyN [9]) 0 1 2 0 18446744073709551615)]
theorem ip1_21_ok : allV Try.prog noSums ip1_21 = true := by kernel_rfl
noncomputable def ip1_22 : List MemoV := [(137, 7, w0_1, [.row [49, 17, 17, 17]], .lit 1)]
theorem ip1_22_ok : allV Try.prog noSums ip1_22 = true := by kernel_rfl
noncomputable def ip1_23 : List MemoV := [(137, 7, w0_1, [.row [65, 17, 17]], .lit 1)]
theorem ip1_23_ok : allV Try.prog noSums ip1_23 = true := by kernel_rfl
noncomputable def ip1_24 : List MemoV := [(137, 7, w0_1, [.row [97]], .poly (polyN [6]) 0 1 6 0 18446744073709551615)]
theorem ip1_24_ok : allV Try.prog noSums ip1_24 = true := by kernel_rfl
noncomputable def ip1_25 : List MemoV := [(137, 7, w0_1, [.row [33, 33, 17]], .lit 1)]
theorem ip1_25_ok : allV Try.prog noSums ip1_25 = true := by kernel_rfl
noncomputable def ip1_26 : List MemoV := [(137, 7, w0_1, [.row [33, 33]], .lit 1)]
theorem ip1_26_ok : allV Try.prog noSums ip1_26 = true := by kernel_rfl
noncomputable def ip1_27 : List MemoV := [(137, 7, w0_1, [.row [17, 17, 17]], .lit 1)]
theorem ip1_27_ok : allV Try.prog noSums ip1_27 = true := by kernel_rfl
noncomputable def ip1_28 : List MemoV := [(137, 7, w0_1, [.row [17, 17]], .lit 1)]
theorem ip1_28_ok : allV Try.prog noSums ip1_28 = true := by kernel_rfl
noncomputable def v1plainS : Sums := onF 137 (orS (memoV ip1_0) (orS (memoV ip1_1) (orS (memoV ip1_2) (orS (memoV ip1_3) (orS (memoV ip1_4) (orS (memoV ip1_5) (orS (memoV ip1_6) (orS (memoV ip1_7) (orS (memoV ip1_8) (orS (memoV ip1_9) (orS (memoV ip1_10) (orS (memoV ip1_11) (orS (memoV ip1_12) (orS (memoV ip1_13) (orS (memoV ip1_14) (orS (memoV ip1_15) (orS (memoV ip1_16) (orS (memoV ip1_17) (orS (memoV ip1_18) (orS (memoV ip1_19) (orS (memoV ip1_20) (orS (memoV ip1_21) (orS (memoV ip1_22) (orS (memoV ip1_23) (orS (memoV ip1_24) (orS (memoV ip1_25) (orS (memoV ip1_26) (orS (memoV ip1_27) (memoV ip1_28)))))))))))))))))))))))))))))
theorem v1plain_al : Always Try.prog v1plainS := onF_always (orS_always (memoV_always _ (allV_all (noSums_always _) _ ip1_0_ok)) (orS_always (memoV_always _ (allV_all (noSums_always _) _ ip1_1_ok)) (orS_always (memoV_always _ (allV_all (noSums_always _) _ ip1_2_ok)) (orS_always (memoV_always _ (allV_all (noSums_always _) _ ip1_3_ok)) (orS_always (memoV_always _ (allV_all (noSums_always _) _ ip1_4_ok)) (orS_always (memoV_always _ (allV_all (noSums_always _) _ ip1_5_ok)) (orS_always (memoV_always _ (allV_all (noSums_always _) _ ip1_6_ok)) (orS_always (memoV_always _ (allV_all (noSums_always _) _ ip1_7_ok)) (orS_always (memoV_always _ (allV_all (noSums_always _) _ ip1_8_ok)) (orS_always (memoV_always _ (allV_all (noSums_always _) _ ip1_9_ok)) (orS_always (memoV_always _ (allV_all (noSums_always _) _ ip1_10_ok)) (orS_always (memoV_always _ (allV_all (noSums_always _) _ ip1_11_ok)) (orS_always (memoV_always _ (allV_all (noSums_always _) _ ip1_12_ok)) (orS_always (memoV_always _ (allV_all (noSums_always _) _ ip1_13_ok)) (orS_always (memoV_always _ (allV_all (noSums_always _) _ ip1_14_ok)) (orS_always (memoV_always _ (allV_all (noSums_always _) _ ip1_15_ok)) (orS_always (memoV_always _ (allV_all (noSums_always _) _ ip1_16_ok)) (orS_always (memoV_always _ (allV_all (noSums_always _) _ ip1_17_ok)) (orS_always (memoV_always _ (allV_all (noSums_always _) _ ip1_18_ok)) (orS_always (memoV_always _ (allV_all (noSums_always _) _ ip1_19_ok)) (orS_always (memoV_always _ (allV_all (noSums_always _) _ ip1_20_ok)) (orS_always (memoV_always _ (allV_all (noSums_always _) _ ip1_21_ok)) (orS_always (memoV_always _ (allV_all (noSums_always _) _ ip1_22_ok)) (orS_always (memoV_always _ (allV_all (noSums_always _) _ ip1_23_ok)) (orS_always (memoV_always _ (allV_all (noSums_always _) _ ip1_24_ok)) (orS_always (memoV_always _ (allV_all (noSums_always _) _ ip1_25_ok)) (orS_always (memoV_always _ (allV_all (noSums_always _) _ ip1_26_ok)) (orS_always (memoV_always _ (allV_all (noSums_always _) _ ip1_27_ok)) (memoV_always _ (allV_all (noSums_always _) _ ip1_28_ok))))))))))))))))))))))))))))))
end Go.Proofs.Yteapghgoiodoiab.va
