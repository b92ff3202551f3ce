/- What is known of calls of the program at a seat. -/
import Derived.Test.YteapghgoiodoiabVaH
namespace Go.Proofs.Yteapghgoiodoiab.va
open Go Go.Eng
set_option linter.unusedVariables false
set_option linter.unusedSectionVars false
set_option linter.unusedSimpArgs false
set_option maxRecDepth 100000
noncomputable def ip3_0 : List MemoV := [(137, 7, w0_4, [.row [33, 33, 33]], .poly (polyN [146, 1042, 1154, 1168]) 0 4 6 0 18446744073709551615)]
theorem ip3_0_ok : allV Try.prog noSums ip3_0 = true := by kernel_rfl
noncomputable def ip3_1 : List MemoV := [(137, 7, w0_4, [.row [49, 49]], .poly (polyN [27, 195, 216, 1539, 1560, 1728]) 0 6 6 0 18446744073709551615)]
theorem ip3_1_ok : allV Try.prog noSums ip3_1 = true := by kernel_rfl
noncomputable def ip3_2 : List MemoV := [(137, 7, w0_4, [.row [81, 17]], .poly (polyN [13, 41, 69, 104, 321, 328, 517, 552, 832, 2561, 2568, 2624]) 0 12 6 0 18446744073709551615)]
theorem ip3_2_ok : allV Try.prog noSums ip3_2 = true := by kernel_rfl
noncomputable def ip3_3 : List MemoV := [(137, 7, w0_4, [.row [33, 17, 17, 17]], .poly (polyN [586, 593, 649, 1097]) 0 4 5 0 18446744073709551615)]
theorem ip3_3_ok : allV Try.prog noSums ip3_3 = true := by kernel_rfl
noncomputable def ip3_4 : List MemoV := [(137, 7, w0_4, [.row [33, 17, 17]], .poly (polyN [74, 81, 137, 522, 529, 578, 592, 641, 648, 1033, 1089, 1096]) 0 12 4 0 18446744073709551615)]
theorem ip3_4_ok : allV Try.prog noSums ip3_4 = true := by kernel_rfl
noncomputable def ip3_5 : List MemoV := [(137, 7, w0_4, [.row [65]], .poly (polyN [4, 32, 256, 2048]) 0 4 4 0 18446744073709551615)]
theorem ip3_5_ok : allV Try.prog noSums ip3_5 = true := by kernel_rfl
noncomputable def ip3_6 : List MemoV := [(137, 7, w0_4, [.row [49]], .poly (polyN [3, 24, 192, 1536]) 0 4 3 0 18446744073709551615)]
theorem ip3_6_ok : allV Try.prog noSums ip3_6 = true := by kernel_rfl
noncomputable def ip3_7 : List MemoV := [(137, 7, w0_4, [.row [17]], .poly (polyN [1, 8, 64, 512]) 0 4 1 0 18446744073709551615)]
theorem ip3_7_ok : allV Try.prog noSums ip3_7 = true := by kernel_rfl
noncomputable def ip3_8 : List MemoV := [(137, 7, w0_3, [.row [49, 49]], .poly (polyN [27, 195, 216]) 0 3 6 0 18446744073709551615)]
theorem ip3_8_ok : allV Try.prog noSums ip3_8 = true := by kernel_rfl
noncomputable def ip3_9 : List MemoV := [(137, 7, w0_3, [.row [81, 17]], .poly (polyN [13, 41, 69, 104, 321, 328]) 0 6 6 0 18446744073709551615)]
theorem ip3_9_ok : allV Try.prog noSums ip3_9 = true := by kernel_rfl
noncomputable def ip3_10 : List MemoV := [(137, 7, w0_3, [.row [33, 17, 17, 17]], .lit 1)]
theorem ip3_10_ok : allV Try.prog noSums ip3_10 = true := by kernel_rfl
noncomputable def ip3_11 : List MemoV := [(137, 7, w0_3, [.row [49, 33]], .poly (polyN [19, 26, 131, 152, 194, 208]) 0 6 5 0 18446744073709551615)]
theorem ip3_11_ok : allV Try.prog noSums ip3_11 = true := by kernel_rfl
noncomputable def ip3_12 : List MemoV := [(137, 7, w0_3, [.row [65]], .poly (polyN [4, 32, 256]) 0 3 4 0 18446744073709551615)]
theorem ip3_12_ok : allV Try.prog noSums ip3_12 = true := by kernel_rfl
noncomputable def ip3_13 : List MemoV := [(137, 7, w0_3, [.row [49]], .poly (polyN [3, 24, 192]) 0 3 3 0 18446744073709551615)]
theorem ip3_13_ok : allV Try.prog noSums ip3_13 = true := by kernel_rfl
noncomputable def ip3_14 : List MemoV := [(137, 7, w0_3, [.row [17]], .poly (polyN [1, 8, 64]) 0 3 1 0 18446744073709551615)]
theorem ip3_14_ok : allV Try.prog noSums ip3_14 = true := by kernel_rfl
noncomputable def ip3_15 : List MemoV := [(137, 7, w0_2, [.row [33, 33, 17, 17]], .lit 1)]
theorem ip3_15_ok : allV Try.prog noSums ip3_15 = true := by kernel_rfl
noncomputable def ip3_16 : List MemoV := [(137, 7, w0_2, [.row [81, 17]], .poly (polyN [13, 41]) 0 2 6 0 18446744073709551615)]
theorem ip3_16_ok : allV Try.prog noSums ip3_16 = true := by kernel_rfl
noncomputable def ip3_17 : List MemoV := [(137, 7, w0_2, [.row [33, 17, 17, 17]], .lit 1)]
theorem ip3_17_ok : allV Try.prog noSums ip3_17 = true := by kernel_rfl
noncomputable def ip3_18 : List MemoV := [(137, 7, w0_2, [.row [49, 33]], .poly (polyN [19, 26]) 0 2 5 0 18446744073709551615)]
theorem ip3_18_ok : allV Try.prog noSums ip3_18 = true := by kernel_rfl
noncomputable def ip3_19 : List MemoV := [(137, 7, w0_2, [.row [17, 17, 17, 17]], .lit 1)]
theorem ip3_19_ok : allV Try.prog noSums ip3_19 = true := by kernel_rfl
noncomputable def ip3_20 : List MemoV := [(137, 7, w0_2, [.row [49]], .poly (polyN [3, 24]) 0 2 3 0 18446744073709551615)]
theorem ip3_20_ok : allV Try.prog noSums ip3_20 = true := by kernel_rfl
noncomputable def ip3_21 : List MemoV := [(137, 7, w0_2, [.row [17]], .poly (polyN [1, 8]) 0 2 1 0 18446744073709551615)]
theorem ip3_21_ok : allV Try.prog noSums ip3_21 = true := by kernel_rfl
noncomputable def ip3_22 : List MemoV := [(137, 7, w0_1, [.row [33, 33, 17, 17]], .lit 1)]
theorem ip3_22_ok : allV Try.prog noSums ip3_22 = true := by kernel_rfl
noncomputable def ip3_23 : List MemoV := [(137, 7, w0_1, [.row [49, 33, 17]], .lit 1)]
theorem ip3_23_ok : allV Try.prog noSums ip3_23 = true := by kernel_rfl
noncomputable def ip3_24 : List MemoV := [(137, 7, w0_1, [.row [33, 17, 17, 17]], .lit 1)]
theorem ip3_24_ok : allV Try.prog noSums ip3_24 = true := by kernel_rfl
noncomputable def ip3_25 : List MemoV := [(137, 7, w0_1, [.row [49, 33]], .lit 1)]
theorem ip3_25_ok : allV Try.prog noSums ip3_25 = true := by kernel_rfl
noncomputable def ip3_26 : List MemoV := [(137, 7, w0_1, [.row [17, 17, 17, 17]], .lit 1)]
theorem ip3_26_ok : allV Try.prog noSums ip3_26 = true := by kernel_rfl
noncomputable def ip3_27 : List MemoV := [(137, 7, w0_1, [.row [49, 17]], .lit 1)]
theorem ip3_27_ok : allV Try.prog noSums ip3_27 = true := by kernel_rfl
noncomputable def ip3_28 : List MemoV := [(137, 7, w0_1, [.row [17]], .poly (polyN [1]) 0 1 1 0 18446744073709551615)]
theorem ip3_28_ok : allV Try.prog noSums ip3_28 = true := by kernel_rfl
noncomputable def v3plainS : Sums := onF 137 (orS (memoV ip3_0) (orS (memoV ip3_1) (orS (memoV ip3_2) (orS (memoV ip3_3) (orS (memoV ip3_4) (orS (memoV ip3_5) (orS (memoV ip3_6) (orS (memoV ip3_7) (orS (memoV ip3_8) (orS (memoV ip3_9) (orS (memoV ip3_10) (orS (memoV ip3_11) (orS (memoV ip3_12) (orS (memoV ip3_13) (orS (memoV ip3_14) (orS (memoV ip3_15) (orS (memoV ip3_16) (orS (memoV ip3_17) (orS (memoV ip3_18) (orS (memoV ip3_19) (orS (memoV ip3_20) (orS (memoV ip3_21) (orS (memoV ip3_22) (orS (memoV ip3_23) (orS (memoV ip3_24) (orS (memoV ip3_25) (orS (memoV ip3_26) (orS (memoV ip3_27) (memoV ip3_28)))))))))))))))))))))))))))))
theorem v3plain_al : Always Try.prog v3plainS := onF_always (orS_always (memoV_always _ (allV_all (noSums_always _) _ ip3_0_ok)) (orS_always (memoV_always _ (allV_all (noSums_always _) _ ip3_1_ok)) (orS_always (memoV_always _ (allV_all (noSums_always _) _ ip3_2_ok)) (orS_always (memoV_always _ (allV_all (noSums_always _) _ ip3_3_ok)) (orS_always (memoV_always _ (allV_all (noSums_always _) _ ip3_4_ok)) (orS_always (memoV_always _ (allV_all (noSums_always _) _ ip3_5_ok)) (orS_always (memoV_always _ (allV_all (noSums_always _) _ ip3_6_ok)) (orS_always (memoV_always _ (allV_all (noSums_always _) _ ip3_7_ok)) (orS_always (memoV_always _ (allV_all (noSums_always _) _ ip3_8_ok)) (orS_always (memoV_always _ (allV_all (noSums_always _) _ ip3_9_ok)) (orS_always (memoV_always _ (allV_all (noSums_always _) _ ip3_10_ok)) (orS_always (memoV_always _ (allV_all (noSums_always _) _ ip3_11_ok)) (orS_always (memoV_always _ (allV_all (noSums_always _) _ ip3_12_ok)) (orS_always (memoV_always _ (allV_all (noSums_always _) _ ip3_13_ok)) (orS_always (memoV_always _ (allV_all (noSums_always _) _ ip3_14_ok)) (orS_always (memoV_always _ (allV_all (noSums_always _) _ ip3_15_ok)) (orS_always (memoV_always _ (allV_all (noSums_always _) _ ip3_16_ok)) (orS_always (memoV_always _ (allV_all (noSums_always _) _ ip3_17_ok)) (orS_always (memoV_always _ (allV_all (noSums_always _) _ ip3_18_ok)) (orS_always (memoV_always _ (allV_all (noSums_always _) _ ip3_19_ok)) (orS_always (memoV_always _ (allV_all (noSums_always _) _ ip3_20_ok)) (orS_always (memoV_always _ (allV_all (noSums_always _) _ ip3_21_ok)) (orS_always (memoV_always _ (allV_all (noSums_always _) _ ip3_22_ok)) (orS_always (memoV_always _ (allV_all (noSums_always _) _ ip3_23_ok)) (orS_always (memoV_always _ (allV_all (noSums_always _) _ ip3_24_ok)) (orS_always (memoV_always _ (allV_all (noSums_always _) _ ip3_25_ok)) (orS_always (memoV_always _ (allV_all (noSums_always _) _ ip3_26_ok)) (orS_always (memoV_always _ (allV_all (noSums_always _) _ ip3_27_ok)) (memoV_always _ (allV_all (noSums_always _) _ ip3_28_ok))))))))))))))))))))))))))))))
end Go.Proofs.Yteapghgoiodoiab.va
