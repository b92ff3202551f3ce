/- What is known of calls of the program at a seat. -/
import Derived.Test.YteapghgoiodoiabVaH
namespace Go.Proofs.Yteapghgoiodoiab.va
open Go Go.Eng
set_option linter.unusedVariables false
set_option linter.unusedSectionVars false
set_option linter.unusedSimpArgs false
set_option maxRecDepth 100000
noncomputable def ip0_0 : List MemoV := [(137, 7, w0_4, [.row [17, 17, 17, 17, 17, 17]], .lit 1)]
theorem ip0_0_ok : allV Try.prog noSums ip0_0 = true := by kernel_rfl
noncomputable def ip0_1 : List MemoV := [(137, 7, w0_4, [.row [65, 17, 17]], .poly (polyN [76, 97, 265, 524, 545, 580, 608, 769, 776, 2057, 2113, 2120]) 0 12 6 0 18446744073709551615)]
theorem ip0_1_ok : allV Try.prog noSums ip0_1 = true := by kernel_rfl
noncomputable def ip0_2 : List MemoV := [(137, 7, w0_4, [.row [97]], .poly (polyN [6, 48, 384, 3072]) 0 4 6 0 18446744073709551615)]
theorem ip0_2_ok : allV Try.prog noSums ip0_2 = true := by kernel_rfl
noncomputable def ip0_3 : List MemoV := [(137, 7, w0_4, [.row [33, 33, 17]], .poly (polyN [82, 138, 145, 530, 642, 656, 1034, 1041, 1090, 1104, 1153, 1160]) 0 12 5 0 18446744073709551615)]
theorem ip0_3_ok : allV Try.prog noSums ip0_3 = true := by kernel_rfl
noncomputable def ip0_4 : List MemoV := [(137, 7, w0_4, [.row [65, 17]], .poly (polyN [12, 33, 68, 96, 257, 264, 516, 544, 768, 2049, 2056, 2112]) 0 12 5 0 18446744073709551615)]
theorem ip0_4_ok : allV Try.prog noSums ip0_4 = true := by kernel_rfl
noncomputable def ip0_5 : List MemoV := [(137, 7, w0_4, [.row [17, 17, 17]], .poly (polyN [73, 521, 577, 584]) 0 4 3 0 18446744073709551615)]
theorem ip0_5_ok : allV Try.prog noSums ip0_5 = true := by kernel_rfl
noncomputable def ip0_6 : List MemoV := [(137, 7, w0_4, [.row [17, 17]], .poly (polyN [9, 65, 72, 513, 520, 576]) 0 6 2 0 18446744073709551615)]
theorem ip0_6_ok : allV Try.prog noSums ip0_6 = true := by kernel_rfl
noncomputable def ip0_7 : List MemoV := [(137, 7, w0_3, [.row [17, 17, 17, 17, 17, 17]], .lit 1)]
theorem ip0_7_ok : allV Try.prog noSums ip0_7 = true := by kernel_rfl
noncomputable def ip0_8 : List MemoV := [(137, 7, w0_3, [.row [33, 33, 33]], .poly (polyN [146]) 0 1 6 0 18446744073709551615)]
theorem ip0_8_ok : allV Try.prog noSums ip0_8 = true := by kernel_rfl
noncomputable def ip0_9 : List MemoV := [(137, 7, w0_3, [.row [97]], .poly (polyN [6, 48, 384]) 0 3 6 0 18446744073709551615)]
theorem ip0_9_ok : allV Try.prog noSums ip0_9 = true := by kernel_rfl
noncomputable def ip0_10 : List MemoV := [(137, 7, w0_3, [.row [33, 33, 17]], .poly (polyN [82, 138, 145]) 0 3 5 0 18446744073709551615)]
theorem ip0_10_ok : allV Try.prog noSums ip0_10 = true := by kernel_rfl
noncomputable def ip0_11 : List MemoV := [(137, 7, w0_3, [.row [65, 17]], .poly (polyN [12, 33, 68, 96, 257, 264]) 0 6 5 0 18446744073709551615)]
theorem ip0_11_ok : allV Try.prog noSums ip0_11 = true := by kernel_rfl
noncomputable def ip0_12 : List MemoV := [(137, 7, w0_3, [.row [33, 17, 17]], .poly (polyN [74, 81, 137]) 0 3 4 0 18446744073709551615)]
theorem ip0_12_ok : allV Try.prog noSums ip0_12 = true := by kernel_rfl
noncomputable def ip0_13 : List MemoV := [(137, 7, w0_3, [.row [17, 17]], .poly (polyN [9, 65, 72]) 0 3 2 0 18446744073709551615)]
theorem ip0_13_ok : allV Try.prog noSums ip0_13 = true := by kernel_rfl
noncomputable def ip0_14 : List MemoV := [(137, 7, w0_2, [.row [17, 17, 17, 17, 17, 17]], .lit 1)]
theorem ip0_14_ok : allV Try.prog noSums ip0_14 = true := by kernel_rfl
noncomputable def ip0_15 : List MemoV := [(137, 7, w0_2, [.row [33, 33, 33]], .lit 1)]
theorem ip0_15_ok : allV Try.prog noSums ip0_15 = true := by kernel_rfl
noncomputable def ip0_16 : List MemoV := [(137, 7, w0_2, [.row [49, 49]], .poly (polyN [27]) 0 1 6 0 18446744073709551615)]
theorem ip0_16_ok : allV Try.prog noSums ip0_16 = true := by kernel_rfl
noncomputable def ip0_17 : List MemoV := [(137, 7, w0_2, [.row [33, 33, 17]], .lit 1)]
theorem ip0_17_ok : allV Try.prog noSums ip0_17 = true := by kernel_rfl
noncomputable def ip0_18 : List MemoV := [(137, 7, w0_2, [.row [65, 17]], .poly (polyN [12, 33]) 0 2 5 0 18446744073709551615)]
theorem ip0_18_ok : allV Try.prog noSums ip0_18 = true := by kernel_rfl
noncomputable def ip0_19 : List MemoV := [(137, 7, w0_2, [.row [33, 17, 17]], .lit 1)]
theorem ip0_19_ok : allV Try.prog noSums ip0_19 = true := by kernel_rfl
noncomputable def ip0_20 : List MemoV := [(137, 7, w0_2, [.row [65]], .poly (polyN [4, 32]) 0 2 4 0 18446744073709551615)]
theorem ip0_20_ok : allV Try.prog noSums ip0_20 = true := by kernel_rfl
noncomputable def ip0_21 : List MemoV := [(137, 7, w0_1, [.row [17, 17, 17, 17, 17, 17]], .lit 1)]
theorem ip0_21_ok : allV Try.prog noSums ip0_21 = true := by kernel_rfl
noncomputable def ip0_22 : List MemoV := [(137, 7, w0_1, [.row [33, 33, 33]], .lit 1)]
theorem ip0_22_ok : allV Try.prog noSums ip0_22 = true := by kernel_rfl
noncomputable def ip0_23 : List MemoV := [(137, 7, w0_1, [.row [49, 49]], .lit 1)]
theorem ip0_23_ok : allV Try.prog noSums ip0_23 = true := by kernel_rfl
noncomputable def ip0_24 : List MemoV := [(137, 7, w0_1, [.row [81, 17]], .lit 1)]
theorem ip0_24_ok : allV Try.prog noSums ip0_24 = true := by kernel_rfl
noncomputable def ip0_25 : List MemoV := [(137, 7, w0_1, [.row [65, 17]], .lit 1)]
theorem ip0_25_ok : allV Try.prog noSums ip0_25 = true := by kernel_rfl
noncomputable def ip0_26 : List MemoV := [(137, 7, w0_1, [.row [33, 17, 17]], .lit 1)]
theorem ip0_26_ok : allV Try.prog noSums ip0_26 = true := by kernel_rfl
noncomputable def ip0_27 : List MemoV := [(137, 7, w0_1, [.row [65]], .poly (polyN [4]) 0 1 4 0 18446744073709551615)]
theorem ip0_27_ok : allV Try.prog noSums ip0_27 = true := by kernel_rfl
noncomputable def ip0_28 : List MemoV := [(137, 7, w0_1, [.row [49]], .poly (polyN [3]) 0 1 3 0 18446744073709551615)]
theorem ip0_28_ok : allV Try.prog noSums ip0_28 = true := by kernel_rfl
noncomputable def v0plainS : Sums := onF 137 (orS (memoV ip0_0) (orS (memoV ip0_1) (orS (memoV ip0_2) (orS (memoV ip0_3) (orS (memoV ip0_4) (orS (memoV ip0_5) (orS (memoV ip0_6) (orS (memoV ip0_7) (orS (memoV ip0_8) (orS (memoV ip0_9) (orS (memoV ip0_10) (orS (memoV ip0_11) (orS (memoV ip0_12) (orS (memoV ip0_13) (orS (memoV ip0_14) (orS (memoV ip0_15) (orS (memoV ip0_16) (orS (memoV ip0_17) (orS (memoV ip0_18) (orS (memoV ip0_19) (orS (memoV ip0_20) (orS (memoV ip0_21) (orS (memoV ip0_22) (orS (memoV ip0_23) (orS (memoV ip0_24) (orS (memoV ip0_25) (orS (memoV ip0_26) (orS (memoV ip0_27) (memoV ip0_28)))))))))))))))))))))))))))))
theorem v0plain_al : Always Try.prog v0plainS := onF_always (orS_always (memoV_always _ (allV_all (noSums_always _) _ ip0_0_ok)) (orS_always (memoV_always _ (allV_all (noSums_always _) _ ip0_1_ok)) (orS_always (memoV_always _ (allV_all (noSums_always _) _ ip0_2_ok)) (orS_always (memoV_always _ (allV_all (noSums_always _) _ ip0_3_ok)) (orS_always (memoV_always _ (allV_all (noSums_always _) _ ip0_4_ok)) (orS_always (memoV_always _ (allV_all (noSums_always _) _ ip0_5_ok)) (orS_always (memoV_always _ (allV_all (noSums_always _) _ ip0_6_ok)) (orS_always (memoV_always _ (allV_all (noSums_always _) _ ip0_7_ok)) (orS_always (memoV_always _ (allV_all (noSums_always _) _ ip0_8_ok)) (orS_always (memoV_always _ (allV_all (noSums_always _) _ ip0_9_ok)) (orS_always (memoV_always _ (allV_all (noSums_always _) _ ip0_10_ok)) (orS_always (memoV_always _ (allV_all (noSums_always _) _ ip0_11_ok)) (orS_always (memoV_always _ (allV_all (noSums_always _) _ ip0_12_ok)) (orS_always (memoV_always _ (allV_all (noSums_always _) _ ip0_13_ok)) (orS_always (memoV_always _ (allV_all (noSums_always _) _ ip0_14_ok)) (orS_always (memoV_always _ (allV_all (noSums_always _) _ ip0_15_ok)) (orS_always (memoV_always _ (allV_all (noSums_always _) _ ip0_16_ok)) (orS_always (memoV_always _ (allV_all (noSums_always _) _ ip0_17_ok)) (orS_always (memoV_always _ (allV_all (noSums_always _) _ ip0_18_ok)) (orS_always (memoV_always _ (allV_all (noSums_always _) _ ip0_19_ok)) (orS_always (memoV_always _ (allV_all (noSums_always _) _ ip0_20_ok)) (orS_always (memoV_always _ (allV_all (noSums_always _) _ ip0_21_ok)) (orS_always (memoV_always _ (allV_all (noSums_always _) _ ip0_22_ok)) (orS_always (memoV_always _ (allV_all (noSums_always _) _ ip0_23_ok)) (orS_always (memoV_always _ (allV_all (noSums_always _) _ ip0_24_ok)) (orS_always (memoV_always _ (allV_all (noSums_always _) _ ip0_25_ok)) (orS_always (memoV_always _ (allV_all (noSums_always _) _ ip0_26_ok)) (orS_always (memoV_always _ (allV_all (noSums_always _) _ ip0_27_ok)) (memoV_always _ (allV_all (noSums_always _) _ ip0_28_ok))))))))))))))))))))))))))))))
end Go.Proofs.Yteapghgoiodoiab.va
