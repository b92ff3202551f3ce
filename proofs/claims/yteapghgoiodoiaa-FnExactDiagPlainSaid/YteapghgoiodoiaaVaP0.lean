/- What is known of calls of the program at a seat. -/
import Derived.Test.YteapghgoiodoiaaVaH
namespace Go.Proofs.Yteapghgoiodoiaa.va
open Go Go.Eng
set_option linter.unusedVariables false
set_option linter.unusedSectionVars false
set_option linter.unusedSimpArgs false
set_option maxRecDepth 100000
noncomputable def ip0_0 : List MemoV := [(123, 7, w0_5, [.row [17, 17, 17, 17, 17, 17]], .lit 1)]
theorem ip0_0_ok : allV Try.prog noSums ip0_0 = true := by kernel_rfl
noncomputable def ip0_1 : List MemoV := [(123, 7, w0_5, [.row [49, 33]], .poly (polyN [19, 26, 131, 152, 194, 208, 1027, 1048, 1216, 1538, 1552, 1664, 8195, 8216, 8384, 9728, 12290, 12304, 12416, 13312]) 0 20 5 0 18446744073709551615)]
theorem ip0_1_ok : allV Try.prog noSums ip0_1 = true := by kernel_rfl
noncomputable def ip0_2 : List MemoV := [(123, 7, w0_5, [.row [65]], .poly (polyN [4, 32, 256, 2048, 16384]) 0 5 4 0 18446744073709551615)]
theorem ip0_2_ok : allV Try.prog noSums ip0_2 = true := by kernel_rfl
noncomputable def ip0_3 : List MemoV := [(123, 7, w0_4, [.row [17, 17, 17, 17, 17, 17]], .lit 1)]
theorem ip0_3_ok : allV Try.prog noSums ip0_3 = true := by kernel_rfl
noncomputable def ip0_4 : List MemoV := [(123, 7, w0_4, [.row [65, 17, 17]], .poly (polyN [76, 97, 265, 524, 545, 580, 608, 769, 776, 2057, 2113, 2120]) 0 12 6 0 18446744073709551615)]
theorem ip0_4_ok : allV Try.prog noSums ip0_4 = true := by kernel_rfl
noncomputable def ip0_5 : List MemoV := [(123, 7, w0_4, [.row [49, 17, 17]], .poly (polyN [75, 89, 201, 523, 537, 579, 600, 705, 712, 1545, 1601, 1608]) 0 12 5 0 18446744073709551615)]
theorem ip0_5_ok : allV Try.prog noSums ip0_5 = true := by kernel_rfl
noncomputable def ip0_6 : List MemoV := [(123, 7, w0_4, [.row [49, 17]], .poly (polyN [11, 25, 67, 88, 193, 200, 515, 536, 704, 1537, 1544, 1600]) 0 12 4 0 18446744073709551615)]
theorem ip0_6_ok : allV Try.prog noSums ip0_6 = true := by kernel_rfl
noncomputable def ip0_7 : List MemoV := [(123, 7, w0_4, [.row [17]], .poly (polyN [1, 8, 64, 512]) 0 4 1 0 18446744073709551615)]
theorem ip0_7_ok : allV Try.prog noSums ip0_7 = true := by kernel_rfl
noncomputable def ip0_8 : List MemoV := [(123, 7, w0_3, [.row [49, 49]], .poly (polyN [27, 195, 216]) 0 3 6 0 18446744073709551615)]
theorem ip0_8_ok : allV Try.prog noSums ip0_8 = true := by kernel_rfl
noncomputable def ip0_9 : List MemoV := [(123, 7, w0_3, [.row [49, 17]], .poly (polyN [11, 25, 67, 88, 193, 200]) 0 6 4 0 18446744073709551615)]
theorem ip0_9_ok : allV Try.prog noSums ip0_9 = true := by kernel_rfl
noncomputable def ip0_10 : List MemoV := [(123, 7, w0_3, [.row [17]], .poly (polyN [1, 8, 64]) 0 3 1 0 18446744073709551615)]
theorem ip0_10_ok : allV Try.prog noSums ip0_10 = true := by kernel_rfl
noncomputable def ip0_11 : List MemoV := [(123, 7, w0_2, [.row [49, 49]], .poly (polyN [27]) 0 1 6 0 18446744073709551615)]
theorem ip0_11_ok : allV Try.prog noSums ip0_11 = true := by kernel_rfl
noncomputable def ip0_12 : List MemoV := [(123, 7, w0_2, [.row [33, 33, 17]], .lit 1)]
theorem ip0_12_ok : allV Try.prog noSums ip0_12 = true := by kernel_rfl
noncomputable def ip0_13 : List MemoV := [(123, 7, w0_2, [.row [33, 33]], .poly (polyN [18]) 0 1 4 0 18446744073709551615)]
theorem ip0_13_ok : allV Try.prog noSums ip0_13 = true := by kernel_rfl
noncomputable def ip0_14 : List MemoV := [(123, 7, w0_2, [.row [33]], .poly (polyN [2, 16]) 0 2 2 0 18446744073709551615)]
theorem ip0_14_ok : allV Try.prog noSums ip0_14 = true := by kernel_rfl
noncomputable def ip0_15 : List MemoV := [(123, 7, w0_1, [.row [49, 33, 17]], .lit 1)]
theorem ip0_15_ok : allV Try.prog noSums ip0_15 = true := by kernel_rfl
noncomputable def ip0_16 : List MemoV := [(123, 7, w0_1, [.row [33, 17, 17, 17]], .lit 1)]
theorem ip0_16_ok : allV Try.prog noSums ip0_16 = true := by kernel_rfl
noncomputable def ip0_17 : List MemoV := [(123, 7, w0_1, [.row [33]], .poly (polyN [2]) 0 1 2 0 18446744073709551615)]
theorem ip0_17_ok : allV Try.prog noSums ip0_17 = true := by kernel_rfl
noncomputable def v0plainS : Sums := onF 123 (orS (memoV ip0_0) (orS (memoV ip0_1) (orS (memoV ip0_2) (orS (memoV ip0_3) (orS (memoV ip0_4) (orS (memoV ip0_5) (orS (memoV ip0_6) (orS (memoV ip0_7) (orS (memoV ip0_8) (orS (memoV ip0_9) (orS (memoV ip0_10) (orS (memoV ip0_11) (orS (memoV ip0_12) (orS (memoV ip0_13) (orS (memoV ip0_14) (orS (memoV ip0_15) (orS (memoV ip0_16) (memoV ip0_17))))))))))))))))))
theorem v0plain_al : Always Try.prog v0plainS := onF_always (orS_always (memoV_always _ (allV_all (noSums_always _) _ ip0_0_ok)) (orS_always (memoV_always _ (allV_all (noSums_always _) _ ip0_1_ok)) (orS_always (memoV_always _ (allV_all (noSums_always _) _ ip0_2_ok)) (orS_always (memoV_always _ (allV_all (noSums_always _) _ ip0_3_ok)) (orS_always (memoV_always _ (allV_all (noSums_always _) _ ip0_4_ok)) (orS_always (memoV_always _ (allV_all (noSums_always _) _ ip0_5_ok)) (orS_always (memoV_always _ (allV_all (noSums_always _) _ ip0_6_ok)) (orS_always (memoV_always _ (allV_all (noSums_always _) _ ip0_7_ok)) (orS_always (memoV_always _ (allV_all (noSums_always _) _ ip0_8_ok)) (orS_always (memoV_always _ (allV_all (noSums_always _) _ ip0_9_ok)) (orS_always (memoV_always _ (allV_all (noSums_always _) _ ip0_10_ok)) (orS_always (memoV_always _ (allV_all (noSums_always _) _ ip0_11_ok)) (orS_always (memoV_always _ (allV_all (noSums_always _) _ ip0_12_ok)) (orS_always (memoV_always _ (allV_all (noSums_always _) _ ip0_13_ok)) (orS_always (memoV_always _ (allV_all (noSums_always _) _ ip0_14_ok)) (orS_always (memoV_always _ (allV_all (noSums_always _) _ ip0_15_ok)) (orS_always (memoV_always _ (allV_all (noSums_always _) _ ip0_16_ok)) (memoV_always _ (allV_all (noSums_always _) _ ip0_17_ok)))))))))))))))))))
end Go.Proofs.Yteapghgoiodoiaa.va
