/- What is known of calls of the program at a seat. -/
import Derived.Test.YteapghgoiodoiaaVaH
namespace Go.Proofs.Yteapghgoiodoiaa.va
open Go Go.Eng
set_option linter.unusedVariables false
set_option linter.unusedSectionVars false
set_option linter.unusedSimpArgs false
set_option maxRecDepth 100000
noncomputable def ip7_0 : List MemoV := [(123, 7, w0_5, [.row [65, 17, 17]], .poly (polyN [76, 97, 265, 524, 545, 580, 608, 769, 776, 2057, 2113, 2120, 4108, 4129, 4164, 4192, 4353, 4360, 4612, 4640, 4864, 6145, 6152, 6208, 16393, 16449, 16456, 16897, 16904, 16960]) 0 30 6 0 18446744073709551615)]
theorem ip7_0_ok : allV Try.prog noSums ip7_0 = true := by kernel_rfl
noncomputable def ip7_1 : List MemoV := [(123, 7, w0_5, [.row [49, 17, 17]], .poly (polyN [75, 89, 201, 523, 537, 579, 600, 705, 712, 1545, 1601, 1608, 4107, 4121, 4163, 4184, 4289, 4296, 4611, 4632, 4800, 5633, 5640, 5696, 12297, 12353, 12360, 12801, 12808, 12864]) 0 30 5 0 18446744073709551615)]
theorem ip7_1_ok : allV Try.prog noSums ip7_1 = true := by kernel_rfl
noncomputable def ip7_2 : List MemoV := [(123, 7, w0_5, [.row [49, 17]], .poly (polyN [11, 25, 67, 88, 193, 200, 515, 536, 704, 1537, 1544, 1600, 4099, 4120, 4288, 5632, 12289, 12296, 12352, 12800]) 0 20 4 0 18446744073709551615)]
theorem ip7_2_ok : allV Try.prog noSums ip7_2 = true := by kernel_rfl
noncomputable def ip7_3 : List MemoV := [(123, 7, w0_5, [.row [17]], .poly (polyN [1, 8, 64, 512, 4096]) 0 5 1 0 18446744073709551615)]
theorem ip7_3_ok : allV Try.prog noSums ip7_3 = true := by kernel_rfl
noncomputable def ip7_4 : List MemoV := [(123, 7, w0_4, [.row [49, 49]], .poly (polyN [27, 195, 216, 1539, 1560, 1728]) 0 6 6 0 18446744073709551615)]
theorem ip7_4_ok : allV Try.prog noSums ip7_4 = true := by kernel_rfl
noncomputable def ip7_5 : List MemoV := [(123, 7, w0_4, [.row [33, 33, 17]], .poly (polyN [82, 138, 145, 530, 642, 656, 1034, 1041, 1090, 1104, 1153, 1160]) 0 12 5 0 18446744073709551615)]
theorem ip7_5_ok : allV Try.prog noSums ip7_5 = true := by kernel_rfl
noncomputable def ip7_6 : List MemoV := [(123, 7, w0_4, [.row [33, 33]], .poly (polyN [18, 130, 144, 1026, 1040, 1152]) 0 6 4 0 18446744073709551615)]
theorem ip7_6_ok : allV Try.prog noSums ip7_6 = true := by kernel_rfl
noncomputable def ip7_7 : List MemoV := [(123, 7, w0_4, [.row [33]], .poly (polyN [2, 16, 128, 1024]) 0 4 2 0 18446744073709551615)]
theorem ip7_7_ok : allV Try.prog noSums ip7_7 = true := by kernel_rfl
noncomputable def ip7_8 : List MemoV := [(123, 7, w0_3, [.row [33, 33, 17]], .poly (polyN [82, 138, 145]) 0 3 5 0 18446744073709551615)]
theorem ip7_8_ok : allV Try.prog noSums ip7_8 = true := by kernel_rfl
noncomputable def ip7_9 : List MemoV := [(123, 7, w0_3, [.row [33, 33]], .poly (polyN [18, 130, 144]) 0 3 4 0 18446744073709551615)]
theorem ip7_9_ok : allV Try.prog noSums ip7_9 = true := by kernel_rfl
noncomputable def ip7_10 : List MemoV := [(123, 7, w0_3, [.row [33]], .poly (polyN [2, 16, 128]) 0 3 2 0 18446744073709551615)]
theorem ip7_10_ok : allV Try.prog noSums ip7_10 = true := by kernel_rfl
noncomputable def ip7_11 : List MemoV := [(123, 7, w0_2, [.row [49, 33, 17]], .lit 1)]
theorem ip7_11_ok : allV Try.prog noSums ip7_11 = true := by kernel_rfl
noncomputable def ip7_12 : List MemoV := [(123, 7, w0_2, [.row [33, 17, 17, 17]], .lit 1)]
theorem ip7_12_ok : allV Try.prog noSums ip7_12 = true := by kernel_rfl
noncomputable def ip7_13 : List MemoV := [(123, 7, w0_2, [.row [33, 17, 17]], .lit 1)]
theorem ip7_13_ok : allV Try.prog noSums ip7_13 = true := by kernel_rfl
noncomputable def ip7_14 : List MemoV := [(123, 7, w0_2, [.row [17, 17]], .poly (polyN [9]) 0 1 2 0 18446744073709551615)]
theorem ip7_14_ok : allV Try.prog noSums ip7_14 = true := by kernel_rfl
noncomputable def ip7_15 : List MemoV := [(123, 7, w0_1, [.row [49, 17, 17, 17]], .lit 1)]
theorem ip7_15_ok : allV Try.prog noSums ip7_15 = true := by kernel_rfl
noncomputable def ip7_16 : List MemoV := [(123, 7, w0_1, [.row [33, 17, 17]], .lit 1)]
theorem ip7_16_ok : allV Try.prog noSums ip7_16 = true := by kernel_rfl
noncomputable def ip7_17 : List MemoV := [(123, 7, w0_1, [.row [17, 17]], .lit 1)]
theorem ip7_17_ok : allV Try.prog noSums ip7_17 = true := by kernel_rfl
noncomputable def v7plainS : Sums := onF 123 (orS (memoV ip7_0) (orS (memoV ip7_1) (orS (memoV ip7_2) (orS (memoV ip7_3) (orS (memoV ip7_4) (orS (memoV ip7_5) (orS (memoV ip7_6) (orS (memoV ip7_7) (orS (memoV ip7_8) (orS (memoV ip7_9) (orS (memoV ip7_10) (orS (memoV ip7_11) (orS (memoV ip7_12) (orS (memoV ip7_13) (orS (memoV ip7_14) (orS (memoV ip7_15) (orS (memoV ip7_16) (memoV ip7_17))))))))))))))))))
theorem v7plain_al : Always Try.prog v7plainS := onF_always (orS_always (memoV_always _ (allV_all (noSums_always _) _ ip7_0_ok)) (orS_always (memoV_always _ (allV_all (noSums_always _) _ ip7_1_ok)) (orS_always (memoV_always _ (allV_all (noSums_always _) _ ip7_2_ok)) (orS_always (memoV_always _ (allV_all (noSums_always _) _ ip7_3_ok)) (orS_always (memoV_always _ (allV_all (noSums_always _) _ ip7_4_ok)) (orS_always (memoV_always _ (allV_all (noSums_always _) _ ip7_5_ok)) (orS_always (memoV_always _ (allV_all (noSums_always _) _ ip7_6_ok)) (orS_always (memoV_always _ (allV_all (noSums_always _) _ ip7_7_ok)) (orS_always (memoV_always _ (allV_all (noSums_always _) _ ip7_8_ok)) (orS_always (memoV_always _ (allV_all (noSums_always _) _ ip7_9_ok)) (orS_always (memoV_always _ (allV_all (noSums_always _) _ ip7_10_ok)) (orS_always (memoV_always _ (allV_all (noSums_always _) _ ip7_11_ok)) (orS_always (memoV_always _ (allV_all (noSums_always _) _ ip7_12_ok)) (orS_always (memoV_always _ (allV_all (noSums_always _) _ ip7_13_ok)) (orS_always (memoV_always _ (allV_all (noSums_always _) _ ip7_14_ok)) (orS_always (memoV_always _ (allV_all (noSums_always _) _ ip7_15_ok)) (orS_always (memoV_always _ (allV_all (noSums_always _) _ ip7_16_ok)) (memoV_always _ (allV_all (noSums_always _) _ ip7_17_ok)))))))))))))))))))
end Go.Proofs.Yteapghgoiodoiaa.va
