/- What is known of calls of the program at a seat. -/
import Derived.Test.YteapghgoiodoiaaVaH
namespace Go.Proofs.Yteapghgoiodoiaa.va
open Go Go.Eng
set_option linter.unusedVariables false
set_option linter.unusedSectionVars false
set_option linter.unusedSimpArgs false
set_option maxRecDepth 100000
noncomputable def ip6_0 : List MemoV := [(123, 7, w0_5, [.row [49, 49]], .poly (polyN [27, 195, 216, 1539, 1560, 1728, 12291, 12312, 12480, 13824]) 0 10 6 0 18446744073709551615)]
theorem ip6_0_ok : allV Try.prog noSums ip6_0 = true := by kernel_rfl
noncomputable def ip6_1 : List MemoV := [(123, 7, w0_5, [.row [33, 33, 17]], .poly (polyN [82, 138, 145, 530, 642, 656, 1034, 1041, 1090, 1104, 1153, 1160, 4114, 4226, 4240, 5122, 5136, 5248, 8202, 8209, 8258, 8272, 8321, 8328, 8706, 8720, 8832, 9217, 9224, 9280]) 0 30 5 0 18446744073709551615)]
theorem ip6_1_ok : allV Try.prog noSums ip6_1 = true := by kernel_rfl
noncomputable def ip6_2 : List MemoV := [(123, 7, w0_5, [.row [33, 33]], .poly (polyN [18, 130, 144, 1026, 1040, 1152, 8194, 8208, 8320, 9216]) 0 10 4 0 18446744073709551615)]
theorem ip6_2_ok : allV Try.prog noSums ip6_2 = true := by kernel_rfl
noncomputable def ip6_3 : List MemoV := [(123, 7, w0_5, [.row [33]], .poly (polyN [2, 16, 128, 1024, 8192]) 0 5 2 0 18446744073709551615)]
theorem ip6_3_ok : allV Try.prog noSums ip6_3 = true := by kernel_rfl
noncomputable def ip6_4 : List MemoV := [(123, 7, w0_4, [.row [49, 33, 17]], .poly (polyN [83, 90, 139, 153, 202, 209, 531, 538, 643, 664, 706, 720, 1035, 1049, 1091, 1112, 1217, 1224, 1546, 1553, 1602, 1616, 1665, 1672]) 0 24 6 0 18446744073709551615)]
theorem ip6_4_ok : allV Try.prog noSums ip6_4 = true := by kernel_rfl
noncomputable def ip6_5 : List MemoV := [(123, 7, w0_4, [.row [33, 17, 17, 17]], .poly (polyN [586, 593, 649, 1097]) 0 4 5 0 18446744073709551615)]
theorem ip6_5_ok : allV Try.prog noSums ip6_5 = true := by kernel_rfl
noncomputable def ip6_6 : List MemoV := [(123, 7, w0_4, [.row [33, 17, 17]], .poly (polyN [74, 81, 137, 522, 529, 578, 592, 641, 648, 1033, 1089, 1096]) 0 12 4 0 18446744073709551615)]
theorem ip6_6_ok : allV Try.prog noSums ip6_6 = true := by kernel_rfl
noncomputable def ip6_7 : List MemoV := [(123, 7, w0_3, [.row [49, 33, 17]], .poly (polyN [83, 90, 139, 153, 202, 209]) 0 6 6 0 18446744073709551615)]
theorem ip6_7_ok : allV Try.prog noSums ip6_7 = true := by kernel_rfl
noncomputable def ip6_8 : List MemoV := [(123, 7, w0_3, [.row [33, 17, 17, 17]], .lit 1)]
theorem ip6_8_ok : allV Try.prog noSums ip6_8 = true := by kernel_rfl
noncomputable def ip6_9 : List MemoV := [(123, 7, w0_3, [.row [33, 17, 17]], .poly (polyN [74, 81, 137]) 0 3 4 0 18446744073709551615)]
theorem ip6_9_ok : allV Try.prog noSums ip6_9 = true := by kernel_rfl
noncomputable def ip6_10 : List MemoV := [(123, 7, w0_3, [.row [17, 17]], .poly (polyN [9, 65, 72]) 0 3 2 0 18446744073709551615)]
theorem ip6_10_ok : allV Try.prog noSums ip6_10 = true := by kernel_rfl
noncomputable def ip6_11 : List MemoV := [(123, 7, w0_2, [.row [49, 17, 17, 17]], .lit 1)]
theorem ip6_11_ok : allV Try.prog noSums ip6_11 = true := by kernel_rfl
noncomputable def ip6_12 : List MemoV := [(123, 7, w0_2, [.row [17, 17, 17, 17, 17]], .lit 1)]
theorem ip6_12_ok : allV Try.prog noSums ip6_12 = true := by kernel_rfl
noncomputable def ip6_13 : List MemoV := [(123, 7, w0_2, [.row [17, 17, 17, 17]], .lit 1)]
theorem ip6_13_ok : allV Try.prog noSums ip6_13 = true := by kernel_rfl
noncomputable def ip6_14 : List MemoV := [(123, 7, w0_2, [.row [49]], .poly (polyN [3, 24]) 0 2 3 0 18446744073709551615)]
theorem ip6_14_ok : allV Try.prog noSums ip6_14 = true := by kernel_rfl
noncomputable def ip6_15 : List MemoV := [(123, 7, w0_1, [.row [17, 17, 17, 17, 17]], .lit 1)]
theorem ip6_15_ok : allV Try.prog noSums ip6_15 = true := by kernel_rfl
noncomputable def ip6_16 : List MemoV := [(123, 7, w0_1, [.row [17, 17, 17, 17]], .lit 1)]
theorem ip6_16_ok : allV Try.prog noSums ip6_16 = true := by kernel_rfl
noncomputable def ip6_17 : List MemoV := [(123, 7, w0_1, [.row [49]], .poly (polyN [3]) 0 1 3 0 18446744073709551615)]
theorem ip6_17_ok : allV Try.prog noSums ip6_17 = true := by kernel_rfl
noncomputable def v6plainS : Sums := onF 123 (orS (memoV ip6_0) (orS (memoV ip6_1) (orS (memoV ip6_2) (orS (memoV ip6_3) (orS (memoV ip6_4) (orS (memoV ip6_5) (orS (memoV ip6_6) (orS (memoV ip6_7) (orS (memoV ip6_8) (orS (memoV ip6_9) (orS (memoV ip6_10) (orS (memoV ip6_11) (orS (memoV ip6_12) (orS (memoV ip6_13) (orS (memoV ip6_14) (orS (memoV ip6_15) (orS (memoV ip6_16) (memoV ip6_17))))))))))))))))))
theorem v6plain_al : Always Try.prog v6plainS := onF_always (orS_always (memoV_always _ (allV_all (noSums_always _) _ ip6_0_ok)) (orS_always (memoV_always _ (allV_all (noSums_always _) _ ip6_1_ok)) (orS_always (memoV_always _ (allV_all (noSums_always _) _ ip6_2_ok)) (orS_always (memoV_always _ (allV_all (noSums_always _) _ ip6_3_ok)) (orS_always (memoV_always _ (allV_all (noSums_always _) _ ip6_4_ok)) (orS_always (memoV_always _ (allV_all (noSums_always _) _ ip6_5_ok)) (orS_always (memoV_always _ (allV_all (noSums_always _) _ ip6_6_ok)) (orS_always (memoV_always _ (allV_all (noSums_always _) _ ip6_7_ok)) (orS_always (memoV_always _ (allV_all (noSums_always _) _ ip6_8_ok)) (orS_always (memoV_always _ (allV_all (noSums_always _) _ ip6_9_ok)) (orS_always (memoV_always _ (allV_all (noSums_always _) _ ip6_10_ok)) (orS_always (memoV_always _ (allV_all (noSums_always _) _ ip6_11_ok)) (orS_always (memoV_always _ (allV_all (noSums_always _) _ ip6_12_ok)) (orS_always (memoV_always _ (allV_all (noSums_always _) _ ip6_13_ok)) (orS_always (memoV_always _ (allV_all (noSums_always _) _ ip6_14_ok)) (orS_always (memoV_always _ (allV_all (noSums_always _) _ ip6_15_ok)) (orS_always (memoV_always _ (allV_all (noSums_always _) _ ip6_16_ok)) (memoV_always _ (allV_all (noSums_always _) _ ip6_17_ok)))))))))))))))))))
end Go.Proofs.Yteapghgoiodoiaa.va
