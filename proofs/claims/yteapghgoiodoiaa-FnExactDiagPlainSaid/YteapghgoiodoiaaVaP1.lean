/- What is known of calls of the program at a seat. -/
import Derived.Test.YteapghgoiodoiaaVaH
namespace Go.Proofs.Yteapghgoiodoiaa.va
open Go Go.Eng
set_option linter.unusedVariables false
set_option linter.unusedSectionVars false
set_option linter.unusedSimpArgs false
set_option maxRecDepth 100000
noncomputable def ip1_0 : List MemoV := [(123, 7, w0_5, [.row [33, 17, 17, 17, 17]], .poly (polyN [4682, 4689, 4745, 5193, 8777]) 0 5 6 0 18446744073709551615)]
theorem ip1_0_ok : allV Try.prog noSums ip1_0 = true := by kernel_rfl
noncomputable def ip1_1 : List MemoV := [(123, 7, w0_5, [.row [65, 33]], .poly (polyN [20, 34, 132, 160, 258, 272, 1028, 1056, 1280, 2050, 2064, 2176, 8196, 8224, 8448, 10240, 16386, 16400, 16512, 17408]) 0 20 6 0 18446744073709551615)]
theorem ip1_1_ok : allV Try.prog noSums ip1_1 = true := by kernel_rfl
noncomputable def ip1_2 : List MemoV := [(123, 7, w0_5, [.row [17, 17, 17]], .poly (polyN [73, 521, 577, 584, 4105, 4161, 4168, 4609, 4616, 4672]) 0 10 3 0 18446744073709551615)]
theorem ip1_2_ok : allV Try.prog noSums ip1_2 = true := by kernel_rfl
noncomputable def ip1_3 : List MemoV := [(123, 7, w0_4, [.row [33, 17, 17, 17, 17]], .lit 1)]
theorem ip1_3_ok : allV Try.prog noSums ip1_3 = true := by kernel_rfl
noncomputable def ip1_4 : List MemoV := [(123, 7, w0_4, [.row [65, 33]], .poly (polyN [20, 34, 132, 160, 258, 272, 1028, 1056, 1280, 2050, 2064, 2176]) 0 12 6 0 18446744073709551615)]
theorem ip1_4_ok : allV Try.prog noSums ip1_4 = true := by kernel_rfl
noncomputable def ip1_5 : List MemoV := [(123, 7, w0_4, [.row [49, 33]], .poly (polyN [19, 26, 131, 152, 194, 208, 1027, 1048, 1216, 1538, 1552, 1664]) 0 12 5 0 18446744073709551615)]
theorem ip1_5_ok : allV Try.prog noSums ip1_5 = true := by kernel_rfl
noncomputable def ip1_6 : List MemoV := [(123, 7, w0_4, [.row [65]], .poly (polyN [4, 32, 256, 2048]) 0 4 4 0 18446744073709551615)]
theorem ip1_6_ok : allV Try.prog noSums ip1_6 = true := by kernel_rfl
noncomputable def ip1_7 : List MemoV := [(123, 7, w0_3, [.row [17, 17, 17, 17, 17, 17]], .lit 1)]
theorem ip1_7_ok : allV Try.prog noSums ip1_7 = true := by kernel_rfl
noncomputable def ip1_8 : List MemoV := [(123, 7, w0_3, [.row [65, 17, 17]], .poly (polyN [76, 97, 265]) 0 3 6 0 18446744073709551615)]
theorem ip1_8_ok : allV Try.prog noSums ip1_8 = true := by kernel_rfl
noncomputable def ip1_9 : List MemoV := [(123, 7, w0_3, [.row [49, 17, 17]], .poly (polyN [75, 89, 201]) 0 3 5 0 18446744073709551615)]
theorem ip1_9_ok : allV Try.prog noSums ip1_9 = true := by kernel_rfl
noncomputable def ip1_10 : List MemoV := [(123, 7, w0_2, [.row [17, 17, 17, 17, 17, 17]], .lit 1)]
theorem ip1_10_ok : allV Try.prog noSums ip1_10 = true := by kernel_rfl
noncomputable def ip1_11 : List MemoV := [(123, 7, w0_2, [.row [65, 17, 17]], .lit 1)]
theorem ip1_11_ok : allV Try.prog noSums ip1_11 = true := by kernel_rfl
noncomputable def ip1_12 : List MemoV := [(123, 7, w0_2, [.row [49, 17, 17]], .lit 1)]
theorem ip1_12_ok : allV Try.prog noSums ip1_12 = true := by kernel_rfl
noncomputable def ip1_13 : List MemoV := [(123, 7, w0_2, [.row [49, 17]], .poly (polyN [11, 25]) 0 2 4 0 18446744073709551615)]
theorem ip1_13_ok : allV Try.prog noSums ip1_13 = true := by kernel_rfl
noncomputable def ip1_14 : List MemoV := [(123, 7, w0_2, [.row [17]], .poly (polyN [1, 8]) 0 2 1 0 18446744073709551615)]
theorem ip1_14_ok : allV Try.prog noSums ip1_14 = true := by kernel_rfl
noncomputable def ip1_15 : List MemoV := [(123, 7, w0_1, [.row [49, 49]], .lit 1)]
theorem ip1_15_ok : allV Try.prog noSums ip1_15 = true := by kernel_rfl
noncomputable def ip1_16 : List MemoV := [(123, 7, w0_1, [.row [33, 33, 17]], .lit 1)]
theorem ip1_16_ok : allV Try.prog noSums ip1_16 = true := by kernel_rfl
noncomputable def ip1_17 : List MemoV := [(123, 7, w0_1, [.row [33, 33]], .lit 1)]
theorem ip1_17_ok : allV Try.prog noSums ip1_17 = true := by kernel_rfl
noncomputable def v1plainS : Sums := onF 123 (orS (memoV ip1_0) (orS (memoV ip1_1) (orS (memoV ip1_2) (orS (memoV ip1_3) (orS (memoV ip1_4) (orS (memoV ip1_5) (orS (memoV ip1_6) (orS (memoV ip1_7) (orS (memoV ip1_8) (orS (memoV ip1_9) (orS (memoV ip1_10) (orS (memoV ip1_11) (orS (memoV ip1_12) (orS (memoV ip1_13) (orS (memoV ip1_14) (orS (memoV ip1_15) (orS (memoV ip1_16) (memoV ip1_17))))))))))))))))))
theorem v1plain_al : Always Try.prog v1plainS := onF_always (orS_always (memoV_always _ (allV_all (noSums_always _) _ ip1_0_ok)) (orS_always (memoV_always _ (allV_all (noSums_always _) _ ip1_1_ok)) (orS_always (memoV_always _ (allV_all (noSums_always _) _ ip1_2_ok)) (orS_always (memoV_always _ (allV_all (noSums_always _) _ ip1_3_ok)) (orS_always (memoV_always _ (allV_all (noSums_always _) _ ip1_4_ok)) (orS_always (memoV_always _ (allV_all (noSums_always _) _ ip1_5_ok)) (orS_always (memoV_always _ (allV_all (noSums_always _) _ ip1_6_ok)) (orS_always (memoV_always _ (allV_all (noSums_always _) _ ip1_7_ok)) (orS_always (memoV_always _ (allV_all (noSums_always _) _ ip1_8_ok)) (orS_always (memoV_always _ (allV_all (noSums_always _) _ ip1_9_ok)) (orS_always (memoV_always _ (allV_all (noSums_always _) _ ip1_10_ok)) (orS_always (memoV_always _ (allV_all (noSums_always _) _ ip1_11_ok)) (orS_always (memoV_always _ (allV_all (noSums_always _) _ ip1_12_ok)) (orS_always (memoV_always _ (allV_all (noSums_always _) _ ip1_13_ok)) (orS_always (memoV_always _ (allV_all (noSums_always _) _ ip1_14_ok)) (orS_always (memoV_always _ (allV_all (noSums_always _) _ ip1_15_ok)) (orS_always (memoV_always _ (allV_all (noSums_always _) _ ip1_16_ok)) (memoV_always _ (allV_all (noSums_always _) _ ip1_17_ok)))))))))))))))))))
end Go.Proofs.Yteapghgoiodoiaa.va
