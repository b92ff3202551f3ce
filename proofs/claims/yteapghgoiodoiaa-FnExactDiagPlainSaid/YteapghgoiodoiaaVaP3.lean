/- What is known of calls of the program at a seat. -/
import Derived.Test.YteapghgoiodoiaaVaH
namespace Go.Proofs.Yteapghgoiodoiaa.va
open Go Go.Eng
set_option linter.unusedVariables false
set_option linter.unusedSectionVars false
set_option linter.unusedSimpArgs false
set_option maxRecDepth 100000
noncomputable def ip3_0 : List MemoV := [(123, 7, w0_5, [.row [33, 33, 33]], .poly (polyN [146, 1042, 1154, 1168, 8210, 8322, 8336, 9218, 9232, 9344]) 0 10 6 0 18446744073709551615)]
theorem ip3_0_ok : allV Try.prog noSums ip3_0 = true := by kernel_rfl
noncomputable def ip3_1 : List MemoV := [(123, 7, w0_5, [.row [97]], .poly (polyN [6, 48, 384, 3072, 24576]) 0 5 6 0 18446744073709551615)]
theorem ip3_1_ok : allV Try.prog noSums ip3_1 = true := by kernel_rfl
noncomputable def ip3_2 : List MemoV := [(123, 7, w0_5, [.row [81]], .poly (polyN [5, 40, 320, 2560, 20480]) 0 5 5 0 18446744073709551615)]
theorem ip3_2_ok : allV Try.prog noSums ip3_2 = true := by kernel_rfl
noncomputable def ip3_3 : List MemoV := [(123, 7, w0_5, [.row [33, 17]], .poly (polyN [10, 17, 66, 80, 129, 136, 514, 528, 640, 1025, 1032, 1088, 4098, 4112, 4224, 5120, 8193, 8200, 8256, 8704]) 0 20 3 0 18446744073709551615)]
theorem ip3_3_ok : allV Try.prog noSums ip3_3 = true := by kernel_rfl
noncomputable def ip3_4 : List MemoV := [(123, 7, w0_4, [.row [97]], .poly (polyN [6, 48, 384, 3072]) 0 4 6 0 18446744073709551615)]
theorem ip3_4_ok : allV Try.prog noSums ip3_4 = true := by kernel_rfl
noncomputable def ip3_5 : List MemoV := [(123, 7, w0_4, [.row [81]], .poly (polyN [5, 40, 320, 2560]) 0 4 5 0 18446744073709551615)]
theorem ip3_5_ok : allV Try.prog noSums ip3_5 = true := by kernel_rfl
noncomputable def ip3_6 : List MemoV := [(123, 7, w0_4, [.row [33, 17]], .poly (polyN [10, 17, 66, 80, 129, 136, 514, 528, 640, 1025, 1032, 1088]) 0 12 3 0 18446744073709551615)]
theorem ip3_6_ok : allV Try.prog noSums ip3_6 = true := by kernel_rfl
noncomputable def ip3_7 : List MemoV := [(123, 7, w0_3, [.row [33, 33, 17, 17]], .lit 1)]
theorem ip3_7_ok : allV Try.prog noSums ip3_7 = true := by kernel_rfl
noncomputable def ip3_8 : List MemoV := [(123, 7, w0_3, [.row [81, 17]], .poly (polyN [13, 41, 69, 104, 321, 328]) 0 6 6 0 18446744073709551615)]
theorem ip3_8_ok : allV Try.prog noSums ip3_8 = true := by kernel_rfl
noncomputable def ip3_9 : List MemoV := [(123, 7, w0_3, [.row [65, 17]], .poly (polyN [12, 33, 68, 96, 257, 264]) 0 6 5 0 18446744073709551615)]
theorem ip3_9_ok : allV Try.prog noSums ip3_9 = true := by kernel_rfl
noncomputable def ip3_10 : List MemoV := [(123, 7, w0_3, [.row [17, 17, 17]], .poly (polyN [73]) 0 1 3 0 18446744073709551615)]
theorem ip3_10_ok : allV Try.prog noSums ip3_10 = true := by kernel_rfl
noncomputable def ip3_11 : List MemoV := [(123, 7, w0_2, [.row [33, 17, 17, 17, 17]], .lit 1)]
theorem ip3_11_ok : allV Try.prog noSums ip3_11 = true := by kernel_rfl
noncomputable def ip3_12 : List MemoV := [(123, 7, w0_2, [.row [65, 17]], .poly (polyN [12, 33]) 0 2 5 0 18446744073709551615)]
theorem ip3_12_ok : allV Try.prog noSums ip3_12 = true := by kernel_rfl
noncomputable def ip3_13 : List MemoV := [(123, 7, w0_2, [.row [17, 17, 17]], .lit 1)]
theorem ip3_13_ok : allV Try.prog noSums ip3_13 = true := by kernel_rfl
noncomputable def ip3_14 : List MemoV := [(123, 7, w0_1, [.row [33, 17, 17, 17, 17]], .lit 1)]
theorem ip3_14_ok : allV Try.prog noSums ip3_14 = true := by kernel_rfl
noncomputable def ip3_15 : List MemoV := [(123, 7, w0_1, [.row [65, 33]], .lit 1)]
theorem ip3_15_ok : allV Try.prog noSums ip3_15 = true := by kernel_rfl
noncomputable def ip3_16 : List MemoV := [(123, 7, w0_1, [.row [49, 33]], .lit 1)]
theorem ip3_16_ok : allV Try.prog noSums ip3_16 = true := by kernel_rfl
noncomputable def ip3_17 : List MemoV := [(123, 7, w0_1, [.row [65]], .poly (polyN [4]) 0 1 4 0 18446744073709551615)]
theorem ip3_17_ok : allV Try.prog noSums ip3_17 = true := by kernel_rfl
noncomputable def v3plainS : Sums := onF 123 (orS (memoV ip3_0) (orS (memoV ip3_1) (orS (memoV ip3_2) (orS (memoV ip3_3) (orS (memoV ip3_4) (orS (memoV ip3_5) (orS (memoV ip3_6) (orS (memoV ip3_7) (orS (memoV ip3_8) (orS (memoV ip3_9) (orS (memoV ip3_10) (orS (memoV ip3_11) (orS (memoV ip3_12) (orS (memoV ip3_13) (orS (memoV ip3_14) (orS (memoV ip3_15) (orS (memoV ip3_16) (memoV ip3_17))))))))))))))))))
theorem v3plain_al : Always Try.prog v3plainS := onF_always (orS_always (memoV_always _ (allV_all (noSums_always _) _ ip3_0_ok)) (orS_always (memoV_always _ (allV_all (noSums_always _) _ ip3_1_ok)) (orS_always (memoV_always _ (allV_all (noSums_always _) _ ip3_2_ok)) (orS_always (memoV_always _ (allV_all (noSums_always _) _ ip3_3_ok)) (orS_always (memoV_always _ (allV_all (noSums_always _) _ ip3_4_ok)) (orS_always (memoV_always _ (allV_all (noSums_always _) _ ip3_5_ok)) (orS_always (memoV_always _ (allV_all (noSums_always _) _ ip3_6_ok)) (orS_always (memoV_always _ (allV_all (noSums_always _) _ ip3_7_ok)) (orS_always (memoV_always _ (allV_all (noSums_always _) _ ip3_8_ok)) (orS_always (memoV_always _ (allV_all (noSums_always _) _ ip3_9_ok)) (orS_always (memoV_always _ (allV_all (noSums_always _) _ ip3_10_ok)) (orS_always (memoV_always _ (allV_all (noSums_always _) _ ip3_11_ok)) (orS_always (memoV_always _ (allV_all (noSums_always _) _ ip3_12_ok)) (orS_always (memoV_always _ (allV_all (noSums_always _) _ ip3_13_ok)) (orS_always (memoV_always _ (allV_all (noSums_always _) _ ip3_14_ok)) (orS_always (memoV_always _ (allV_all (noSums_always _) _ ip3_15_ok)) (orS_always (memoV_always _ (allV_all (noSums_always _) _ ip3_16_ok)) (memoV_always _ (allV_all (noSums_always _) _ ip3_17_ok)))))))))))))))))))
end Go.Proofs.Yteapghgoiodoiaa.va
