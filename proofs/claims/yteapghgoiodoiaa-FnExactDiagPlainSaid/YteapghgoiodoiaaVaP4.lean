/- What is known of calls of the program at a seat. -/
import Derived.Test.YteapghgoiodoiaaVaH
namespace Go.Proofs.Yteapghgoiodoiaa.va
open Go Go.Eng
set_option linter.unusedVariables false
set_option linter.unusedSectionVars false
set_option linter.unusedSimpArgs false
set_option maxRecDepth 100000
noncomputable def ip4_0 : List MemoV := [(123, 7, w0_5, [.row [49, 17, 17, 17]], .poly (polyN [587, 601, 713, 1609, 4171, 4185, 4297, 4619, 4633, 4675, 4696, 4801, 4808, 5641, 5697, 5704, 12361, 12809, 12865, 12872]) 0 20 6 0 18446744073709551615)]
theorem ip4_0_ok : allV Try.prog noSums ip4_0 = true := by kernel_rfl
noncomputable def ip4_1 : List MemoV := [(123, 7, w0_5, [.row [17, 17, 17, 17, 17]], .poly (polyN [4681]) 0 1 5 0 18446744073709551615)]
theorem ip4_1_ok : allV Try.prog noSums ip4_1 = true := by kernel_rfl
noncomputable def ip4_2 : List MemoV := [(123, 7, w0_5, [.row [17, 17, 17, 17]], .poly (polyN [585, 4169, 4617, 4673, 4680]) 0 5 4 0 18446744073709551615)]
theorem ip4_2_ok : allV Try.prog noSums ip4_2 = true := by kernel_rfl
noncomputable def ip4_3 : List MemoV := [(123, 7, w0_5, [.row [49]], .poly (polyN [3, 24, 192, 1536, 12288]) 0 5 3 0 18446744073709551615)]
theorem ip4_3_ok : allV Try.prog noSums ip4_3 = true := by kernel_rfl
noncomputable def ip4_4 : List MemoV := [(123, 7, w0_4, [.row [33, 33, 33]], .poly (polyN [146, 1042, 1154, 1168]) 0 4 6 0 18446744073709551615)]
theorem ip4_4_ok : allV Try.prog noSums ip4_4 = true := by kernel_rfl
noncomputable def ip4_5 : List MemoV := [(123, 7, w0_4, [.row [17, 17, 17, 17]], .poly (polyN [585]) 0 1 4 0 18446744073709551615)]
theorem ip4_5_ok : allV Try.prog noSums ip4_5 = true := by kernel_rfl
noncomputable def ip4_6 : List MemoV := [(123, 7, w0_4, [.row [49]], .poly (polyN [3, 24, 192, 1536]) 0 4 3 0 18446744073709551615)]
theorem ip4_6_ok : allV Try.prog noSums ip4_6 = true := by kernel_rfl
noncomputable def ip4_7 : List MemoV := [(123, 7, w0_3, [.row [33, 33, 33]], .poly (polyN [146]) 0 1 6 0 18446744073709551615)]
theorem ip4_7_ok : allV Try.prog noSums ip4_7 = true := by kernel_rfl
noncomputable def ip4_8 : List MemoV := [(123, 7, w0_3, [.row [97]], .poly (polyN [6, 48, 384]) 0 3 6 0 18446744073709551615)]
theorem ip4_8_ok : allV Try.prog noSums ip4_8 = true := by kernel_rfl
noncomputable def ip4_9 : List MemoV := [(123, 7, w0_3, [.row [81]], .poly (polyN [5, 40, 320]) 0 3 5 0 18446744073709551615)]
theorem ip4_9_ok : allV Try.prog noSums ip4_9 = true := by kernel_rfl
noncomputable def ip4_10 : List MemoV := [(123, 7, w0_3, [.row [33, 17]], .poly (polyN [10, 17, 66, 80, 129, 136]) 0 6 3 0 18446744073709551615)]
theorem ip4_10_ok : allV Try.prog noSums ip4_10 = true := by kernel_rfl
noncomputable def ip4_11 : List MemoV := [(123, 7, w0_2, [.row [33, 33, 17, 17]], .lit 1)]
theorem ip4_11_ok : allV Try.prog noSums ip4_11 = true := by kernel_rfl
noncomputable def ip4_12 : List MemoV := [(123, 7, w0_2, [.row [81, 17]], .poly (polyN [13, 41]) 0 2 6 0 18446744073709551615)]
theorem ip4_12_ok : allV Try.prog noSums ip4_12 = true := by kernel_rfl
noncomputable def ip4_13 : List MemoV := [(123, 7, w0_2, [.row [33, 17]], .poly (polyN [10, 17]) 0 2 3 0 18446744073709551615)]
theorem ip4_13_ok : allV Try.prog noSums ip4_13 = true := by kernel_rfl
noncomputable def ip4_14 : List MemoV := [(123, 7, w0_1, [.row [33, 33, 17, 17]], .lit 1)]
theorem ip4_14_ok : allV Try.prog noSums ip4_14 = true := by kernel_rfl
noncomputable def ip4_15 : List MemoV := [(123, 7, w0_1, [.row [81, 17]], .lit 1)]
theorem ip4_15_ok : allV Try.prog noSums ip4_15 = true := by kernel_rfl
noncomputable def ip4_16 : List MemoV := [(123, 7, w0_1, [.row [65, 17]], .lit 1)]
theorem ip4_16_ok : allV Try.prog noSums ip4_16 = true := by kernel_rfl
noncomputable def ip4_17 : List MemoV := [(123, 7, w0_1, [.row [17, 17, 17]], .lit 1)]
theorem ip4_17_ok : allV Try.prog noSums ip4_17 = true := by kernel_rfl
noncomputable def v4plainS : Sums := onF 123 (orS (memoV ip4_0) (orS (memoV ip4_1) (orS (memoV ip4_2) (orS (memoV ip4_3) (orS (memoV ip4_4) (orS (memoV ip4_5) (orS (memoV ip4_6) (orS (memoV ip4_7) (orS (memoV ip4_8) (orS (memoV ip4_9) (orS (memoV ip4_10) (orS (memoV ip4_11) (orS (memoV ip4_12) (orS (memoV ip4_13) (orS (memoV ip4_14) (orS (memoV ip4_15) (orS (memoV ip4_16) (memoV ip4_17))))))))))))))))))
theorem v4plain_al : Always Try.prog v4plainS := onF_always (orS_always (memoV_always _ (allV_all (noSums_always _) _ ip4_0_ok)) (orS_always (memoV_always _ (allV_all (noSums_always _) _ ip4_1_ok)) (orS_always (memoV_always _ (allV_all (noSums_always _) _ ip4_2_ok)) (orS_always (memoV_always _ (allV_all (noSums_always _) _ ip4_3_ok)) (orS_always (memoV_always _ (allV_all (noSums_always _) _ ip4_4_ok)) (orS_always (memoV_always _ (allV_all (noSums_always _) _ ip4_5_ok)) (orS_always (memoV_always _ (allV_all (noSums_always _) _ ip4_6_ok)) (orS_always (memoV_always _ (allV_all (noSums_always _) _ ip4_7_ok)) (orS_always (memoV_always _ (allV_all (noSums_always _) _ ip4_8_ok)) (orS_always (memoV_always _ (allV_all (noSums_always _) _ ip4_9_ok)) (orS_always (memoV_always _ (allV_all (noSums_always _) _ ip4_10_ok)) (orS_always (memoV_always _ (allV_all (noSums_always _) _ ip4_11_ok)) (orS_always (memoV_always _ (allV_all (noSums_always _) _ ip4_12_ok)) (orS_always (memoV_always _ (allV_all (noSums_always _) _ ip4_13_ok)) (orS_always (memoV_always _ (allV_all (noSums_always _) _ ip4_14_ok)) (orS_always (memoV_always _ (allV_all (noSums_always _) _ ip4_15_ok)) (orS_always (memoV_always _ (allV_all (noSums_always _) _ ip4_16_ok)) (memoV_always _ (allV_all (noSums_always _) _ ip4_17_ok)))))))))))))))))))
end Go.Proofs.Yteapghgoiodoiaa.va
