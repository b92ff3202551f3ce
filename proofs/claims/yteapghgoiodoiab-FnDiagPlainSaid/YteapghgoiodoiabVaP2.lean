/- What is known of calls of the program at a seat. -/
import Derived.Test.YteapghgoiodoiabVaH
namespace Go.Proofs.Yteapghgoiodoiab.va
open Go Go.Eng
set_option linter.unusedVariables false
set_option linter.unusedSectionVars false
set_option linter.unusedSimpArgs false
set_option maxRecDepth 100000
noncomputable def ip2_0 : List MemoV := [(137, 7, w0_4, [.row [33, 33, 17, 17]], .poly (polyN [594, 650, 657, 1098, 1105, 1161]) 0 6 6 0 18446744073709551615)]
theorem ip2_0_ok : allV Try.prog noSums ip2_0 = true := by kernel_rfl
noncomputable def ip2_1 : List MemoV := [(137, 7, w0_4, [.row [49, 33, 17]], .poly (polyN [83, 90, 139, 153, 202, 209, 531, 538, 643, 664, 706, 720, 1035, 1049, 1091, 1112, 1217, 1224, 1546, 1553, 1602, 1616, 1665, 1672]) 0 24 6 0 18446744073709551615)]
theorem ip2_1_ok : allV Try.prog noSums ip2_1 = true := by kernel_rfl
noncomputable def ip2_2 : List MemoV := [(137, 7, w0_4, [.row [65, 33]], .poly (polyN [20, 34, 132, 160, 258, 272, 1028, 1056, 1280, 2050, 2064, 2176]) 0 12 6 0 18446744073709551615)]
theorem ip2_2_ok : allV Try.prog noSums ip2_2 = true := by kernel_rfl
noncomputable def ip2_3 : List MemoV := [(137, 7, w0_4, [.row [49, 33]], .poly (polyN [19, 26, 131, 152, 194, 208, 1027, 1048, 1216, 1538, 1552, 1664]) 0 12 5 0 18446744073709551615)]
theorem ip2_3_ok : allV Try.prog noSums ip2_3 = true := by kernel_rfl
noncomputable def ip2_4 : List MemoV := [(137, 7, w0_4, [.row [17, 17, 17, 17]], .poly (polyN [585]) 0 1 4 0 18446744073709551615)]
theorem ip2_4_ok : allV Try.prog noSums ip2_4 = true := by kernel_rfl
noncomputable def ip2_5 : List MemoV := [(137, 7, w0_4, [.row [49, 17]], .poly (polyN [11, 25, 67, 88, 193, 200, 515, 536, 704, 1537, 1544, 1600]) 0 12 4 0 18446744073709551615)]
theorem ip2_5_ok : allV Try.prog noSums ip2_5 = true := by kernel_rfl
noncomputable def ip2_6 : List MemoV := [(137, 7, w0_4, [.row [33, 17]], .poly (polyN [10, 17, 66, 80, 129, 136, 514, 528, 640, 1025, 1032, 1088]) 0 12 3 0 18446744073709551615)]
theorem ip2_6_ok : allV Try.prog noSums ip2_6 = true := by kernel_rfl
noncomputable def ip2_7 : List MemoV := [(137, 7, w0_3, [.row [33, 33, 17, 17]], .lit 1)]
theorem ip2_7_ok : allV Try.prog noSums ip2_7 = true := by kernel_rfl
noncomputable def ip2_8 : List MemoV := [(137, 7, w0_3, [.row [49, 33, 17]], .poly (polyN [83, 90, 139, 153, 202, 209]) 0 6 6 0 18446744073709551615)]
theorem ip2_8_ok : allV Try.prog noSums ip2_8 = true := by kernel_rfl
noncomputable def ip2_9 : List MemoV := [(137, 7, w0_3, [.row [65, 33]], .poly (polyN [20, 34, 132, 160, 258, 272]) 0 6 6 0 18446744073709551615)]
theorem ip2_9_ok : allV Try.prog noSums ip2_9 = true := by kernel_rfl
noncomputable def ip2_10 : List MemoV := [(137, 7, w0_3, [.row [17, 17, 17, 17, 17]], .lit 1)]
theorem ip2_10_ok : allV Try.prog noSums ip2_10 = true := by kernel_rfl
noncomputable def ip2_11 : List MemoV := [(137, 7, w0_3, [.row [17, 17, 17, 17]], .lit 1)]
theorem ip2_11_ok : allV Try.prog noSums ip2_11 = true := by kernel_rfl
noncomputable def ip2_12 : List MemoV := [(137, 7, w0_3, [.row [49, 17]], .poly (polyN [11, 25, 67, 88, 193, 200]) 0 6 4 0 18446744073709551615)]
theorem ip2_12_ok : allV Try.prog noSums ip2_12 = true := by kernel_rfl
noncomputable def ip2_13 : List MemoV := [(137, 7, w0_3, [.row [33, 17]], .poly (polyN [10, 17, 66, 80, 129, 136]) 0 6 3 0 18446744073709551615)]
theorem ip2_13_ok : allV Try.prog noSums ip2_13 = true := by kernel_rfl
noncomputable def ip2_14 : List MemoV := [(137, 7, w0_3, [.row [33]], .poly (polyN [2, 16, 128]) 0 3 2 0 18446744073709551615)]
theorem ip2_14_ok : allV Try.prog noSums ip2_14 = true := by kernel_rfl
noncomputable def ip2_15 : List MemoV := [(137, 7, w0_2, [.row [49, 33, 17]], .lit 1)]
theorem ip2_15_ok : allV Try.prog noSums ip2_15 = true := by kernel_rfl
noncomputable def ip2_16 : List MemoV := [(137, 7, w0_2, [.row [65, 33]], .poly (polyN [20, 34]) 0 2 6 0 18446744073709551615)]
theorem ip2_16_ok : allV Try.prog noSums ip2_16 = true := by kernel_rfl
noncomputable def ip2_17 : List MemoV := [(137, 7, w0_2, [.row [17, 17, 17, 17, 17]], .lit 1)]
theorem ip2_17_ok : allV Try.prog noSums ip2_17 = true := by kernel_rfl
noncomputable def ip2_18 : List MemoV := [(137, 7, w0_2, [.row [49, 17, 17]], .lit 1)]
theorem ip2_18_ok : allV Try.prog noSums ip2_18 = true := by kernel_rfl
noncomputable def ip2_19 : List MemoV := [(137, 7, w0_2, [.row [49, 17]], .poly (polyN [11, 25]) 0 2 4 0 18446744073709551615)]
theorem ip2_19_ok : allV Try.prog noSums ip2_19 = true := by kernel_rfl
noncomputable def ip2_20 : List MemoV := [(137, 7, w0_2, [.row [33, 17]], .poly (polyN [10, 17]) 0 2 3 0 18446744073709551615)]
theorem ip2_20_ok : allV Try.prog noSums ip2_20 = true := by kernel_rfl
noncomputable def ip2_21 : List MemoV := [(137, 7, w0_2, [.row [33]], .poly (polyN [2, 16]) 0 2 2 0 18446744073709551615)]
theorem ip2_21_ok : allV Try.prog noSums ip2_21 = true := by kernel_rfl
noncomputable def ip2_22 : List MemoV := [(137, 7, w0_1, [.row [33, 17, 17, 17, 17]], .lit 1)]
theorem ip2_22_ok : allV Try.prog noSums ip2_22 = true := by kernel_rfl
noncomputable def ip2_23 : List MemoV := [(137, 7, w0_1, [.row [65, 33]], .lit 1)]
theorem ip2_23_ok : allV Try.prog noSums ip2_23 = true := by kernel_rfl
noncomputable def ip2_24 : List MemoV := [(137, 7, w0_1, [.row [17, 17, 17, 17, 17]], .lit 1)]
theorem ip2_24_ok : allV Try.prog noSums ip2_24 = true := by kernel_rfl
noncomputable def ip2_25 : List MemoV := [(137, 7, w0_1, [.row [49, 17, 17]], .lit 1)]
theorem ip2_25_ok : allV Try.prog noSums ip2_25 = true := by kernel_rfl
noncomputable def ip2_26 : List MemoV := [(137, 7, w0_1, [.row [81]], .poly (polyN [5]) 0 1 5 0 18446744073709551615)]
theorem ip2_26_ok : allV Try.prog noSums ip2_26 = true := by kernel_rfl
noncomputable def ip2_27 : List MemoV := [(137, 7, w0_1, [.row [33, 17]], .lit 1)]
theorem ip2_27_ok : allV Try.prog noSums ip2_27 = true := by kernel_rfl
noncomputable def ip2_28 : List MemoV := [(137, 7, w0_1, [.row [33]], .poly (polyN [2]) 0 1 2 0 18446744073709551615)]
theorem ip2_28_ok : allV Try.prog noSums ip2_28 = true := by kernel_rfl
noncomputable def v2plainS : Sums := onF 137 (orS (memoV ip2_0) (orS (memoV ip2_1) (orS (memoV ip2_2) (orS (memoV ip2_3) (orS (memoV ip2_4) (orS (memoV ip2_5) (orS (memoV ip2_6) (orS (memoV ip2_7) (orS (memoV ip2_8) (orS (memoV ip2_9) (orS (memoV ip2_10) (orS (memoV ip2_11) (orS (memoV ip2_12) (orS (memoV ip2_13) (orS (memoV ip2_14) (orS (memoV ip2_15) (orS (memoV ip2_16) (orS (memoV ip2_17) (orS (memoV ip2_18) (orS (memoV ip2_19) (orS (memoV ip2_20) (orS (memoV ip2_21) (orS (memoV ip2_22) (orS (memoV ip2_23) (orS (memoV ip2_24) (orS (memoV ip2_25) (orS (memoV ip2_26) (orS (memoV ip2_27) (memoV ip2_28)))))))))))))))))))))))))))))
theorem v2plain_al : Always Try.prog v2plainS := onF_always (orS_always (memoV_always _ (allV_all (noSums_always _) _ ip2_0_ok)) (orS_always (memoV_always _ (allV_all (noSums_always _) _ ip2_1_ok)) (orS_always (memoV_always _ (allV_all (noSums_always _) _ ip2_2_ok)) (orS_always (memoV_always _ (allV_all (noSums_always _) _ ip2_3_ok)) (orS_always (memoV_always _ (allV_all (noSums_always _) _ ip2_4_ok)) (orS_always (memoV_always _ (allV_all (noSums_always _) _ ip2_5_ok)) (orS_always (memoV_always _ (allV_all (noSums_always _) _ ip2_6_ok)) (orS_always (memoV_always _ (allV_all (noSums_always _) _ ip2_7_ok)) (orS_always (memoV_always _ (allV_all (noSums_always _) _ ip2_8_ok)) (orS_always (memoV_always _ (allV_all (noSums_always _) _ ip2_9_ok)) (orS_always (memoV_always _ (allV_all (noSums_always _) _ ip2_10_ok)) (orS_always (memoV_always _ (allV_all (noSums_always _) _ ip2_11_ok)) (orS_always (memoV_always _ (allV_all (noSums_always _) _ ip2_12_ok)) (orS_always (memoV_always _ (allV_all (noSums_always _) _ ip2_13_ok)) (orS_always (memoV_always _ (allV_all (noSums_always _) _ ip2_14_ok)) (orS_always (memoV_always _ (allV_all (noSums_always _) _ ip2_15_ok)) (orS_always (memoV_always _ (allV_all (noSums_always _) _ ip2_16_ok)) (orS_always (memoV_always _ (allV_all (noSums_always _) _ ip2_17_ok)) (orS_always (memoV_always _ (allV_all (noSums_always _) _ ip2_18_ok)) (orS_always (memoV_always _ (allV_all (noSums_always _) _ ip2_19_ok)) (orS_always (memoV_always _ (allV_all (noSums_always _) _ ip2_20_ok)) (orS_always (memoV_always _ (allV_all (noSums_always _) _ ip2_21_ok)) (orS_always (memoV_always _ (allV_all (noSums_always _) _ ip2_22_ok)) (orS_always (memoV_always _ (allV_all (noSums_always _) _ ip2_23_ok)) (orS_always (memoV_always _ (allV_all (noSums_always _) _ ip2_24_ok)) (orS_always (memoV_always _ (allV_all (noSums_always _) _ ip2_25_ok)) (orS_always (memoV_always _ (allV_all (noSums_always _) _ ip2_26_ok)) (orS_always (memoV_always _ (allV_all (noSums_always _) _ ip2_27_ok)) (memoV_always _ (allV_all (noSums_always _) _ ip2_28_ok))))))))))))))))))))))))))))))
end Go.Proofs.Yteapghgoiodoiab.va
