/- What is known of calls of the program at a seat. -/
import Derived.Test.YteapghgoiodoiabVaH
namespace Go.Proofs.Yteapghgoiodoiab.va
open Go Go.Eng
set_option linter.unusedVariables false
set_option linter.unusedSectionVars false
set_option linter.unusedSimpArgs false
set_option maxRecDepth 100000
noncomputable def id0_0 : List MemoV := [(49, 7, w0_4, [.row [17, 17, 17, 17, 17, 17]], .lit 1)]
theorem id0_0_ok : allV Try.prog noSums id0_0 = true := by kernel_rfl
noncomputable def id0_1 : List MemoV := [(49, 7, w0_4, [.row [65, 17, 17]], .poly (polyN [76, 83, 90, 97, 139, 146, 153, 202, 209, 265, 524, 531, 538, 545, 580, 587, 587, 587, 594, 594, 594, 601, 601, 601, 608, 643, 650, 650, 650, 657, 657, 657, 664, 706, 713, 713, 713, 720, 769, 776, 1035, 1042, 1049, 1091, 1098, 1098, 1098, 1105, 1105, 1105, 1112, 1154, 1161, 1161, 1161, 1168, 1217, 1224, 1546, 1553, 1602, 1609, 1609, 1609, 1616, 1665, 1672, 2057, 2113, 2120]) 0 70 6 0 18446744073709551615)]
theorem id0_1_ok : allV Try.prog noSums id0_1 = true := by kernel_rfl
noncomputable def id0_2 : List MemoV := [(49, 7, w0_4, [.row [97]], .poly (polyN [6, 13, 20, 27, 34, 41, 48, 69, 76, 83, 90, 97, 104, 132, 139, 146, 153, 160, 195, 202, 209, 216, 258, 265, 272, 321, 328, 384, 517, 524, 531, 538, 545, 552, 580, 587, 594, 601, 608, 643, 650, 657, 664, 706, 713, 720, 769, 776, 832, 1028, 1035, 1042, 1049, 1056, 1091, 1098, 1105, 1112, 1154, 1161, 1168, 1217, 1224, 1280, 1539, 1546, 1553, 1560, 1602, 1609, 1616, 1665, 1672, 1728, 2050, 2057, 2064, 2113, 2120, 2176, 2561, 2568, 2624, 3072]) 0 84 6 0 18446744073709551615)]
theorem id0_2_ok : allV Try.prog noSums id0_2 = true := by kernel_rfl
noncomputable def id0_3 : List MemoV := [(49, 7, w0_4, [.row [33, 33, 17]], .poly (polyN [82, 138, 145, 530, 586, 586, 593, 593, 642, 649, 649, 656, 1034, 1041, 1090, 1097, 1097, 1104, 1153, 1160]) 0 20 5 0 18446744073709551615)]
theorem id0_3_ok : allV Try.prog noSums id0_3 = true := by kernel_rfl
noncomputable def id0_4 : List MemoV := [(49, 7, w0_4, [.row [65, 17]], .poly (polyN [12, 19, 26, 33, 68, 75, 75, 82, 82, 89, 89, 96, 131, 138, 138, 145, 145, 152, 194, 201, 201, 208, 257, 264, 516, 523, 523, 530, 530, 537, 537, 544, 579, 579, 586, 586, 586, 593, 593, 593, 600, 600, 642, 642, 649, 649, 649, 656, 656, 705, 705, 712, 712, 768, 1027, 1034, 1034, 1041, 1041, 1048, 1090, 1090, 1097, 1097, 1097, 1104, 1104, 1153, 1153, 1160, 1160, 1216, 1538, 1545, 1545, 1552, 1601, 1601, 1608, 1608, 1664, 2049, 2056, 2112]) 0 84 5 0 18446744073709551615)]
theorem id0_4_ok : allV Try.prog noSums id0_4 = true := by kernel_rfl
noncomputable def id0_5 : List MemoV := [(49, 7, w0_4, [.row [17, 17, 17]], .poly (polyN [73, 521, 577, 584]) 0 4 3 0 18446744073709551615)]
theorem id0_5_ok : allV Try.prog noSums id0_5 = true := by kernel_rfl
noncomputable def id0_6 : List MemoV := [(49, 7, w0_4, [.row [17, 17]], .poly (polyN [9, 65, 72, 513, 520, 576]) 0 6 2 0 18446744073709551615)]
theorem id0_6_ok : allV Try.prog noSums id0_6 = true := by kernel_rfl
noncomputable def id0_7 : List MemoV := [(49, 7, w0_3, [.row [17, 17, 17, 17, 17, 17]], .lit 1)]
theorem id0_7_ok : allV Try.prog noSums id0_7 = true := by kernel_rfl
noncomputable def id0_8 : List MemoV := [(49, 7, w0_3, [.row [33, 33, 33]], .poly (polyN [146]) 0 1 6 0 18446744073709551615)]
theorem id0_8_ok : allV Try.prog noSums id0_8 = true := by kernel_rfl
noncomputable def id0_9 : List MemoV := [(49, 7, w0_3, [.row [97]], .poly (polyN [6, 13, 20, 27, 34, 41, 48, 69, 76, 83, 90, 97, 104, 132, 139, 146, 153, 160, 195, 202, 209, 216, 258, 265, 272, 321, 328, 384]) 0 28 6 0 18446744073709551615)]
theorem id0_9_ok : allV Try.prog noSums id0_9 = true := by kernel_rfl
noncomputable def id0_10 : List MemoV := [(49, 7, w0_3, [.row [33, 33, 17]], .poly (polyN [82, 138, 145]) 0 3 5 0 18446744073709551615)]
theorem id0_10_ok : allV Try.prog noSums id0_10 = true := by kernel_rfl
noncomputable def id0_11 : List MemoV := [(49, 7, w0_3, [.row [65, 17]], .poly (polyN [12, 19, 26, 33, 68, 75, 75, 82, 82, 89, 89, 96, 131, 138, 138, 145, 145, 152, 194, 201, 201, 208, 257, 264]) 0 24 5 0 18446744073709551615)]
theorem id0_11_ok : allV Try.prog noSums id0_11 = true := by kernel_rfl
noncomputable def id0_12 : List MemoV := [(49, 7, w0_3, [.row [33, 17, 17]], .poly (polyN [74, 81, 137]) 0 3 4 0 18446744073709551615)]
theorem id0_12_ok : allV Try.prog noSums id0_12 = true := by kernel_rfl
noncomputable def id0_13 : List MemoV := [(49, 7, w0_3, [.row [17, 17]], .poly (polyN [9, 65, 72]) 0 3 2 0 18446744073709551615)]
theorem id0_13_ok : allV Try.prog noSums id0_13 = true := by kernel_rfl
noncomputable def id0_14 : List MemoV := [(49, 7, w0_2, [.row [17, 17, 17, 17, 17, 17]], .lit 1)]
theorem id0_14_ok : allV Try.prog noSums id0_14 = true := by kernel_rfl
noncomputable def id0_15 : List MemoV := [(49, 7, w0_2, [.row [33, 33, 33]], .lit 1)]
theorem id0_15_ok : allV Try.prog noSums id0_15 = true := by kernel_rfl
noncomputable def id0_16 : List MemoV := [(49, 7, w0_2, [.row [49, 49]], .poly (polyN [27]) 0 1 6 0 18446744073709551615)]
theorem id0_16_ok : allV Try.prog noSums id0_16 = true := by kernel_rfl
noncomputable def id0_17 : List MemoV := [(49, 7, w0_2, [.row [33, 33, 17]], .lit 1)]
theorem id0_17_ok : allV Try.prog noSums id0_17 = true := by kernel_rfl
noncomputable def id0_18 : List MemoV := [(49, 7, w0_2, [.row [65, 17]], .poly (polyN [12, 19, 26, 33]) 0 4 5 0 18446744073709551615)]
theorem id0_18_ok : allV Try.prog noSums id0_18 = true := by kernel_rfl
noncomputable def id0_19 : List MemoV := [(49, 7, w0_2, [.row [33, 17, 17]], .lit 1)]
theorem id0_19_ok : allV Try.prog noSums id0_19 = true := by kernel_rfl
noncomputable def id0_20 : List MemoV := [(49, 7, w0_2, [.row [65]], .poly (polyN [4, 11, 18, 25, 32]) 0 5 4 0 18446744073709551615)]
theorem id0_20_ok : allV Try.prog noSums id0_20 = true := by kernel_rfl
noncomputable def id0_21 : List MemoV := [(49, 7, w0_1, [.row [17, 17, 17, 17, 17, 17]], .lit 1)]
theorem id0_21_ok : allV Try.prog noSums id0_21 = true := by kernel_rfl
noncomputable def id0_22 : List MemoV := [(49, 7, w0_1, [.row [33, 33, 33]], .lit 1)]
theorem id0_22_ok : allV Try.prog noSums id0_22 = true := by kernel_rfl
noncomputable def id0_23 : List MemoV := [(49, 7, w0_1, [.row [49, 49]], .lit 1)]
theorem id0_23_ok : allV Try.prog noSums id0_23 = true := by kernel_rfl
noncomputable def id0_24 : List MemoV := [(49, 7, w0_1, [.row [81, 17]], .lit 1)]
theorem id0_24_ok : allV Try.prog noSums id0_24 = true := by kernel_rfl
noncomputable def id0_25 : List MemoV := [(49, 7, w0_1, [.row [65, 17]], .lit 1)]
theorem id0_25_ok : allV Try.prog noSums id0_25 = true := by kernel_rfl
noncomputable def id0_26 : List MemoV := [(49, 7, w0_1, [.row [33, 17, 17]], .lit 1)]
theorem id0_26_ok : allV Try.prog noSums id0_26 = true := by kernel_rfl
noncomputable def id0_27 : List MemoV := [(49, 7, w0_1, [.row [65]], .poly (polyN [4]) 0 1 4 0 18446744073709551615)]
theorem id0_27_ok : allV Try.prog noSums id0_27 = true := by kernel_rfl
noncomputable def id0_28 : List MemoV := [(49, 7, w0_1, [.row [49]], .poly (polyN [3]) 0 1 3 0 18446744073709551615)]
theorem id0_28_ok : allV Try.prog noSums id0_28 = true := by kernel_rfl
noncomputable def v0diagramS : Sums := onF 49 (orS (memoV id0_0) (orS (memoV id0_1) (orS (memoV id0_2) (orS (memoV id0_3) (orS (memoV id0_4) (orS (memoV id0_5) (orS (memoV id0_6) (orS (memoV id0_7) (orS (memoV id0_8) (orS (memoV id0_9) (orS (memoV id0_10) (orS (memoV id0_11) (orS (memoV id0_12) (orS (memoV id0_13) (orS (memoV id0_14) (orS (memoV id0_15) (orS (memoV id0_16) (orS (memoV id0_17) (orS (memoV id0_18) (orS (memoV id0_19) (orS (memoV id0_20) (orS (memoV id0_21) (orS (memoV id0_22) (orS (memoV id0_23) (orS (memoV id0_24) (orS (memoV id0_25) (orS (memoV id0_26) (orS (memoV id0_27) (memoV id0_28)))))))))))))))))))))))))))))
theorem v0diagram_al : Always Try.prog v0diagramS := onF_always (orS_always (memoV_always _ (allV_all (noSums_always _) _ id0_0_ok)) (orS_always (memoV_always _ (allV_all (noSums_always _) _ id0_1_ok)) (orS_always (memoV_always _ (allV_all (noSums_always _) _ id0_2_ok)) (orS_always (memoV_always _ (allV_all (noSums_always _) _ id0_3_ok)) (orS_always (memoV_always _ (allV_all (noSums_always _) _ id0_4_ok)) (orS_always (memoV_always _ (allV_all (noSums_always _) _ id0_5_ok)) (orS_always (memoV_always _ (allV_all (noSums_always _) _ id0_6_ok)) (orS_always (memoV_always _ (allV_all (noSums_always _) _ id0_7_ok)) (orS_always (memoV_always _ (allV_all (noSums_always _) _ id0_8_ok)) (orS_always (memoV_always _ (allV_all (noSums_always _) _ id0_9_ok)) (orS_always (memoV_always _ (allV_all (noSums_always _) _ id0_10_ok)) (orS_always (memoV_always _ (allV_all (noSums_always _) _ id0_11_ok)) (orS_always (memoV_always _ (allV_all (noSums_always _) _ id0_12_ok)) (orS_always (memoV_always _ (allV_all (noSums_always _) _ id0_13_ok)) (orS_always (memoV_always _ (allV_all (noSums_always _) _ id0_14_ok)) (orS_always (memoV_always _ (allV_all (noSums_always _) _ id0_15_ok)) (orS_always (memoV_always _ (allV_all (noSums_always _) _ id0_16_ok)) (orS_always (memoV_always _ (allV_all (noSums_always _) _ id0_17_ok)) (orS_always (memoV_always _ (allV_all (noSums_always _) _ id0_18_ok)) (orS_always (memoV_always _ (allV_all (noSums_always _) _ id0_19_ok)) (orS_always (memoV_always _ (allV_all (noSums_always _) _ id0_20_ok)) (orS_always (memoV_always _ (allV_all (noSums_always _) _ id0_21_ok)) (orS_always (memoV_always _ (allV_all (noSums_always _) _ id0_22_ok)) (orS_always (memoV_always _ (allV_all (noSums_always _) _ id0_23_ok)) (orS_always (memoV_always _ (allV_all (noSums_always _) _ id0_24_ok)) (orS_always (memoV_always _ (allV_all (noSums_always _) _ id0_25_ok)) (orS_always (memoV_always _ (allV_all (noSums_always _) _ id0_26_ok)) (orS_always (memoV_always _ (allV_all (noSums_always _) _ id0_27_ok)) (memoV_always _ (allV_all (noSums_always _) _ id0_28_ok))))))))))))))))))))))))))))))
end Go.Proofs.Yteapghgoiodoiab.va
