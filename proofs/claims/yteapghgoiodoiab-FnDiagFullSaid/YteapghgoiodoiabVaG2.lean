/- What is known of calls of the program at a seat. -/
import Derived.Test.YteapghgoiodoiabVaH
namespace Go.Proofs.Yteapghgoiodoiab.va
open Go Go.Eng
set_option linter.unusedVariables false
set_option linter.unusedSectionVars false
set_option linter.unusedSimpArgs false
set_option maxRecDepth 100000
noncomputable def id2_0 : List MemoV := [(49, 7, w0_4, [.row [33, 33, 17, 17]], .poly (polyN [594, 650, 657, 1098, 1105, 1161]) 0 6 6 0 18446744073709551615)]
theorem id2_0_ok : allV Try.prog noSums id2_0 = true := by kernel_rfl
noncomputable def id2_1 : List MemoV := [(49, 7, w0_4, [.row [49, 33, 17]], .poly (polyN [83, 90, 139, 146, 146, 153, 202, 209, 531, 538, 587, 587, 594, 594, 594, 594, 601, 601, 643, 650, 650, 650, 650, 657, 657, 657, 657, 664, 706, 713, 713, 720, 1035, 1042, 1042, 1049, 1091, 1098, 1098, 1098, 1098, 1105, 1105, 1105, 1105, 1112, 1154, 1154, 1161, 1161, 1161, 1161, 1168, 1168, 1217, 1224, 1546, 1553, 1602, 1609, 1609, 1616, 1665, 1672]) 0 64 6 0 18446744073709551615)]
theorem id2_1_ok : allV Try.prog noSums id2_1 = true := by kernel_rfl
noncomputable def id2_2 : List MemoV := [(49, 7, w0_4, [.row [65, 33]], .poly (polyN [20, 27, 34, 76, 83, 83, 90, 90, 97, 132, 139, 139, 146, 146, 146, 153, 153, 160, 195, 202, 202, 209, 209, 216, 258, 265, 272, 524, 531, 531, 538, 538, 545, 580, 587, 587, 587, 594, 594, 594, 594, 601, 601, 601, 608, 643, 643, 650, 650, 650, 650, 657, 657, 657, 657, 664, 664, 706, 706, 713, 713, 713, 720, 720, 769, 776, 1028, 1035, 1035, 1042, 1042, 1042, 1049, 1049, 1056, 1091, 1091, 1098, 1098, 1098, 1098, 1105, 1105, 1105, 1105, 1112, 1112, 1154, 1154, 1154, 1161, 1161, 1161, 1161, 1168, 1168, 1168, 1217, 1217, 1224, 1224, 1280, 1539, 1546, 1546, 1553, 1553, 1560, 1602, 1602, 1609, 1609, 1609, 1616, 1616, 1665, 1665, 1672, 1672, 1728, 2050, 2057, 2064, 2113, 2120, 2176]) 0 126 6 0 18446744073709551615)]
theorem id2_2_ok : allV Try.prog noSums id2_2 = true := by kernel_rfl
noncomputable def id2_3 : List MemoV := [(49, 7, w0_4, [.row [49, 33]], .poly (polyN [19, 26, 75, 82, 82, 89, 131, 138, 138, 145, 145, 152, 194, 201, 208, 523, 530, 530, 537, 579, 586, 586, 586, 593, 593, 593, 600, 642, 642, 649, 649, 649, 656, 656, 705, 712, 1027, 1034, 1034, 1041, 1041, 1048, 1090, 1090, 1097, 1097, 1097, 1104, 1104, 1153, 1153, 1160, 1160, 1216, 1538, 1545, 1552, 1601, 1608, 1664]) 0 60 5 0 18446744073709551615)]
theorem id2_3_ok : allV Try.prog noSums id2_3 = true := by kernel_rfl
noncomputable def id2_4 : List MemoV := [(49, 7, w0_4, [.row [17, 17, 17, 17]], .poly (polyN [585]) 0 1 4 0 18446744073709551615)]
theorem id2_4_ok : allV Try.prog noSums id2_4 = true := by kernel_rfl
noncomputable def id2_5 : List MemoV := [(49, 7, w0_4, [.row [49, 17]], .poly (polyN [11, 18, 25, 67, 74, 74, 81, 81, 88, 130, 137, 137, 144, 193, 200, 515, 522, 522, 529, 529, 536, 578, 578, 585, 585, 585, 592, 592, 641, 641, 648, 648, 704, 1026, 1033, 1033, 1040, 1089, 1089, 1096, 1096, 1152, 1537, 1544, 1600]) 0 45 4 0 18446744073709551615)]
theorem id2_5_ok : allV Try.prog noSums id2_5 = true := by kernel_rfl
noncomputable def id2_6 : List MemoV := [(49, 7, w0_4, [.row [33, 17]], .poly (polyN [10, 17, 66, 73, 73, 80, 129, 136, 514, 521, 521, 528, 577, 577, 584, 584, 640, 1025, 1032, 1088]) 0 20 3 0 18446744073709551615)]
theorem id2_6_ok : allV Try.prog noSums id2_6 = true := by kernel_rfl
noncomputable def id2_7 : List MemoV := [(49, 7, w0_3, [.row [33, 33, 17, 17]], .lit 1)]
theorem id2_7_ok : allV Try.prog noSums id2_7 = true := by kernel_rfl
noncomputable def id2_8 : List MemoV := [(49, 7, w0_3, [.row [49, 33, 17]], .poly (polyN [83, 90, 139, 146, 146, 153, 202, 209]) 0 8 6 0 18446744073709551615)]
theorem id2_8_ok : allV Try.prog noSums id2_8 = true := by kernel_rfl
noncomputable def id2_9 : List MemoV := [(49, 7, w0_3, [.row [65, 33]], .poly (polyN [20, 27, 34, 76, 83, 83, 90, 90, 97, 132, 139, 139, 146, 146, 146, 153, 153, 160, 195, 202, 202, 209, 209, 216, 258, 265, 272]) 0 27 6 0 18446744073709551615)]
theorem id2_9_ok : allV Try.prog noSums id2_9 = true := by kernel_rfl
noncomputable def id2_10 : List MemoV := [(49, 7, w0_3, [.row [17, 17, 17, 17, 17]], .lit 1)]
theorem id2_10_ok : allV Try.prog noSums id2_10 = true := by kernel_rfl
noncomputable def id2_11 : List MemoV := [(49, 7, w0_3, [.row [17, 17, 17, 17]], .lit 1)]
theorem id2_11_ok : allV Try.prog noSums id2_11 = true := by kernel_rfl
noncomputable def id2_12 : List MemoV := [(49, 7, w0_3, [.row [49, 17]], .poly (polyN [11, 18, 25, 67, 74, 74, 81, 81, 88, 130, 137, 137, 144, 193, 200]) 0 15 4 0 18446744073709551615)]
theorem id2_12_ok : allV Try.prog noSums id2_12 = true := by kernel_rfl
noncomputable def id2_13 : List MemoV := [(49, 7, w0_3, [.row [33, 17]], .poly (polyN [10, 17, 66, 73, 73, 80, 129, 136]) 0 8 3 0 18446744073709551615)]
theorem id2_13_ok : allV Try.prog noSums id2_13 = true := by kernel_rfl
noncomputable def id2_14 : List MemoV := [(49, 7, w0_3, [.row [33]], .poly (polyN [2, 9, 16, 65, 72, 128]) 0 6 2 0 18446744073709551615)]
theorem id2_14_ok : allV Try.prog noSums id2_14 = true := by kernel_rfl
noncomputable def id2_15 : List MemoV := [(49, 7, w0_2, [.row [49, 33, 17]], .lit 1)]
theorem id2_15_ok : allV Try.prog noSums id2_15 = true := by kernel_rfl
noncomputable def id2_16 : List MemoV := [(49, 7, w0_2, [.row [65, 33]], .poly (polyN [20, 27, 34]) 0 3 6 0 18446744073709551615)]
theorem id2_16_ok : allV Try.prog noSums id2_16 = true := by kernel_rfl
noncomputable def id2_17 : List MemoV := [(49, 7, w0_2, [.row [17, 17, 17, 17, 17]], .lit 1)]
theorem id2_17_ok : allV Try.prog noSums id2_17 = true := by kernel_rfl
noncomputable def id2_18 : List MemoV := [(49, 7, w0_2, [.row [49, 17, 17]], .lit 1)]
theorem id2_18_ok : allV Try.prog noSums id2_18 = true := by kernel_rfl
noncomputable def id2_19 : List MemoV := [(49, 7, w0_2, [.row [49, 17]], .poly (polyN [11, 18, 25]) 0 3 4 0 18446744073709551615)]
theorem id2_19_ok : allV Try.prog noSums id2_19 = true := by kernel_rfl
noncomputable def id2_20 : List MemoV := [(49, 7, w0_2, [.row [33, 17]], .poly (polyN [10, 17]) 0 2 3 0 18446744073709551615)]
theorem id2_20_ok : allV Try.prog noSums id2_20 = true := by kernel_rfl
noncomputable def id2_21 : List MemoV := [(49, 7, w0_2, [.row [33]], .poly (polyN [2, 9, 16]) 0 3 2 0 18446744073709551615)]
theorem id2_21_ok : allV Try.prog noSums id2_21 = true := by kernel_rfl
noncomputable def id2_22 : List MemoV := [(49, 7, w0_1, [.row [33, 17, 17, 17, 17]], .lit 1)]
theorem id2_22_ok : allV Try.prog noSums id2_22 = true := by kernel_rfl
noncomputable def id2_23 : List MemoV := [(49, 7, w0_1, [.row [65, 33]], .lit 1)]
theorem id2_23_ok : allV Try.prog noSums id2_23 = true := by kernel_rfl
noncomputable def id2_24 : List MemoV := [(49, 7, w0_1, [.row [17, 17, 17, 17, 17]], .lit 1)]
theorem id2_24_ok : allV Try.prog noSums id2_24 = true := by kernel_rfl
noncomputable def id2_25 : List MemoV := [(49, 7, w0_1, [.row [49, 17, 17]], .lit 1)]
theorem id2_25_ok : allV Try.prog noSums id2_25 = true := by kernel_rfl
noncomputable def id2_26 : List MemoV := [(49, 7, w0_1, [.row [81]], .poly (polyN [5]) 0 1 5 0 18446744073709551615)]
theorem id2_26_ok : allV Try.prog noSums id2_26 = true := by kernel_rfl
noncomputable def id2_27 : List MemoV := [(49, 7, w0_1, [.row [33, 17]], .lit 1)]
theorem id2_27_ok : allV Try.prog noSums id2_27 = true := by kernel_rfl
noncomputable def id2_28 : List MemoV := [(49, 7, w0_1, [.row [33]], .poly (polyN [2]) 0 1 2 0 18446744073709551615)]
theorem id2_28_ok : allV Try.prog noSums id2_28 = true := by kernel_rfl
noncomputable def v2diagramS : Sums := onF 49 (orS (memoV id2_0) (orS (memoV id2_1) (orS (memoV id2_2) (orS (memoV id2_3) (orS (memoV id2_4) (orS (memoV id2_5) (orS (memoV id2_6) (orS (memoV id2_7) (orS (memoV id2_8) (orS (memoV id2_9) (orS (memoV id2_10) (orS (memoV id2_11) (orS (memoV id2_12) (orS (memoV id2_13) (orS (memoV id2_14) (orS (memoV id2_15) (orS (memoV id2_16) (orS (memoV id2_17) (orS (memoV id2_18) (orS (memoV id2_19) (orS (memoV id2_20) (orS (memoV id2_21) (orS (memoV id2_22) (orS (memoV id2_23) (orS (memoV id2_24) (orS (memoV id2_25) (orS (memoV id2_26) (orS (memoV id2_27) (memoV id2_28)))))))))))))))))))))))))))))
theorem v2diagram_al : Always Try.prog v2diagramS := onF_always (orS_always (memoV_always _ (allV_all (noSums_always _) _ id2_0_ok)) (orS_always (memoV_always _ (allV_all (noSums_always _) _ id2_1_ok)) (orS_always (memoV_always _ (allV_all (noSums_always _) _ id2_2_ok)) (orS_always (memoV_always _ (allV_all (noSums_always _) _ id2_3_ok)) (orS_always (memoV_always _ (allV_all (noSums_always _) _ id2_4_ok)) (orS_always (memoV_always _ (allV_all (noSums_always _) _ id2_5_ok)) (orS_always (memoV_always _ (allV_all (noSums_always _) _ id2_6_ok)) (orS_always (memoV_always _ (allV_all (noSums_always _) _ id2_7_ok)) (orS_always (memoV_always _ (allV_all (noSums_always _) _ id2_8_ok)) (orS_always (memoV_always _ (allV_all (noSums_always _) _ id2_9_ok)) (orS_always (memoV_always _ (allV_all (noSums_always _) _ id2_10_ok)) (orS_always (memoV_always _ (allV_all (noSums_always _) _ id2_11_ok)) (orS_always (memoV_always _ (allV_all (noSums_always _) _ id2_12_ok)) (orS_always (memoV_always _ (allV_all (noSums_always _) _ id2_13_ok)) (orS_always (memoV_always _ (allV_all (noSums_always _) _ id2_14_ok)) (orS_always (memoV_always _ (allV_all (noSums_always _) _ id2_15_ok)) (orS_always (memoV_always _ (allV_all (noSums_always _) _ id2_16_ok)) (orS_always (memoV_always _ (allV_all (noSums_always _) _ id2_17_ok)) (orS_always (memoV_always _ (allV_all (noSums_always _) _ id2_18_ok)) (orS_always (memoV_always _ (allV_all (noSums_always _) _ id2_19_ok)) (orS_always (memoV_always _ (allV_all (noSums_always _) _ id2_20_ok)) (orS_always (memoV_always _ (allV_all (noSums_always _) _ id2_21_ok)) (orS_always (memoV_always _ (allV_all (noSums_always _) _ id2_22_ok)) (orS_always (memoV_always _ (allV_all (noSums_always _) _ id2_23_ok)) (orS_always (memoV_always _ (allV_all (noSums_always _) _ id2_24_ok)) (orS_always (memoV_always _ (allV_all (noSums_always _) _ id2_25_ok)) (orS_always (memoV_always _ (allV_all (noSums_always _) _ id2_26_ok)) (orS_always (memoV_always _ (allV_all (noSums_always _) _ id2_27_ok)) (memoV_always _ (allV_all (noSums_always _) _ id2_28_ok))))))))))))))))))))))))))))))
end Go.Proofs.Yteapghgoiodoiab.va
