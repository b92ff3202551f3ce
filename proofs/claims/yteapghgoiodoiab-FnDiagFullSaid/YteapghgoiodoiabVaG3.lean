/- What is known of calls of the program at a seat. -/
import Derived.Test.YteapghgoiodoiabVaH
namespace Go.Proofs.Yteapghgoiodoiab.va
open Go Go.Eng
set_option linter.unusedVariables false
set_option linter.unusedSectionVars false
set_option linter.unusedSimpArgs false
set_option maxRecDepth 100000
noncomputable def id3_0 : List MemoV := [(49, 7, w0_4, [.row [33, 33, 33]], .poly (polyN [146, 594, 650, 657, 1042, 1098, 1105, 1154, 1161, 1168]) 0 10 6 0 18446744073709551615)]
theorem id3_0_ok : allV Try.prog noSums id3_0 = true := by kernel_rfl
noncomputable def id3_1 : List MemoV := [(49, 7, w0_4, [.row [49, 49]], .poly (polyN [27, 83, 90, 139, 146, 153, 195, 202, 209, 216, 531, 538, 587, 594, 594, 601, 643, 650, 650, 657, 657, 664, 706, 713, 720, 1035, 1042, 1049, 1091, 1098, 1098, 1105, 1105, 1112, 1154, 1161, 1161, 1168, 1217, 1224, 1539, 1546, 1553, 1560, 1602, 1609, 1616, 1665, 1672, 1728]) 0 50 6 0 18446744073709551615)]
theorem id3_1_ok : allV Try.prog noSums id3_1 = true := by kernel_rfl
noncomputable def id3_2 : List MemoV := [(49, 7, w0_4, [.row [81, 17]], .poly (polyN [13, 20, 27, 34, 41, 69, 76, 76, 83, 83, 90, 90, 97, 97, 104, 132, 139, 139, 146, 146, 153, 153, 160, 195, 202, 202, 209, 209, 216, 258, 265, 265, 272, 321, 328, 517, 524, 524, 531, 531, 538, 538, 545, 545, 552, 580, 580, 587, 587, 587, 594, 594, 594, 601, 601, 601, 608, 608, 643, 643, 650, 650, 650, 657, 657, 657, 664, 664, 706, 706, 713, 713, 713, 720, 720, 769, 769, 776, 776, 832, 1028, 1035, 1035, 1042, 1042, 1049, 1049, 1056, 1091, 1091, 1098, 1098, 1098, 1105, 1105, 1105, 1112, 1112, 1154, 1154, 1161, 1161, 1161, 1168, 1168, 1217, 1217, 1224, 1224, 1280, 1539, 1546, 1546, 1553, 1553, 1560, 1602, 1602, 1609, 1609, 1609, 1616, 1616, 1665, 1665, 1672, 1672, 1728, 2050, 2057, 2057, 2064, 2113, 2113, 2120, 2120, 2176, 2561, 2568, 2624]) 0 140 6 0 18446744073709551615)]
theorem id3_2_ok : allV Try.prog noSums id3_2 = true := by kernel_rfl
noncomputable def id3_3 : List MemoV := [(49, 7, w0_4, [.row [33, 17, 17, 17]], .poly (polyN [586, 593, 649, 1097]) 0 4 5 0 18446744073709551615)]
theorem id3_3_ok : allV Try.prog noSums id3_3 = true := by kernel_rfl
noncomputable def id3_4 : List MemoV := [(49, 7, w0_4, [.row [33, 17, 17]], .poly (polyN [74, 81, 137, 522, 529, 578, 585, 585, 585, 592, 641, 648, 1033, 1089, 1096]) 0 15 4 0 18446744073709551615)]
theorem id3_4_ok : allV Try.prog noSums id3_4 = true := by kernel_rfl
noncomputable def id3_5 : List MemoV := [(49, 7, w0_4, [.row [65]], .poly (polyN [4, 11, 18, 25, 32, 67, 74, 81, 88, 130, 137, 144, 193, 200, 256, 515, 522, 529, 536, 578, 585, 592, 641, 648, 704, 1026, 1033, 1040, 1089, 1096, 1152, 1537, 1544, 1600, 2048]) 0 35 4 0 18446744073709551615)]
theorem id3_5_ok : allV Try.prog noSums id3_5 = true := by kernel_rfl
noncomputable def id3_6 : List MemoV := [(49, 7, w0_4, [.row [49]], .poly (polyN [3, 10, 17, 24, 66, 73, 80, 129, 136, 192, 514, 521, 528, 577, 584, 640, 1025, 1032, 1088, 1536]) 0 20 3 0 18446744073709551615)]
theorem id3_6_ok : allV Try.prog noSums id3_6 = true := by kernel_rfl
noncomputable def id3_7 : List MemoV := [(49, 7, w0_4, [.row [17]], .poly (polyN [1, 8, 64, 512]) 0 4 1 0 18446744073709551615)]
theorem id3_7_ok : allV Try.prog noSums id3_7 = true := by kernel_rfl
noncomputable def id3_8 : List MemoV := [(49, 7, w0_3, [.row [49, 49]], .poly (polyN [27, 83, 90, 139, 146, 153, 195, 202, 209, 216]) 0 10 6 0 18446744073709551615)]
theorem id3_8_ok : allV Try.prog noSums id3_8 = true := by kernel_rfl
noncomputable def id3_9 : List MemoV := [(49, 7, w0_3, [.row [81, 17]], .poly (polyN [13, 20, 27, 34, 41, 69, 76, 76, 83, 83, 90, 90, 97, 97, 104, 132, 139, 139, 146, 146, 153, 153, 160, 195, 202, 202, 209, 209, 216, 258, 265, 265, 272, 321, 328]) 0 35 6 0 18446744073709551615)]
theorem id3_9_ok : allV Try.prog noSums id3_9 = true := by kernel_rfl
noncomputable def id3_10 : List MemoV := [(49, 7, w0_3, [.row [33, 17, 17, 17]], .lit 1)]
theorem id3_10_ok : allV Try.prog noSums id3_10 = true := by kernel_rfl
noncomputable def id3_11 : List MemoV := [(49, 7, w0_3, [.row [49, 33]], .poly (polyN [19, 26, 75, 82, 82, 89, 131, 138, 138, 145, 145, 152, 194, 201, 208]) 0 15 5 0 18446744073709551615)]
theorem id3_11_ok : allV Try.prog noSums id3_11 = true := by kernel_rfl
noncomputable def id3_12 : List MemoV := [(49, 7, w0_3, [.row [65]], .poly (polyN [4, 11, 18, 25, 32, 67, 74, 81, 88, 130, 137, 144, 193, 200, 256]) 0 15 4 0 18446744073709551615)]
theorem id3_12_ok : allV Try.prog noSums id3_12 = true := by kernel_rfl
noncomputable def id3_13 : List MemoV := [(49, 7, w0_3, [.row [49]], .poly (polyN [3, 10, 17, 24, 66, 73, 80, 129, 136, 192]) 0 10 3 0 18446744073709551615)]
theorem id3_13_ok : allV Try.prog noSums id3_13 = true := by kernel_rfl
noncomputable def id3_14 : List MemoV := [(49, 7, w0_3, [.row [17]], .poly (polyN [1, 8, 64]) 0 3 1 0 18446744073709551615)]
theorem id3_14_ok : allV Try.prog noSums id3_14 = true := by kernel_rfl
noncomputable def id3_15 : List MemoV := [(49, 7, w0_2, [.row [33, 33, 17, 17]], .lit 1)]
theorem id3_15_ok : allV Try.prog noSums id3_15 = true := by kernel_rfl
noncomputable def id3_16 : List MemoV := [(49, 7, w0_2, [.row [81, 17]], .poly (polyN [13, 20, 27, 34, 41]) 0 5 6 0 18446744073709551615)]
theorem id3_16_ok : allV Try.prog noSums id3_16 = true := by kernel_rfl
noncomputable def id3_17 : List MemoV := [(49, 7, w0_2, [.row [33, 17, 17, 17]], .lit 1)]
theorem id3_17_ok : allV Try.prog noSums id3_17 = true := by kernel_rfl
noncomputable def id3_18 : List MemoV := [(49, 7, w0_2, [.row [49, 33]], .poly (polyN [19, 26]) 0 2 5 0 18446744073709551615)]
theorem id3_18_ok : allV Try.prog noSums id3_18 = true := by kernel_rfl
noncomputable def id3_19 : List MemoV := [(49, 7, w0_2, [.row [17, 17, 17, 17]], .lit 1)]
theorem id3_19_ok : allV Try.prog noSums id3_19 = true := by kernel_rfl
noncomputable def id3_20 : List MemoV := [(49, 7, w0_2, [.row [49]], .poly (polyN [3, 10, 17, 24]) 0 4 3 0 18446744073709551615)]
theorem id3_20_ok : allV Try.prog noSums id3_20 = true := by kernel_rfl
noncomputable def id3_21 : List MemoV := [(49, 7, w0_2, [.row [17]], .poly (polyN [1, 8]) 0 2 1 0 18446744073709551615)]
theorem id3_21_ok : allV Try.prog noSums id3_21 = true := by kernel_rfl
noncomputable def id3_22 : List MemoV := [(49, 7, w0_1, [.row [33, 33, 17, 17]], .lit 1)]
theorem id3_22_ok : allV Try.prog noSums id3_22 = true := by kernel_rfl
noncomputable def id3_23 : List MemoV := [(49, 7, w0_1, [.row [49, 33, 17]], .lit 1)]
theorem id3_23_ok : allV Try.prog noSums id3_23 = true := by kernel_rfl
noncomputable def id3_24 : List MemoV := [(49, 7, w0_1, [.row [33, 17, 17, 17]], .lit 1)]
theorem id3_24_ok : allV Try.prog noSums id3_24 = true := by kernel_rfl
noncomputable def id3_25 : List MemoV := [(49, 7, w0_1, [.row [49, 33]], .lit 1)]
theorem id3_25_ok : allV Try.prog noSums id3_25 = true := by kernel_rfl
noncomputable def id3_26 : List MemoV := [(49, 7, w0_1, [.row [17, 17, 17, 17]], .lit 1)]
theorem id3_26_ok : allV Try.prog noSums id3_26 = true := by kernel_rfl
noncomputable def id3_27 : List MemoV := [(49, 7, w0_1, [.row [49, 17]], .lit 1)]
theorem id3_27_ok : allV Try.prog noSums id3_27 = true := by kernel_rfl
noncomputable def id3_28 : List MemoV := [(49, 7, w0_1, [.row [17]], .poly (polyN [1]) 0 1 1 0 18446744073709551615)]
theorem id3_28_ok : allV Try.prog noSums id3_28 = true := by kernel_rfl
noncomputable def v3diagramS : Sums := onF 49 (orS (memoV id3_0) (orS (memoV id3_1) (orS (memoV id3_2) (orS (memoV id3_3) (orS (memoV id3_4) (orS (memoV id3_5) (orS (memoV id3_6) (orS (memoV id3_7) (orS (memoV id3_8) (orS (memoV id3_9) (orS (memoV id3_10) (orS (memoV id3_11) (orS (memoV id3_12) (orS (memoV id3_13) (orS (memoV id3_14) (orS (memoV id3_15) (orS (memoV id3_16) (orS (memoV id3_17) (orS (memoV id3_18) (orS (memoV id3_19) (orS (memoV id3_20) (orS (memoV id3_21) (orS (memoV id3_22) (orS (memoV id3_23) (orS (memoV id3_24) (orS (memoV id3_25) (orS (memoV id3_26) (orS (memoV id3_27) (memoV id3_28)))))))))))))))))))))))))))))
theorem v3diagram_al : Always Try.prog v3diagramS := onF_always (orS_always (memoV_always _ (allV_all (noSums_always _) _ id3_0_ok)) (orS_always (memoV_always _ (allV_all (noSums_always _) _ id3_1_ok)) (orS_always (memoV_always _ (allV_all (noSums_always _) _ id3_2_ok)) (orS_always (memoV_always _ (allV_all (noSums_always _) _ id3_3_ok)) (orS_always (memoV_always _ (allV_all (noSums_always _) _ id3_4_ok)) (orS_always (memoV_always _ (allV_all (noSums_always _) _ id3_5_ok)) (orS_always (memoV_always _ (allV_all (noSums_always _) _ id3_6_ok)) (orS_always (memoV_always _ (allV_all (noSums_always _) _ id3_7_ok)) (orS_always (memoV_always _ (allV_all (noSums_always _) _ id3_8_ok)) (orS_always (memoV_always _ (allV_all (noSums_always _) _ id3_9_ok)) (orS_always (memoV_always _ (allV_all (noSums_always _) _ id3_10_ok)) (orS_always (memoV_always _ (allV_all (noSums_always _) _ id3_11_ok)) (orS_always (memoV_always _ (allV_all (noSums_always _) _ id3_12_ok)) (orS_always (memoV_always _ (allV_all (noSums_always _) _ id3_13_ok)) (orS_always (memoV_always _ (allV_all (noSums_always _) _ id3_14_ok)) (orS_always (memoV_always _ (allV_all (noSums_always _) _ id3_15_ok)) (orS_always (memoV_always _ (allV_all (noSums_always _) _ id3_16_ok)) (orS_always (memoV_always _ (allV_all (noSums_always _) _ id3_17_ok)) (orS_always (memoV_always _ (allV_all (noSums_always _) _ id3_18_ok)) (orS_always (memoV_always _ (allV_all (noSums_always _) _ id3_19_ok)) (orS_always (memoV_always _ (allV_all (noSums_always _) _ id3_20_ok)) (orS_always (memoV_always _ (allV_all (noSums_always _) _ id3_21_ok)) (orS_always (memoV_always _ (allV_all (noSums_always _) _ id3_22_ok)) (orS_always (memoV_always _ (allV_all (noSums_always _) _ id3_23_ok)) (orS_always (memoV_always _ (allV_all (noSums_always _) _ id3_24_ok)) (orS_always (memoV_always _ (allV_all (noSums_always _) _ id3_25_ok)) (orS_always (memoV_always _ (allV_all (noSums_always _) _ id3_26_ok)) (orS_always (memoV_always _ (allV_all (noSums_always _) _ id3_27_ok)) (memoV_always _ (allV_all (noSums_always _) _ id3_28_ok))))))))))))))))))))))))))))))
end Go.Proofs.Yteapghgoiodoiab.va
