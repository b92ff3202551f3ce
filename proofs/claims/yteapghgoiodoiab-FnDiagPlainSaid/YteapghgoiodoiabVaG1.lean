/- What is known of calls of the program at a seat. -/
import Derived.Test.YteapghgoiodoiabVaH
namespace Go.Proofs.Yteapghgoiodoiab.va
open Go Go.Eng
set_option linter.unusedVariables false
set_option linter.unusedSectionVars false
set_option linter.unusedSimpArgs false
set_option maxRecDepth 100000
noncomputable def id1_0 : List MemoV := [(49, 7, w0_4, [.row [33, 17, 17, 17, 17]], .lit 1)]
theorem id1_0_ok : allV Try.prog noSums id1_0 = true := by kernel_rfl
noncomputable def id1_1 : List MemoV := [(49, 7, w0_4, [.row [49, 17, 17, 17]], .poly (polyN [587, 594, 601, 650, 657, 713, 1098, 1105, 1161, 1609]) 0 10 6 0 18446744073709551615)]
theorem id1_1_ok : allV Try.prog noSums id1_1 = true := by kernel_rfl
noncomputable def id1_2 : List MemoV := [(49, 7, w0_4, [.row [17, 17, 17, 17, 17]], .lit 1)]
theorem id1_2_ok : allV Try.prog noSums id1_2 = true := by kernel_rfl
noncomputable def id1_3 : List MemoV := [(49, 7, w0_4, [.row [49, 17, 17]], .poly (polyN [75, 82, 89, 138, 145, 201, 523, 530, 537, 579, 586, 586, 586, 593, 593, 593, 600, 642, 649, 649, 649, 656, 705, 712, 1034, 1041, 1090, 1097, 1097, 1097, 1104, 1153, 1160, 1545, 1601, 1608]) 0 36 5 0 18446744073709551615)]
theorem id1_3_ok : allV Try.prog noSums id1_3 = true := by kernel_rfl
noncomputable def id1_4 : List MemoV := [(49, 7, w0_4, [.row [81]], .poly (polyN [5, 12, 19, 26, 33, 40, 68, 75, 82, 89, 96, 131, 138, 145, 152, 194, 201, 208, 257, 264, 320, 516, 523, 530, 537, 544, 579, 586, 593, 600, 642, 649, 656, 705, 712, 768, 1027, 1034, 1041, 1048, 1090, 1097, 1104, 1153, 1160, 1216, 1538, 1545, 1552, 1601, 1608, 1664, 2049, 2056, 2112, 2560]) 0 56 5 0 18446744073709551615)]
theorem id1_4_ok : allV Try.prog noSums id1_4 = true := by kernel_rfl
noncomputable def id1_5 : List MemoV := [(49, 7, w0_4, [.row [33, 33]], .poly (polyN [18, 74, 81, 130, 137, 144, 522, 529, 578, 585, 585, 592, 641, 648, 1026, 1033, 1040, 1089, 1096, 1152]) 0 20 4 0 18446744073709551615)]
theorem id1_5_ok : allV Try.prog noSums id1_5 = true := by kernel_rfl
noncomputable def id1_6 : List MemoV := [(49, 7, w0_4, [.row [33]], .poly (polyN [2, 9, 16, 65, 72, 128, 513, 520, 576, 1024]) 0 10 2 0 18446744073709551615)]
theorem id1_6_ok : allV Try.prog noSums id1_6 = true := by kernel_rfl
noncomputable def id1_7 : List MemoV := [(49, 7, w0_3, [.row [33, 17, 17, 17, 17]], .lit 1)]
theorem id1_7_ok : allV Try.prog noSums id1_7 = true := by kernel_rfl
noncomputable def id1_8 : List MemoV := [(49, 7, w0_3, [.row [49, 17, 17, 17]], .lit 1)]
theorem id1_8_ok : allV Try.prog noSums id1_8 = true := by kernel_rfl
noncomputable def id1_9 : List MemoV := [(49, 7, w0_3, [.row [65, 17, 17]], .poly (polyN [76, 83, 90, 97, 139, 146, 153, 202, 209, 265]) 0 10 6 0 18446744073709551615)]
theorem id1_9_ok : allV Try.prog noSums id1_9 = true := by kernel_rfl
noncomputable def id1_10 : List MemoV := [(49, 7, w0_3, [.row [49, 17, 17]], .poly (polyN [75, 82, 89, 138, 145, 201]) 0 6 5 0 18446744073709551615)]
theorem id1_10_ok : allV Try.prog noSums id1_10 = true := by kernel_rfl
noncomputable def id1_11 : List MemoV := [(49, 7, w0_3, [.row [81]], .poly (polyN [5, 12, 19, 26, 33, 40, 68, 75, 82, 89, 96, 131, 138, 145, 152, 194, 201, 208, 257, 264, 320]) 0 21 5 0 18446744073709551615)]
theorem id1_11_ok : allV Try.prog noSums id1_11 = true := by kernel_rfl
noncomputable def id1_12 : List MemoV := [(49, 7, w0_3, [.row [33, 33]], .poly (polyN [18, 74, 81, 130, 137, 144]) 0 6 4 0 18446744073709551615)]
theorem id1_12_ok : allV Try.prog noSums id1_12 = true := by kernel_rfl
noncomputable def id1_13 : List MemoV := [(49, 7, w0_3, [.row [17, 17, 17]], .poly (polyN [73]) 0 1 3 0 18446744073709551615)]
theorem id1_13_ok : allV Try.prog noSums id1_13 = true := by kernel_rfl
noncomputable def id1_14 : List MemoV := [(49, 7, w0_2, [.row [33, 17, 17, 17, 17]], .lit 1)]
theorem id1_14_ok : allV Try.prog noSums id1_14 = true := by kernel_rfl
noncomputable def id1_15 : List MemoV := [(49, 7, w0_2, [.row [49, 17, 17, 17]], .lit 1)]
theorem id1_15_ok : allV Try.prog noSums id1_15 = true := by kernel_rfl
noncomputable def id1_16 : List MemoV := [(49, 7, w0_2, [.row [65, 17, 17]], .lit 1)]
theorem id1_16_ok : allV Try.prog noSums id1_16 = true := by kernel_rfl
noncomputable def id1_17 : List MemoV := [(49, 7, w0_2, [.row [97]], .poly (polyN [6, 13, 20, 27, 34, 41, 48]) 0 7 6 0 18446744073709551615)]
theorem id1_17_ok : allV Try.prog noSums id1_17 = true := by kernel_rfl
noncomputable def id1_18 : List MemoV := [(49, 7, w0_2, [.row [81]], .poly (polyN [5, 12, 19, 26, 33, 40]) 0 6 5 0 18446744073709551615)]
theorem id1_18_ok : allV Try.prog noSums id1_18 = true := by kernel_rfl
noncomputable def id1_19 : List MemoV := [(49, 7, w0_2, [.row [33, 33]], .poly (polyN [18]) 0 1 4 0 18446744073709551615)]
theorem id1_19_ok : allV Try.prog noSums id1_19 = true := by kernel_rfl
noncomputable def id1_20 : List MemoV := [(49, 7, w0_2, [.row [17, 17, 17]], .lit 1)]
theorem id1_20_ok : allV Try.prog noSums id1_20 = true := by kernel_rfl
noncomputable def id1_21 : List MemoV := [(49, 7, w0_2, [.row [17, 17]], .poly (polyN [9]) 0 1 2 0 18446744073709551615)]
theorem id1_21_ok : allV Try.prog noSums id1_21 = true := by kernel_rfl
noncomputable def id1_22 : List MemoV := [(49, 7, w0_1, [.row [49, 17, 17, 17]], .lit 1)]
theorem id1_22_ok : allV Try.prog noSums id1_22 = true := by kernel_rfl
noncomputable def id1_23 : List MemoV := [(49, 7, w0_1, [.row [65, 17, 17]], .lit 1)]
theorem id1_23_ok : allV Try.prog noSums id1_23 = true := by kernel_rfl
noncomputable def id1_24 : List MemoV := [(49, 7, w0_1, [.row [97]], .poly (polyN [6]) 0 1 6 0 18446744073709551615)]
theorem id1_24_ok : allV Try.prog noSums id1_24 = true := by kernel_rfl
noncomputable def id1_25 : List MemoV := [(49, 7, w0_1, [.row [33, 33, 17]], .lit 1)]
theorem id1_25_ok : allV Try.prog noSums id1_25 = true := by kernel_rfl
noncomputable def id1_26 : List MemoV := [(49, 7, w0_1, [.row [33, 33]], .lit 1)]
theorem id1_26_ok : allV Try.prog noSums id1_26 = true := by kernel_rfl
noncomputable def id1_27 : List MemoV := [(49, 7, w0_1, [.row [17, 17, 17]], .lit 1)]
theorem id1_27_ok : allV Try.prog noSums id1_27 = true := by kernel_rfl
noncomputable def id1_28 : List MemoV := [(49, 7, w0_1, [.row [17, 17]], .lit 1)]
theorem id1_28_ok : allV Try.prog noSums id1_28 = true := by kernel_rfl
noncomputable def v1diagramS : Sums := onF 49 (orS (memoV id1_0) (orS (memoV id1_1) (orS (memoV id1_2) (orS (memoV id1_3) (orS (memoV id1_4) (orS (memoV id1_5) (orS (memoV id1_6) (orS (memoV id1_7) (orS (memoV id1_8) (orS (memoV id1_9) (orS (memoV id1_10) (orS (memoV id1_11) (orS (memoV id1_12) (orS (memoV id1_13) (orS (memoV id1_14) (orS (memoV id1_15) (orS (memoV id1_16) (orS (memoV id1_17) (orS (memoV id1_18) (orS (memoV id1_19) (orS (memoV id1_20) (orS (memoV id1_21) (orS (memoV id1_22) (orS (memoV id1_23) (orS (memoV id1_24) (orS (memoV id1_25) (orS (memoV id1_26) (orS (memoV id1_27) (memoV id1_28)))))))))))))))))))))))))))))
theorem v1diagram_al : Always Try.prog v1diagramS := onF_always (orS_always (memoV_always _ (allV_all (noSums_always _) _ id1_0_ok)) (orS_always (memoV_always _ (allV_all (noSums_always _) _ id1_1_ok)) (orS_always (memoV_always _ (allV_all (noSums_always _) _ id1_2_ok)) (orS_always (memoV_always _ (allV_all (noSums_always _) _ id1_3_ok)) (orS_always (memoV_always _ (allV_all (noSums_always _) _ id1_4_ok)) (orS_always (memoV_always _ (allV_all (noSums_always _) _ id1_5_ok)) (orS_always (memoV_always _ (allV_all (noSums_always _) _ id1_6_ok)) (orS_always (memoV_always _ (allV_all (noSums_always _) _ id1_7_ok)) (orS_always (memoV_always _ (allV_all (noSums_always _) _ id1_8_ok)) (orS_always (memoV_always _ (allV_all (noSums_always _) _ id1_9_ok)) (orS_always (memoV_always _ (allV_all (noSums_always _) _ id1_10_ok)) (orS_always (memoV_always _ (allV_all (noSums_always _) _ id1_11_ok)) (orS_always (memoV_always _ (allV_all (noSums_always _) _ id1_12_ok)) (orS_always (memoV_always _ (allV_all (noSums_always _) _ id1_13_ok)) (orS_always (memoV_always _ (allV_all (noSums_always _) _ id1_14_ok)) (orS_always (memoV_always _ (allV_all (noSums_always _) _ id1_15_ok)) (orS_always (memoV_always _ (allV_all (noSums_always _) _ id1_16_ok)) (orS_always (memoV_always _ (allV_all (noSums_always _) _ id1_17_ok)) (orS_always (memoV_always _ (allV_all (noSums_always _) _ id1_18_ok)) (orS_always (memoV_always _ (allV_all (noSums_always _) _ id1_19_ok)) (orS_always (memoV_always _ (allV_all (noSums_always _) _ id1_20_ok)) (orS_always (memoV_always _ (allV_all (noSums_always _) _ id1_21_ok)) (orS_always (memoV_always _ (allV_all (noSums_always _) _ id1_22_ok)) (orS_always (memoV_always _ (allV_all (noSums_always _) _ id1_23_ok)) (orS_always (memoV_always _ (allV_all (noSums_always _) _ id1_24_ok)) (orS_always (memoV_always _ (allV_all (noSums_always _) _ id1_25_ok)) (orS_always (memoV_always _ (allV_all (noSums_always _) _ id1_26_ok)) (orS_always (memoV_always _ (allV_all (noSums_always _) _ id1_27_ok)) (memoV_always _ (allV_all (noSums_always _) _ id1_28_ok))))))))))))))))))))))))))))))
end Go.Proofs.Yteapghgoiodoiab.va
