/- What is known of calls of the program at a seat. -/
import Derived.Test.YteapghgoiodoiabVaH
namespace Go.Proofs.Yteapghgoiodoiab.va
open Go Go.Eng
set_option linter.unusedVariables false
set_option linter.unusedSectionVars false
set_option linter.unusedSimpArgs false
set_option maxRecDepth 100000
noncomputable def if0_0 : List MemoV := [(112, 7, w0_4, [.lit 97], .poly (polyN [6, 13, 20, 27, 34, 41, 48, 69, 76, 83, 90, 97, 104, 132, 139, 146, 153, 160, 195, 202, 209, 216, 258, 265, 272, 321, 328, 384, 517, 524, 531, 538, 545, 552, 580, 587, 594, 601, 608, 643, 650, 657, 664, 706, 713, 720, 769, 776, 832, 1028, 1035, 1042, 1049, 1056, 1091, 1098, 1105, 1112, 1154, 1161, 1168, 1217, 1224, 1280, 1539, 1546, 1553, 1560, 1602, 1609, 1616, 1665, 1672, 1728, 2050, 2057, 2064, 2113, 2120, 2176, 2561, 2568, 2624, 3072]) 0 84 6 0 18446744073709551615)]
theorem if0_0_ok : allV Try.prog noSums if0_0 = true := by kernel_rfl
noncomputable def if0_1 : List MemoV := [(112, 7, w0_4, [.lit 49], .poly (polyN [3, 10, 17, 24, 66, 73, 80, 129, 136, 192, 514, 521, 528, 577, 584, 640, 1025, 1032, 1088, 1536]) 0 20 3 0 18446744073709551615)]
theorem if0_1_ok : allV Try.prog noSums if0_1 = true := by kernel_rfl
noncomputable def if0_2 : List MemoV := [(112, 7, w0_4, [.lit 33], .poly (polyN [2, 9, 16, 65, 72, 128, 513, 520, 576, 1024]) 0 10 2 0 18446744073709551615)]
theorem if0_2_ok : allV Try.prog noSums if0_2 = true := by kernel_rfl
noncomputable def if0_3 : List MemoV := [(132, 7, w0_4, [.lit 97], .lit 1)]
theorem if0_3_ok : allV Try.prog noSums if0_3 = true := by kernel_rfl
noncomputable def if0_4 : List MemoV := [(132, 7, w0_4, [.lit 81], .lit 1)]
theorem if0_4_ok : allV Try.prog noSums if0_4 = true := by kernel_rfl
noncomputable def if0_5 : List MemoV := [(132, 7, w0_4, [.lit 33], .poly (polyN [9, 65, 72, 513, 520, 576]) 0 6 2 0 18446744073709551615)]
theorem if0_5_ok : allV Try.prog noSums if0_5 = true := by kernel_rfl
noncomputable def if0_6 : List MemoV := [(132, 7, w0_4, [.lit 17], .poly (polyN [1, 8, 64, 512]) 0 4 1 0 18446744073709551615)]
theorem if0_6_ok : allV Try.prog noSums if0_6 = true := by kernel_rfl
noncomputable def if0_7 : List MemoV := [(112, 7, w0_3, [.lit 81], .poly (polyN [5, 12, 19, 26, 33, 40, 68, 75, 82, 89, 96, 131, 138, 145, 152, 194, 201, 208, 257, 264, 320]) 0 21 5 0 18446744073709551615)]
theorem if0_7_ok : allV Try.prog noSums if0_7 = true := by kernel_rfl
noncomputable def if0_8 : List MemoV := [(112, 7, w0_3, [.lit 65], .poly (polyN [4, 11, 18, 25, 32, 67, 74, 81, 88, 130, 137, 144, 193, 200, 256]) 0 15 4 0 18446744073709551615)]
theorem if0_8_ok : allV Try.prog noSums if0_8 = true := by kernel_rfl
noncomputable def if0_9 : List MemoV := [(112, 7, w0_3, [.lit 17], .poly (polyN [1, 8, 64]) 0 3 1 0 18446744073709551615)]
theorem if0_9_ok : allV Try.prog noSums if0_9 = true := by kernel_rfl
noncomputable def if0_10 : List MemoV := [(112, 7, w0_3, [.lit 1], .lit 17)]
theorem if0_10_ok : allV Try.prog noSums if0_10 = true := by kernel_rfl
noncomputable def if0_11 : List MemoV := [(132, 7, w0_3, [.lit 65], .lit 1)]
theorem if0_11_ok : allV Try.prog noSums if0_11 = true := by kernel_rfl
noncomputable def if0_12 : List MemoV := [(132, 7, w0_3, [.lit 49], .poly (polyN [73]) 0 1 3 0 18446744073709551615)]
theorem if0_12_ok : allV Try.prog noSums if0_12 = true := by kernel_rfl
noncomputable def if0_13 : List MemoV := [(132, 7, w0_3, [.lit 1], .lit 17)]
theorem if0_13_ok : allV Try.prog noSums if0_13 = true := by kernel_rfl
noncomputable def if0_14 : List MemoV := [(112, 7, w0_2, [.lit 97], .poly (polyN [6, 13, 20, 27, 34, 41, 48]) 0 7 6 0 18446744073709551615)]
theorem if0_14_ok : allV Try.prog noSums if0_14 = true := by kernel_rfl
noncomputable def if0_15 : List MemoV := [(112, 7, w0_2, [.lit 49], .poly (polyN [3, 10, 17, 24]) 0 4 3 0 18446744073709551615)]
theorem if0_15_ok : allV Try.prog noSums if0_15 = true := by kernel_rfl
noncomputable def if0_16 : List MemoV := [(112, 7, w0_2, [.lit 33], .poly (polyN [2, 9, 16]) 0 3 2 0 18446744073709551615)]
theorem if0_16_ok : allV Try.prog noSums if0_16 = true := by kernel_rfl
noncomputable def if0_17 : List MemoV := [(132, 7, w0_2, [.lit 97], .lit 1)]
theorem if0_17_ok : allV Try.prog noSums if0_17 = true := by kernel_rfl
noncomputable def if0_18 : List MemoV := [(132, 7, w0_2, [.lit 81], .lit 1)]
theorem if0_18_ok : allV Try.prog noSums if0_18 = true := by kernel_rfl
noncomputable def if0_19 : List MemoV := [(132, 7, w0_2, [.lit 33], .poly (polyN [9]) 0 1 2 0 18446744073709551615)]
theorem if0_19_ok : allV Try.prog noSums if0_19 = true := by kernel_rfl
noncomputable def if0_20 : List MemoV := [(132, 7, w0_2, [.lit 17], .poly (polyN [1, 8]) 0 2 1 0 18446744073709551615)]
theorem if0_20_ok : allV Try.prog noSums if0_20 = true := by kernel_rfl
noncomputable def if0_21 : List MemoV := [(112, 7, w0_1, [.lit 81], .poly (polyN [5]) 0 1 5 0 18446744073709551615)]
theorem if0_21_ok : allV Try.prog noSums if0_21 = true := by kernel_rfl
noncomputable def if0_22 : List MemoV := [(112, 7, w0_1, [.lit 65], .poly (polyN [4]) 0 1 4 0 18446744073709551615)]
theorem if0_22_ok : allV Try.prog noSums if0_22 = true := by kernel_rfl
noncomputable def if0_23 : List MemoV := [(112, 7, w0_1, [.lit 17], .poly (polyN [1]) 0 1 1 0 18446744073709551615)]
theorem if0_23_ok : allV Try.prog noSums if0_23 = true := by kernel_rfl
noncomputable def if0_24 : List MemoV := [(112, 7, w0_1, [.lit 1], .lit 17)]
theorem if0_24_ok : allV Try.prog noSums if0_24 = true := by kernel_rfl
noncomputable def if0_25 : List MemoV := [(132, 7, w0_1, [.lit 65], .lit 1)]
theorem if0_25_ok : allV Try.prog noSums if0_25 = true := by kernel_rfl
noncomputable def if0_26 : List MemoV := [(132, 7, w0_1, [.lit 49], .lit 1)]
theorem if0_26_ok : allV Try.prog noSums if0_26 = true := by kernel_rfl
noncomputable def if0_27 : List MemoV := [(132, 7, w0_1, [.lit 1], .lit 17)]
theorem if0_27_ok : allV Try.prog noSums if0_27 = true := by kernel_rfl
noncomputable def v0fullS : Sums := onF 112 (orS (memoV if0_0) (orS (memoV if0_1) (orS (memoV if0_2) (orS (memoV if0_7) (orS (memoV if0_8) (orS (memoV if0_9) (orS (memoV if0_10) (orS (memoV if0_14) (orS (memoV if0_15) (orS (memoV if0_16) (orS (memoV if0_21) (orS (memoV if0_22) (orS (memoV if0_23) (memoV if0_24))))))))))))))
theorem v0full_al : Always Try.prog v0fullS := onF_always (orS_always (memoV_always _ (allV_all (noSums_always _) _ if0_0_ok)) (orS_always (memoV_always _ (allV_all (noSums_always _) _ if0_1_ok)) (orS_always (memoV_always _ (allV_all (noSums_always _) _ if0_2_ok)) (orS_always (memoV_always _ (allV_all (noSums_always _) _ if0_7_ok)) (orS_always (memoV_always _ (allV_all (noSums_always _) _ if0_8_ok)) (orS_always (memoV_always _ (allV_all (noSums_always _) _ if0_9_ok)) (orS_always (memoV_always _ (allV_all (noSums_always _) _ if0_10_ok)) (orS_always (memoV_always _ (allV_all (noSums_always _) _ if0_14_ok)) (orS_always (memoV_always _ (allV_all (noSums_always _) _ if0_15_ok)) (orS_always (memoV_always _ (allV_all (noSums_always _) _ if0_16_ok)) (orS_always (memoV_always _ (allV_all (noSums_always _) _ if0_21_ok)) (orS_always (memoV_always _ (allV_all (noSums_always _) _ if0_22_ok)) (orS_always (memoV_always _ (allV_all (noSums_always _) _ if0_23_ok)) (memoV_always _ (allV_all (noSums_always _) _ if0_24_ok)))))))))))))))
noncomputable def v0chosenS : Sums := onF 132 (orS (memoV if0_3) (orS (memoV if0_4) (orS (memoV if0_5) (orS (memoV if0_6) (orS (memoV if0_11) (orS (memoV if0_12) (orS (memoV if0_13) (orS (memoV if0_17) (orS (memoV if0_18) (orS (memoV if0_19) (orS (memoV if0_20) (orS (memoV if0_25) (orS (memoV if0_26) (memoV if0_27))))))))))))))
theorem v0chosen_al : Always Try.prog v0chosenS := onF_always (orS_always (memoV_always _ (allV_all (noSums_always _) _ if0_3_ok)) (orS_always (memoV_always _ (allV_all (noSums_always _) _ if0_4_ok)) (orS_always (memoV_always _ (allV_all (noSums_always _) _ if0_5_ok)) (orS_always (memoV_always _ (allV_all (noSums_always _) _ if0_6_ok)) (orS_always (memoV_always _ (allV_all (noSums_always _) _ if0_11_ok)) (orS_always (memoV_always _ (allV_all (noSums_always _) _ if0_12_ok)) (orS_always (memoV_always _ (allV_all (noSums_always _) _ if0_13_ok)) (orS_always (memoV_always _ (allV_all (noSums_always _) _ if0_17_ok)) (orS_always (memoV_always _ (allV_all (noSums_always _) _ if0_18_ok)) (orS_always (memoV_always _ (allV_all (noSums_always _) _ if0_19_ok)) (orS_always (memoV_always _ (allV_all (noSums_always _) _ if0_20_ok)) (orS_always (memoV_always _ (allV_all (noSums_always _) _ if0_25_ok)) (orS_always (memoV_always _ (allV_all (noSums_always _) _ if0_26_ok)) (memoV_always _ (allV_all (noSums_always _) _ if0_27_ok)))))))))))))))
end Go.Proofs.Yteapghgoiodoiab.va
