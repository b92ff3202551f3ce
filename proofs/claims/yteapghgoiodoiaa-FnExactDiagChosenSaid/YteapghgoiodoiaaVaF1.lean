/- What is known of calls of the program at a seat. -/
import Derived.Test.YteapghgoiodoiaaVaH
namespace Go.Proofs.Yteapghgoiodoiaa.va
open Go Go.Eng
set_option linter.unusedVariables false
set_option linter.unusedSectionVars false
set_option linter.unusedSimpArgs false
set_option maxRecDepth 100000
noncomputable def if1_0 : List MemoV := [(96, 7, w0_5, [.lit 81], .poly (polyN [5, 12, 19, 26, 33, 40, 68, 75, 82, 89, 96, 131, 138, 145, 152, 194, 201, 208, 257, 264, 320, 516, 523, 530, 537, 544, 579, 586, 593, 600, 642, 649, 656, 705, 712, 768, 1027, 1034, 1041, 1048, 1090, 1097, 1104, 1153, 1160, 1216, 1538, 1545, 1552, 1601, 1608, 1664, 2049, 2056, 2112, 2560, 4100, 4107, 4114, 4121, 4128, 4163, 4170, 4177, 4184, 4226, 4233, 4240, 4289, 4296, 4352, 4611, 4618, 4625, 4632, 4674, 4681, 4688, 4737, 4744, 4800, 5122, 5129, 5136, 5185, 5192, 5248, 5633, 5640, 5696, 6144, 8195, 8202, 8209, 8216, 8258, 8265, 8272, 8321, 8328, 8384, 8706, 8713, 8720, 8769, 8776, 8832, 9217, 9224, 9280, 9728, 12290, 12297, 12304, 12353, 12360, 12416, 12801, 12808, 12864, 13312, 16385, 16392, 16448, 16896, 20480]) 0 126 5 0 18446744073709551615)]
theorem if1_0_ok : allV Try.prog noSums if1_0 = true := by kernel_rfl
noncomputable def if1_1 : List MemoV := [(96, 7, w0_5, [.lit 65], .poly (polyN [4, 11, 18, 25, 32, 67, 74, 81, 88, 130, 137, 144, 193, 200, 256, 515, 522, 529, 536, 578, 585, 592, 641, 648, 704, 1026, 1033, 1040, 1089, 1096, 1152, 1537, 1544, 1600, 2048, 4099, 4106, 4113, 4120, 4162, 4169, 4176, 4225, 4232, 4288, 4610, 4617, 4624, 4673, 4680, 4736, 5121, 5128, 5184, 5632, 8194, 8201, 8208, 8257, 8264, 8320, 8705, 8712, 8768, 9216, 12289, 12296, 12352, 12800, 16384]) 0 70 4 0 18446744073709551615)]
theorem if1_1_ok : allV Try.prog noSums if1_1 = true := by kernel_rfl
noncomputable def if1_2 : List MemoV := [(96, 7, w0_5, [.lit 17], .poly (polyN [1, 8, 64, 512, 4096]) 0 5 1 0 18446744073709551615)]
theorem if1_2_ok : allV Try.prog noSums if1_2 = true := by kernel_rfl
noncomputable def if1_3 : List MemoV := [(96, 7, w0_5, [.lit 1], .lit 17)]
theorem if1_3_ok : allV Try.prog noSums if1_3 = true := by kernel_rfl
noncomputable def if1_4 : List MemoV := [(124, 7, w0_5, [.lit 65], .poly (polyN [585, 4169, 4617, 4673, 4680]) 0 5 4 0 18446744073709551615)]
theorem if1_4_ok : allV Try.prog noSums if1_4 = true := by kernel_rfl
noncomputable def if1_5 : List MemoV := [(124, 7, w0_5, [.lit 49], .poly (polyN [73, 521, 577, 584, 4105, 4161, 4168, 4609, 4616, 4672]) 0 10 3 0 18446744073709551615)]
theorem if1_5_ok : allV Try.prog noSums if1_5 = true := by kernel_rfl
noncomputable def if1_6 : List MemoV := [(124, 7, w0_5, [.lit 1], .lit 17)]
theorem if1_6_ok : allV Try.prog noSums if1_6 = true := by kernel_rfl
noncomputable def if1_7 : List MemoV := [(96, 7, w0_4, [.lit 97], .poly (polyN [6, 13, 20, 27, 34, 41, 48, 69, 76, 83, 90, 97, 104, 132, 139, 146, 153, 160, 195, 202, 209, 216, 258, 265, 272, 321, 328, 384, 517, 524, 531, 538, 545, 552, 580, 587, 594, 601, 608, 643, 650, 657, 664, 706, 713, 720, 769, 776, 832, 1028, 1035, 1042, 1049, 1056, 1091, 1098, 1105, 1112, 1154, 1161, 1168, 1217, 1224, 1280, 1539, 1546, 1553, 1560, 1602, 1609, 1616, 1665, 1672, 1728, 2050, 2057, 2064, 2113, 2120, 2176, 2561, 2568, 2624, 3072]) 0 84 6 0 18446744073709551615)]
theorem if1_7_ok : allV Try.prog noSums if1_7 = true := by kernel_rfl
noncomputable def if1_8 : List MemoV := [(96, 7, w0_4, [.lit 49], .poly (polyN [3, 10, 17, 24, 66, 73, 80, 129, 136, 192, 514, 521, 528, 577, 584, 640, 1025, 1032, 1088, 1536]) 0 20 3 0 18446744073709551615)]
theorem if1_8_ok : allV Try.prog noSums if1_8 = true := by kernel_rfl
noncomputable def if1_9 : List MemoV := [(96, 7, w0_4, [.lit 33], .poly (polyN [2, 9, 16, 65, 72, 128, 513, 520, 576, 1024]) 0 10 2 0 18446744073709551615)]
theorem if1_9_ok : allV Try.prog noSums if1_9 = true := by kernel_rfl
noncomputable def if1_10 : List MemoV := [(124, 7, w0_4, [.lit 97], .lit 1)]
theorem if1_10_ok : allV Try.prog noSums if1_10 = true := by kernel_rfl
noncomputable def if1_11 : List MemoV := [(124, 7, w0_4, [.lit 81], .lit 1)]
theorem if1_11_ok : allV Try.prog noSums if1_11 = true := by kernel_rfl
noncomputable def if1_12 : List MemoV := [(124, 7, w0_4, [.lit 33], .poly (polyN [9, 65, 72, 513, 520, 576]) 0 6 2 0 18446744073709551615)]
theorem if1_12_ok : allV Try.prog noSums if1_12 = true := by kernel_rfl
noncomputable def if1_13 : List MemoV := [(124, 7, w0_4, [.lit 17], .poly (polyN [1, 8, 64, 512]) 0 4 1 0 18446744073709551615)]
theorem if1_13_ok : allV Try.prog noSums if1_13 = true := by kernel_rfl
noncomputable def if1_14 : List MemoV := [(96, 7, w0_3, [.lit 81], .poly (polyN [5, 12, 19, 26, 33, 40, 68, 75, 82, 89, 96, 131, 138, 145, 152, 194, 201, 208, 257, 264, 320]) 0 21 5 0 18446744073709551615)]
theorem if1_14_ok : allV Try.prog noSums if1_14 = true := by kernel_rfl
noncomputable def if1_15 : List MemoV := [(96, 7, w0_3, [.lit 65], .poly (polyN [4, 11, 18, 25, 32, 67, 74, 81, 88, 130, 137, 144, 193, 200, 256]) 0 15 4 0 18446744073709551615)]
theorem if1_15_ok : allV Try.prog noSums if1_15 = true := by kernel_rfl
noncomputable def if1_16 : List MemoV := [(96, 7, w0_3, [.lit 17], .poly (polyN [1, 8, 64]) 0 3 1 0 18446744073709551615)]
theorem if1_16_ok : allV Try.prog noSums if1_16 = true := by kernel_rfl
noncomputable def if1_17 : List MemoV := [(96, 7, w0_3, [.lit 1], .lit 17)]
theorem if1_17_ok : allV Try.prog noSums if1_17 = true := by kernel_rfl
noncomputable def if1_18 : List MemoV := [(124, 7, w0_3, [.lit 65], .lit 1)]
theorem if1_18_ok : allV Try.prog noSums if1_18 = true := by kernel_rfl
noncomputable def if1_19 : List MemoV := [(124, 7, w0_3, [.lit 49], .poly (polyN [73]) 0 1 3 0 18446744073709551615)]
theorem if1_19_ok : allV Try.prog noSums if1_19 = true := by kernel_rfl
noncomputable def if1_20 : List MemoV := [(124, 7, w0_3, [.lit 1], .lit 17)]
theorem if1_20_ok : allV Try.prog noSums if1_20 = true := by kernel_rfl
noncomputable def if1_21 : List MemoV := [(96, 7, w0_2, [.lit 97], .poly (polyN [6, 13, 20, 27, 34, 41, 48]) 0 7 6 0 18446744073709551615)]
theorem if1_21_ok : allV Try.prog noSums if1_21 = true := by kernel_rfl
noncomputable def if1_22 : List MemoV := [(96, 7, w0_2, [.lit 49], .poly (polyN [3, 10, 17, 24]) 0 4 3 0 18446744073709551615)]
theorem if1_22_ok : allV Try.prog noSums if1_22 = true := by kernel_rfl
noncomputable def if1_23 : List MemoV := [(96, 7, w0_2, [.lit 33], .poly (polyN [2, 9, 16]) 0 3 2 0 18446744073709551615)]
theorem if1_23_ok : allV Try.prog noSums if1_23 = true := by kernel_rfl
noncomputable def if1_24 : List MemoV := [(124, 7, w0_2, [.lit 97], .lit 1)]
theorem if1_24_ok : allV Try.prog noSums if1_24 = true := by kernel_rfl
noncomputable def if1_25 : List MemoV := [(124, 7, w0_2, [.lit 81], .lit 1)]
theorem if1_25_ok : allV Try.prog noSums if1_25 = true := by kernel_rfl
noncomputable def if1_26 : List MemoV := [(124, 7, w0_2, [.lit 33], .poly (polyN [9]) 0 1 2 0 18446744073709551615)]
theorem if1_26_ok : allV Try.prog noSums if1_26 = true := by kernel_rfl
noncomputable def if1_27 : List MemoV := [(124, 7, w0_2, [.lit 17], .poly (polyN [1, 8]) 0 2 1 0 18446744073709551615)]
theorem if1_27_ok : allV Try.prog noSums if1_27 = true := by kernel_rfl
noncomputable def if1_28 : List MemoV := [(96, 7, w0_1, [.lit 81], .poly (polyN [5]) 0 1 5 0 18446744073709551615)]
theorem if1_28_ok : allV Try.prog noSums if1_28 = true := by kernel_rfl
noncomputable def if1_29 : List MemoV := [(96, 7, w0_1, [.lit 65], .poly (polyN [4]) 0 1 4 0 18446744073709551615)]
theorem if1_29_ok : allV Try.prog noSums if1_29 = true := by kernel_rfl
noncomputable def if1_30 : List MemoV := [(96, 7, w0_1, [.lit 17], .poly (polyN [1]) 0 1 1 0 18446744073709551615)]
theorem if1_30_ok : allV Try.prog noSums if1_30 = true := by kernel_rfl
noncomputable def if1_31 : List MemoV := [(96, 7, w0_1, [.lit 1], .lit 17)]
theorem if1_31_ok : allV Try.prog noSums if1_31 = true := by kernel_rfl
noncomputable def if1_32 : List MemoV := [(124, 7, w0_1, [.lit 65], .lit 1)]
theorem if1_32_ok : allV Try.prog noSums if1_32 = true := by kernel_rfl
noncomputable def if1_33 : List MemoV := [(124, 7, w0_1, [.lit 49], .lit 1)]
theorem if1_33_ok : allV Try.prog noSums if1_33 = true := by kernel_rfl
noncomputable def if1_34 : List MemoV := [(124, 7, w0_1, [.lit 1], .lit 17)]
theorem if1_34_ok : allV Try.prog noSums if1_34 = true := by kernel_rfl
noncomputable def v1fullS : Sums := onF 96 (orS (memoV if1_0) (orS (memoV if1_1) (orS (memoV if1_2) (orS (memoV if1_3) (orS (memoV if1_7) (orS (memoV if1_8) (orS (memoV if1_9) (orS (memoV if1_14) (orS (memoV if1_15) (orS (memoV if1_16) (orS (memoV if1_17) (orS (memoV if1_21) (orS (memoV if1_22) (orS (memoV if1_23) (orS (memoV if1_28) (orS (memoV if1_29) (orS (memoV if1_30) (memoV if1_31))))))))))))))))))
theorem v1full_al : Always Try.prog v1fullS := onF_always (orS_always (memoV_always _ (allV_all (noSums_always _) _ if1_0_ok)) (orS_always (memoV_always _ (allV_all (noSums_always _) _ if1_1_ok)) (orS_always (memoV_always _ (allV_all (noSums_always _) _ if1_2_ok)) (orS_always (memoV_always _ (allV_all (noSums_always _) _ if1_3_ok)) (orS_always (memoV_always _ (allV_all (noSums_always _) _ if1_7_ok)) (orS_always (memoV_always _ (allV_all (noSums_always _) _ if1_8_ok)) (orS_always (memoV_always _ (allV_all (noSums_always _) _ if1_9_ok)) (orS_always (memoV_always _ (allV_all (noSums_always _) _ if1_14_ok)) (orS_always (memoV_always _ (allV_all (noSums_always _) _ if1_15_ok)) (orS_always (memoV_always _ (allV_all (noSums_always _) _ if1_16_ok)) (orS_always (memoV_always _ (allV_all (noSums_always _) _ if1_17_ok)) (orS_always (memoV_always _ (allV_all (noSums_always _) _ if1_21_ok)) (orS_always (memoV_always _ (allV_all (noSums_always _) _ if1_22_ok)) (orS_always (memoV_always _ (allV_all (noSums_always _) _ if1_23_ok)) (orS_always (memoV_always _ (allV_all (noSums_always _) _ if1_28_ok)) (orS_always (memoV_always _ (allV_all (noSums_always _) _ if1_29_ok)) (orS_always (memoV_always _ (allV_all (noSums_always _) _ if1_30_ok)) (memoV_always _ (allV_all (noSums_always _) _ if1_31_ok)))))))))))))))))))
noncomputable def v1chosenS : Sums := onF 124 (orS (memoV if1_4) (orS (memoV if1_5) (orS (memoV if1_6) (orS (memoV if1_10) (orS (memoV if1_11) (orS (memoV if1_12) (orS (memoV if1_13) (orS (memoV if1_18) (orS (memoV if1_19) (orS (memoV if1_20) (orS (memoV if1_24) (orS (memoV if1_25) (orS (memoV if1_26) (orS (memoV if1_27) (orS (memoV if1_32) (orS (memoV if1_33) (memoV if1_34)))))))))))))))))
theorem v1chosen_al : Always Try.prog v1chosenS := onF_always (orS_always (memoV_always _ (allV_all (noSums_always _) _ if1_4_ok)) (orS_always (memoV_always _ (allV_all (noSums_always _) _ if1_5_ok)) (orS_always (memoV_always _ (allV_all (noSums_always _) _ if1_6_ok)) (orS_always (memoV_always _ (allV_all (noSums_always _) _ if1_10_ok)) (orS_always (memoV_always _ (allV_all (noSums_always _) _ if1_11_ok)) (orS_always (memoV_always _ (allV_all (noSums_always _) _ if1_12_ok)) (orS_always (memoV_always _ (allV_all (noSums_always _) _ if1_13_ok)) (orS_always (memoV_always _ (allV_all (noSums_always _) _ if1_18_ok)) (orS_always (memoV_always _ (allV_all (noSums_always _) _ if1_19_ok)) (orS_always (memoV_always _ (allV_all (noSums_always _) _ if1_20_ok)) (orS_always (memoV_always _ (allV_all (noSums_always _) _ if1_24_ok)) (orS_always (memoV_always _ (allV_all (noSums_always _) _ if1_25_ok)) (orS_always (memoV_always _ (allV_all (noSums_always _) _ if1_26_ok)) (orS_always (memoV_always _ (allV_all (noSums_always _) _ if1_27_ok)) (orS_always (memoV_always _ (allV_all (noSums_always _) _ if1_32_ok)) (orS_always (memoV_always _ (allV_all (noSums_always _) _ if1_33_ok)) (memoV_always _ (allV_all (noSums_always _) _ if1_34_ok))))))))))))))))))
end Go.Proofs.Yteapghgoiodoiaa.va
