/- What is known of calls of the program at a seat. -/
import Derived.Test.YteapghgoiodoiaaVaH
namespace Go.Proofs.Yteapghgoiodoiaa.va
open Go Go.Eng
set_option linter.unusedVariables false
set_option linter.unusedSectionVars false
set_option linter.unusedSimpArgs false
set_option maxRecDepth 100000
noncomputable def if0_0 : List MemoV := [(96, 7, w0_5, [.lit 97], .poly (polyN [6, 13, 20, 27, 34, 41, 48, 69, 76, 83, 90, 97, 104, 132, 139, 146, 153, 160, 195, 202, 209, 216, 258, 265, 272, 321, 328, 384, 517, 524, 531, 538, 545, 552, 580, 587, 594, 601, 608, 643, 650, 657, 664, 706, 713, 720, 769, 776, 832, 1028, 1035, 1042, 1049, 1056, 1091, 1098, 1105, 1112, 1154, 1161, 1168, 1217, 1224, 1280, 1539, 1546, 1553, 1560, 1602, 1609, 1616, 1665, 1672, 1728, 2050, 2057, 2064, 2113, 2120, 2176, 2561, 2568, 2624, 3072, 4101, 4108, 4115, 4122, 4129, 4136, 4164, 4171, 4178, 4185, 4192, 4227, 4234, 4241, 4248, 4290, 4297, 4304, 4353, 4360, 4416, 4612, 4619, 4626, 4633, 4640, 4675, 4682, 4689, 4696, 4738, 4745, 4752, 4801, 4808, 4864, 5123, 5130, 5137, 5144, 5186, 5193, 5200, 5249, 5256, 5312, 5634, 5641, 5648, 5697, 5704, 5760, 6145, 6152, 6208, 6656, 8196, 8203, 8210, 8217, 8224, 8259, 8266, 8273, 8280, 8322, 8329, 8336, 8385, 8392, 8448, 8707, 8714, 8721, 8728, 8770, 8777, 8784, 8833, 8840, 8896, 9218, 9225, 9232, 9281, 9288, 9344, 9729, 9736, 9792, 10240, 12291, 12298, 12305, 12312, 12354, 12361, 12368, 12417, 12424, 12480, 12802, 12809, 12816, 12865, 12872, 12928, 13313, 13320, 13376, 13824, 16386, 16393, 16400, 16449, 16456, 16512, 16897, 16904, 16960, 17408, 20481, 20488, 20544, 20992, 24576]) 0 210 6 0 18446744073709551615)]
theorem if0_0_ok : allV Try.prog noSums if0_0 = true := by kernel_rfl
noncomputable def if0_1 : List MemoV := [(96, 7, w0_5, [.lit 49], .poly (polyN [3, 10, 17, 24, 66, 73, 80, 129, 136, 192, 514, 521, 528, 577, 584, 640, 1025, 1032, 1088, 1536, 4098, 4105, 4112, 4161, 4168, 4224, 4609, 4616, 4672, 5120, 8193, 8200, 8256, 8704, 12288]) 0 35 3 0 18446744073709551615)]
theorem if0_1_ok : allV Try.prog noSums if0_1 = true := by kernel_rfl
noncomputable def if0_2 : List MemoV := [(96, 7, w0_5, [.lit 33], .poly (polyN [2, 9, 16, 65, 72, 128, 513, 520, 576, 1024, 4097, 4104, 4160, 4608, 8192]) 0 15 2 0 18446744073709551615)]
theorem if0_2_ok : allV Try.prog noSums if0_2 = true := by kernel_rfl
noncomputable def if0_3 : List MemoV := [(124, 7, w0_5, [.lit 97], .lit 1)]
theorem if0_3_ok : allV Try.prog noSums if0_3 = true := by kernel_rfl
noncomputable def if0_4 : List MemoV := [(124, 7, w0_5, [.lit 81], .poly (polyN [4681]) 0 1 5 0 18446744073709551615)]
theorem if0_4_ok : allV Try.prog noSums if0_4 = true := by kernel_rfl
noncomputable def if0_5 : List MemoV := [(124, 7, w0_5, [.lit 33], .poly (polyN [9, 65, 72, 513, 520, 576, 4097, 4104, 4160, 4608]) 0 10 2 0 18446744073709551615)]
theorem if0_5_ok : allV Try.prog noSums if0_5 = true := by kernel_rfl
noncomputable def if0_6 : List MemoV := [(124, 7, w0_5, [.lit 17], .poly (polyN [1, 8, 64, 512, 4096]) 0 5 1 0 18446744073709551615)]
theorem if0_6_ok : allV Try.prog noSums if0_6 = true := by kernel_rfl
noncomputable def if0_7 : List MemoV := [(96, 7, w0_4, [.lit 81], .poly (polyN [5, 12, 19, 26, 33, 40, 68, 75, 82, 89, 96, 131, 138, 145, 152, 194, 201, 208, 257, 264, 320, 516, 523, 530, 537, 544, 579, 586, 593, 600, 642, 649, 656, 705, 712, 768, 1027, 1034, 1041, 1048, 1090, 1097, 1104, 1153, 1160, 1216, 1538, 1545, 1552, 1601, 1608, 1664, 2049, 2056, 2112, 2560]) 0 56 5 0 18446744073709551615)]
theorem if0_7_ok : allV Try.prog noSums if0_7 = true := by kernel_rfl
noncomputable def if0_8 : List MemoV := [(96, 7, w0_4, [.lit 65], .poly (polyN [4, 11, 18, 25, 32, 67, 74, 81, 88, 130, 137, 144, 193, 200, 256, 515, 522, 529, 536, 578, 585, 592, 641, 648, 704, 1026, 1033, 1040, 1089, 1096, 1152, 1537, 1544, 1600, 2048]) 0 35 4 0 18446744073709551615)]
theorem if0_8_ok : allV Try.prog noSums if0_8 = true := by kernel_rfl
noncomputable def if0_9 : List MemoV := [(96, 7, w0_4, [.lit 17], .poly (polyN [1, 8, 64, 512]) 0 4 1 0 18446744073709551615)]
theorem if0_9_ok : allV Try.prog noSums if0_9 = true := by kernel_rfl
noncomputable def if0_10 : List MemoV := [(96, 7, w0_4, [.lit 1], .lit 17)]
theorem if0_10_ok : allV Try.prog noSums if0_10 = true := by kernel_rfl
noncomputable def if0_11 : List MemoV := [(124, 7, w0_4, [.lit 65], .poly (polyN [585]) 0 1 4 0 18446744073709551615)]
theorem if0_11_ok : allV Try.prog noSums if0_11 = true := by kernel_rfl
noncomputable def if0_12 : List MemoV := [(124, 7, w0_4, [.lit 49], .poly (polyN [73, 521, 577, 584]) 0 4 3 0 18446744073709551615)]
theorem if0_12_ok : allV Try.prog noSums if0_12 = true := by kernel_rfl
noncomputable def if0_13 : List MemoV := [(124, 7, w0_4, [.lit 1], .lit 17)]
theorem if0_13_ok : allV Try.prog noSums if0_13 = true := by kernel_rfl
noncomputable def if0_14 : List MemoV := [(96, 7, w0_3, [.lit 97], .poly (polyN [6, 13, 20, 27, 34, 41, 48, 69, 76, 83, 90, 97, 104, 132, 139, 146, 153, 160, 195, 202, 209, 216, 258, 265, 272, 321, 328, 384]) 0 28 6 0 18446744073709551615)]
theorem if0_14_ok : allV Try.prog noSums if0_14 = true := by kernel_rfl
noncomputable def if0_15 : List MemoV := [(96, 7, w0_3, [.lit 49], .poly (polyN [3, 10, 17, 24, 66, 73, 80, 129, 136, 192]) 0 10 3 0 18446744073709551615)]
theorem if0_15_ok : allV Try.prog noSums if0_15 = true := by kernel_rfl
noncomputable def if0_16 : List MemoV := [(96, 7, w0_3, [.lit 33], .poly (polyN [2, 9, 16, 65, 72, 128]) 0 6 2 0 18446744073709551615)]
theorem if0_16_ok : allV Try.prog noSums if0_16 = true := by kernel_rfl
noncomputable def if0_17 : List MemoV := [(124, 7, w0_3, [.lit 97], .lit 1)]
theorem if0_17_ok : allV Try.prog noSums if0_17 = true := by kernel_rfl
noncomputable def if0_18 : List MemoV := [(124, 7, w0_3, [.lit 81], .lit 1)]
theorem if0_18_ok : allV Try.prog noSums if0_18 = true := by kernel_rfl
noncomputable def if0_19 : List MemoV := [(124, 7, w0_3, [.lit 33], .poly (polyN [9, 65, 72]) 0 3 2 0 18446744073709551615)]
theorem if0_19_ok : allV Try.prog noSums if0_19 = true := by kernel_rfl
noncomputable def if0_20 : List MemoV := [(124, 7, w0_3, [.lit 17], .poly (polyN [1, 8, 64]) 0 3 1 0 18446744073709551615)]
theorem if0_20_ok : allV Try.prog noSums if0_20 = true := by kernel_rfl
noncomputable def if0_21 : List MemoV := [(96, 7, w0_2, [.lit 81], .poly (polyN [5, 12, 19, 26, 33, 40]) 0 6 5 0 18446744073709551615)]
theorem if0_21_ok : allV Try.prog noSums if0_21 = true := by kernel_rfl
noncomputable def if0_22 : List MemoV := [(96, 7, w0_2, [.lit 65], .poly (polyN [4, 11, 18, 25, 32]) 0 5 4 0 18446744073709551615)]
theorem if0_22_ok : allV Try.prog noSums if0_22 = true := by kernel_rfl
noncomputable def if0_23 : List MemoV := [(96, 7, w0_2, [.lit 17], .poly (polyN [1, 8]) 0 2 1 0 18446744073709551615)]
theorem if0_23_ok : allV Try.prog noSums if0_23 = true := by kernel_rfl
noncomputable def if0_24 : List MemoV := [(96, 7, w0_2, [.lit 1], .lit 17)]
theorem if0_24_ok : allV Try.prog noSums if0_24 = true := by kernel_rfl
noncomputable def if0_25 : List MemoV := [(124, 7, w0_2, [.lit 65], .lit 1)]
theorem if0_25_ok : allV Try.prog noSums if0_25 = true := by kernel_rfl
noncomputable def if0_26 : List MemoV := [(124, 7, w0_2, [.lit 49], .lit 1)]
theorem if0_26_ok : allV Try.prog noSums if0_26 = true := by kernel_rfl
noncomputable def if0_27 : List MemoV := [(124, 7, w0_2, [.lit 1], .lit 17)]
theorem if0_27_ok : allV Try.prog noSums if0_27 = true := by kernel_rfl
noncomputable def if0_28 : List MemoV := [(96, 7, w0_1, [.lit 97], .poly (polyN [6]) 0 1 6 0 18446744073709551615)]
theorem if0_28_ok : allV Try.prog noSums if0_28 = true := by kernel_rfl
noncomputable def if0_29 : List MemoV := [(96, 7, w0_1, [.lit 49], .poly (polyN [3]) 0 1 3 0 18446744073709551615)]
theorem if0_29_ok : allV Try.prog noSums if0_29 = true := by kernel_rfl
noncomputable def if0_30 : List MemoV := [(96, 7, w0_1, [.lit 33], .poly (polyN [2]) 0 1 2 0 18446744073709551615)]
theorem if0_30_ok : allV Try.prog noSums if0_30 = true := by kernel_rfl
noncomputable def if0_31 : List MemoV := [(124, 7, w0_1, [.lit 97], .lit 1)]
theorem if0_31_ok : allV Try.prog noSums if0_31 = true := by kernel_rfl
noncomputable def if0_32 : List MemoV := [(124, 7, w0_1, [.lit 81], .lit 1)]
theorem if0_32_ok : allV Try.prog noSums if0_32 = true := by kernel_rfl
noncomputable def if0_33 : List MemoV := [(124, 7, w0_1, [.lit 33], .lit 1)]
theorem if0_33_ok : allV Try.prog noSums if0_33 = true := by kernel_rfl
noncomputable def if0_34 : List MemoV := [(124, 7, w0_1, [.lit 17], .poly (polyN [1]) 0 1 1 0 18446744073709551615)]
theorem if0_34_ok : allV Try.prog noSums if0_34 = true := by kernel_rfl
noncomputable def v0fullS : Sums := onF 96 (orS (memoV if0_0) (orS (memoV if0_1) (orS (memoV if0_2) (orS (memoV if0_7) (orS (memoV if0_8) (orS (memoV if0_9) (orS (memoV if0_10) (orS (memoV if0_14) (orS (memoV if0_15) (orS (memoV if0_16) (orS (memoV if0_21) (orS (memoV if0_22) (orS (memoV if0_23) (orS (memoV if0_24) (orS (memoV if0_28) (orS (memoV if0_29) (memoV if0_30)))))))))))))))))
theorem v0full_al : Always Try.prog v0fullS := onF_always (orS_always (memoV_always _ (allV_all (noSums_always _) _ if0_0_ok)) (orS_always (memoV_always _ (allV_all (noSums_always _) _ if0_1_ok)) (orS_always (memoV_always _ (allV_all (noSums_always _) _ if0_2_ok)) (orS_always (memoV_always _ (allV_all (noSums_always _) _ if0_7_ok)) (orS_always (memoV_always _ (allV_all (noSums_always _) _ if0_8_ok)) (orS_always (memoV_always _ (allV_all (noSums_always _) _ if0_9_ok)) (orS_always (memoV_always _ (allV_all (noSums_always _) _ if0_10_ok)) (orS_always (memoV_always _ (allV_all (noSums_always _) _ if0_14_ok)) (orS_always (memoV_always _ (allV_all (noSums_always _) _ if0_15_ok)) (orS_always (memoV_always _ (allV_all (noSums_always _) _ if0_16_ok)) (orS_always (memoV_always _ (allV_all (noSums_always _) _ if0_21_ok)) (orS_always (memoV_always _ (allV_all (noSums_always _) _ if0_22_ok)) (orS_always (memoV_always _ (allV_all (noSums_always _) _ if0_23_ok)) (orS_always (memoV_always _ (allV_all (noSums_always _) _ if0_24_ok)) (orS_always (memoV_always _ (allV_all (noSums_always _) _ if0_28_ok)) (orS_always (memoV_always _ (allV_all (noSums_always _) _ if0_29_ok)) (memoV_always _ (allV_all (noSums_always _) _ if0_30_ok))))))))))))))))))
noncomputable def v0chosenS : Sums := onF 124 (orS (memoV if0_3) (orS (memoV if0_4) (orS (memoV if0_5) (orS (memoV if0_6) (orS (memoV if0_11) (orS (memoV if0_12) (orS (memoV if0_13) (orS (memoV if0_17) (orS (memoV if0_18) (orS (memoV if0_19) (orS (memoV if0_20) (orS (memoV if0_25) (orS (memoV if0_26) (orS (memoV if0_27) (orS (memoV if0_31) (orS (memoV if0_32) (orS (memoV if0_33) (memoV if0_34))))))))))))))))))
theorem v0chosen_al : Always Try.prog v0chosenS := onF_always (orS_always (memoV_always _ (allV_all (noSums_always _) _ if0_3_ok)) (orS_always (memoV_always _ (allV_all (noSums_always _) _ if0_4_ok)) (orS_always (memoV_always _ (allV_all (noSums_always _) _ if0_5_ok)) (orS_always (memoV_always _ (allV_all (noSums_always _) _ if0_6_ok)) (orS_always (memoV_always _ (allV_all (noSums_always _) _ if0_11_ok)) (orS_always (memoV_always _ (allV_all (noSums_always _) _ if0_12_ok)) (orS_always (memoV_always _ (allV_all (noSums_always _) _ if0_13_ok)) (orS_always (memoV_always _ (allV_all (noSums_always _) _ if0_17_ok)) (orS_always (memoV_always _ (allV_all (noSums_always _) _ if0_18_ok)) (orS_always (memoV_always _ (allV_all (noSums_always _) _ if0_19_ok)) (orS_always (memoV_always _ (allV_all (noSums_always _) _ if0_20_ok)) (orS_always (memoV_always _ (allV_all (noSums_always _) _ if0_25_ok)) (orS_always (memoV_always _ (allV_all (noSums_always _) _ if0_26_ok)) (orS_always (memoV_always _ (allV_all (noSums_always _) _ if0_27_ok)) (orS_always (memoV_always _ (allV_all (noSums_always _) _ if0_31_ok)) (orS_always (memoV_always _ (allV_all (noSums_always _) _ if0_32_ok)) (orS_always (memoV_always _ (allV_all (noSums_always _) _ if0_33_ok)) (memoV_always _ (allV_all (noSums_always _) _ if0_34_ok)))))))))))))))))))
end Go.Proofs.Yteapghgoiodoiaa.va
