/- What is known of calls of the program at a seat. -/
import Derived.Test.YteapghgoiodoiaaVaH
namespace Go.Proofs.Yteapghgoiodoiaa.va
open Go Go.Eng
set_option linter.unusedVariables false
set_option linter.unusedSectionVars false
set_option linter.unusedSimpArgs false
set_option maxRecDepth 100000
noncomputable def ip5_0 : List MemoV := [(123, 7, w0_5, [.row [49, 33, 17]], .poly (polyN [83, 90, 139, 153, 202, 209, 531, 538, 643, 664, 706, 720, 1035, 1049, 1091, 1112, 1217, 1224, 1546, 1553, 1602, 1616, 1665, 1672, 4115, 4122, 4227, 4248, 4290, 4304, 5123, 5144, 5312, 5634, 5648, 5760, 8203, 8217, 8259, 8280, 8385, 8392, 8707, 8728, 8896, 9729, 9736, 9792, 12298, 12305, 12354, 12368, 12417, 12424, 12802, 12816, 12928, 13313, 13320, 13376]) 0 60 6 0 18446744073709551615)]
theorem ip5_0_ok : allV Try.prog noSums ip5_0 = true := by kernel_rfl
noncomputable def ip5_1 : List MemoV := [(123, 7, w0_5, [.row [33, 17, 17, 17]], .poly (polyN [586, 593, 649, 1097, 4170, 4177, 4233, 4618, 4625, 4674, 4688, 4737, 4744, 5129, 5185, 5192, 8265, 8713, 8769, 8776]) 0 20 5 0 18446744073709551615)]
theorem ip5_1_ok : allV Try.prog noSums ip5_1 = true := by kernel_rfl
noncomputable def ip5_2 : List MemoV := [(123, 7, w0_5, [.row [33, 17, 17]], .poly (polyN [74, 81, 137, 522, 529, 578, 592, 641, 648, 1033, 1089, 1096, 4106, 4113, 4162, 4176, 4225, 4232, 4610, 4624, 4736, 5121, 5128, 5184, 8201, 8257, 8264, 8705, 8712, 8768]) 0 30 4 0 18446744073709551615)]
theorem ip5_2_ok : allV Try.prog noSums ip5_2 = true := by kernel_rfl
noncomputable def ip5_3 : List MemoV := [(123, 7, w0_5, [.row [17, 17]], .poly (polyN [9, 65, 72, 513, 520, 576, 4097, 4104, 4160, 4608]) 0 10 2 0 18446744073709551615)]
theorem ip5_3_ok : allV Try.prog noSums ip5_3 = true := by kernel_rfl
noncomputable def ip5_4 : List MemoV := [(123, 7, w0_4, [.row [49, 17, 17, 17]], .poly (polyN [587, 601, 713, 1609]) 0 4 6 0 18446744073709551615)]
theorem ip5_4_ok : allV Try.prog noSums ip5_4 = true := by kernel_rfl
noncomputable def ip5_5 : List MemoV := [(123, 7, w0_4, [.row [17, 17, 17, 17, 17]], .lit 1)]
theorem ip5_5_ok : allV Try.prog noSums ip5_5 = true := by kernel_rfl
noncomputable def ip5_6 : List MemoV := [(123, 7, w0_4, [.row [17, 17]], .poly (polyN [9, 65, 72, 513, 520, 576]) 0 6 2 0 18446744073709551615)]
theorem ip5_6_ok : allV Try.prog noSums ip5_6 = true := by kernel_rfl
noncomputable def ip5_7 : List MemoV := [(123, 7, w0_3, [.row [49, 17, 17, 17]], .lit 1)]
theorem ip5_7_ok : allV Try.prog noSums ip5_7 = true := by kernel_rfl
noncomputable def ip5_8 : List MemoV := [(123, 7, w0_3, [.row [17, 17, 17, 17, 17]], .lit 1)]
theorem ip5_8_ok : allV Try.prog noSums ip5_8 = true := by kernel_rfl
noncomputable def ip5_9 : List MemoV := [(123, 7, w0_3, [.row [17, 17, 17, 17]], .lit 1)]
theorem ip5_9_ok : allV Try.prog noSums ip5_9 = true := by kernel_rfl
noncomputable def ip5_10 : List MemoV := [(123, 7, w0_3, [.row [49]], .poly (polyN [3, 24, 192]) 0 3 3 0 18446744073709551615)]
theorem ip5_10_ok : allV Try.prog noSums ip5_10 = true := by kernel_rfl
noncomputable def ip5_11 : List MemoV := [(123, 7, w0_2, [.row [33, 33, 33]], .lit 1)]
theorem ip5_11_ok : allV Try.prog noSums ip5_11 = true := by kernel_rfl
noncomputable def ip5_12 : List MemoV := [(123, 7, w0_2, [.row [97]], .poly (polyN [6, 48]) 0 2 6 0 18446744073709551615)]
theorem ip5_12_ok : allV Try.prog noSums ip5_12 = true := by kernel_rfl
noncomputable def ip5_13 : List MemoV := [(123, 7, w0_2, [.row [81]], .poly (polyN [5, 40]) 0 2 5 0 18446744073709551615)]
theorem ip5_13_ok : allV Try.prog noSums ip5_13 = true := by kernel_rfl
noncomputable def ip5_14 : List MemoV := [(123, 7, w0_1, [.row [33, 33, 33]], .lit 1)]
theorem ip5_14_ok : allV Try.prog noSums ip5_14 = true := by kernel_rfl
noncomputable def ip5_15 : List MemoV := [(123, 7, w0_1, [.row [97]], .poly (polyN [6]) 0 1 6 0 18446744073709551615)]
theorem ip5_15_ok : allV Try.prog noSums ip5_15 = true := by kernel_rfl
noncomputable def ip5_16 : List MemoV := [(123, 7, w0_1, [.row [81]], .poly (polyN [5]) 0 1 5 0 18446744073709551615)]
theorem ip5_16_ok : allV Try.prog noSums ip5_16 = true := by kernel_rfl
noncomputable def ip5_17 : List MemoV := [(123, 7, w0_1, [.row [33, 17]], .lit 1)]
theorem ip5_17_ok : allV Try.prog noSums ip5_17 = true := by kernel_rfl
noncomputable def v5plainS : Sums := onF 123 (orS (memoV ip5_0) (orS (memoV ip5_1) (orS (memoV ip5_2) (orS (memoV ip5_3) (orS (memoV ip5_4) (orS (memoV ip5_5) (orS (memoV ip5_6) (orS (memoV ip5_7) (orS (memoV ip5_8) (orS (memoV ip5_9) (orS (memoV ip5_10) (orS (memoV ip5_11) (orS (memoV ip5_12) (orS (memoV ip5_13) (orS (memoV ip5_14) (orS (memoV ip5_15) (orS (memoV ip5_16) (memoV ip5_17))))))))))))))))))
theorem v5plain_al : Always Try.prog v5plainS := onF_always (orS_always (memoV_always _ (allV_all (noSums_always _) _ ip5_0_ok)) (orS_always (memoV_always _ (allV_all (noSums_always _) _ ip5_1_ok)) (orS_always (memoV_always _ (allV_all (noSums_always _) _ ip5_2_ok)) (orS_always (memoV_always _ (allV_all (noSums_always _) _ ip5_3_ok)) (orS_always (memoV_always _ (allV_all (noSums_always _) _ ip5_4_ok)) (orS_always (memoV_always _ (allV_all (noSums_always _) _ ip5_5_ok)) (orS_always (memoV_always _ (allV_all (noSums_always _) _ ip5_6_ok)) (orS_always (memoV_always _ (allV_all (noSums_always _) _ ip5_7_ok)) (orS_always (memoV_always _ (allV_all (noSums_always _) _ ip5_8_ok)) (orS_always (memoV_always _ (allV_all (noSums_always _) _ ip5_9_ok)) (orS_always (memoV_always _ (allV_all (noSums_always _) _ ip5_10_ok)) (orS_always (memoV_always _ (allV_all (noSums_always _) _ ip5_11_ok)) (orS_always (memoV_always _ (allV_all (noSums_always _) _ ip5_12_ok)) (orS_always (memoV_always _ (allV_all (noSums_always _) _ ip5_13_ok)) (orS_always (memoV_always _ (allV_all (noSums_always _) _ ip5_14_ok)) (orS_always (memoV_always _ (allV_all (noSums_always _) _ ip5_15_ok)) (orS_always (memoV_always _ (allV_all (noSums_always _) _ ip5_16_ok)) (memoV_always _ (allV_all (noSums_always _) _ ip5_17_ok)))))))))))))))))))
end Go.Proofs.Yteapghgoiodoiaa.va
