/- What is known of calls of the program at a seat. -/
import Derived.Test.YteapghgoiodoiaaVaH
namespace Go.Proofs.Yteapghgoiodoiaa.va
open Go Go.Eng
set_option linter.unusedVariables false
set_option linter.unusedSectionVars false
set_option linter.unusedSimpArgs false
set_option maxRecDepth 100000
noncomputable def ip2_0 : List MemoV := [(123, 7, w0_5, [.row [33, 33, 17, 17]], .poly (polyN [594, 650, 657, 1098, 1105, 1161, 4178, 4234, 4241, 4626, 4738, 4752, 5130, 5137, 5186, 5200, 5249, 5256, 8266, 8273, 8329, 8714, 8721, 8770, 8784, 8833, 8840, 9225, 9281, 9288]) 0 30 6 0 18446744073709551615)]
theorem ip2_0_ok : allV Try.prog noSums ip2_0 = true := by kernel_rfl
noncomputable def ip2_1 : List MemoV := [(123, 7, w0_5, [.row [81, 17]], .poly (polyN [13, 41, 69, 104, 321, 328, 517, 552, 832, 2561, 2568, 2624, 4101, 4136, 4416, 6656, 20481, 20488, 20544, 20992]) 0 20 6 0 18446744073709551615)]
theorem ip2_1_ok : allV Try.prog noSums ip2_1 = true := by kernel_rfl
noncomputable def ip2_2 : List MemoV := [(123, 7, w0_5, [.row [65, 17]], .poly (polyN [12, 33, 68, 96, 257, 264, 516, 544, 768, 2049, 2056, 2112, 4100, 4128, 4352, 6144, 16385, 16392, 16448, 16896]) 0 20 5 0 18446744073709551615)]
theorem ip2_2_ok : allV Try.prog noSums ip2_2 = true := by kernel_rfl
noncomputable def ip2_3 : List MemoV := [(123, 7, w0_4, [.row [33, 33, 17, 17]], .poly (polyN [594, 650, 657, 1098, 1105, 1161]) 0 6 6 0 18446744073709551615)]
theorem ip2_3_ok : allV Try.prog noSums ip2_3 = true := by kernel_rfl
noncomputable def ip2_4 : List MemoV := [(123, 7, w0_4, [.row [81, 17]], .poly (polyN [13, 41, 69, 104, 321, 328, 517, 552, 832, 2561, 2568, 2624]) 0 12 6 0 18446744073709551615)]
theorem ip2_4_ok : allV Try.prog noSums ip2_4 = true := by kernel_rfl
noncomputable def ip2_5 : List MemoV := [(123, 7, w0_4, [.row [65, 17]], .poly (polyN [12, 33, 68, 96, 257, 264, 516, 544, 768, 2049, 2056, 2112]) 0 12 5 0 18446744073709551615)]
theorem ip2_5_ok : allV Try.prog noSums ip2_5 = true := by kernel_rfl
noncomputable def ip2_6 : List MemoV := [(123, 7, w0_4, [.row [17, 17, 17]], .poly (polyN [73, 521, 577, 584]) 0 4 3 0 18446744073709551615)]
theorem ip2_6_ok : allV Try.prog noSums ip2_6 = true := by kernel_rfl
noncomputable def ip2_7 : List MemoV := [(123, 7, w0_3, [.row [33, 17, 17, 17, 17]], .lit 1)]
theorem ip2_7_ok : allV Try.prog noSums ip2_7 = true := by kernel_rfl
noncomputable def ip2_8 : List MemoV := [(123, 7, w0_3, [.row [65, 33]], .poly (polyN [20, 34, 132, 160, 258, 272]) 0 6 6 0 18446744073709551615)]
theorem ip2_8_ok : allV Try.prog noSums ip2_8 = true := by kernel_rfl
noncomputable def ip2_9 : List MemoV := [(123, 7, w0_3, [.row [49, 33]], .poly (polyN [19, 26, 131, 152, 194, 208]) 0 6 5 0 18446744073709551615)]
theorem ip2_9_ok : allV Try.prog noSums ip2_9 = true := by kernel_rfl
noncomputable def ip2_10 : List MemoV := [(123, 7, w0_3, [.row [65]], .poly (polyN [4, 32, 256]) 0 3 4 0 18446744073709551615)]
theorem ip2_10_ok : allV Try.prog noSums ip2_10 = true := by kernel_rfl
noncomputable def ip2_11 : List MemoV := [(123, 7, w0_2, [.row [65, 33]], .poly (polyN [20, 34]) 0 2 6 0 18446744073709551615)]
theorem ip2_11_ok : allV Try.prog noSums ip2_11 = true := by kernel_rfl
noncomputable def ip2_12 : List MemoV := [(123, 7, w0_2, [.row [49, 33]], .poly (polyN [19, 26]) 0 2 5 0 18446744073709551615)]
theorem ip2_12_ok : allV Try.prog noSums ip2_12 = true := by kernel_rfl
noncomputable def ip2_13 : List MemoV := [(123, 7, w0_2, [.row [65]], .poly (polyN [4, 32]) 0 2 4 0 18446744073709551615)]
theorem ip2_13_ok : allV Try.prog noSums ip2_13 = true := by kernel_rfl
noncomputable def ip2_14 : List MemoV := [(123, 7, w0_1, [.row [17, 17, 17, 17, 17, 17]], .lit 1)]
theorem ip2_14_ok : allV Try.prog noSums ip2_14 = true := by kernel_rfl
noncomputable def ip2_15 : List MemoV := [(123, 7, w0_1, [.row [65, 17, 17]], .lit 1)]
theorem ip2_15_ok : allV Try.prog noSums ip2_15 = true := by kernel_rfl
noncomputable def ip2_16 : List MemoV := [(123, 7, w0_1, [.row [49, 17, 17]], .lit 1)]
theorem ip2_16_ok : allV Try.prog noSums ip2_16 = true := by kernel_rfl
noncomputable def ip2_17 : List MemoV := [(123, 7, w0_1, [.row [49, 17]], .lit 1)]
theorem ip2_17_ok : allV Try.prog noSums ip2_17 = true := by kernel_rfl
noncomputable def ip2_18 : List MemoV := [(123, 7, w0_1, [.row [17]], .poly (polyN [1]) 0 1 1 0 18446744073709551615)]
theorem ip2_18_ok : allV Try.prog noSums ip2_18 = true := by kernel_rfl
noncomputable def v2plainS : Sums := onF 123 (orS (memoV ip2_0) (orS (memoV ip2_1) (orS (memoV ip2_2) (orS (memoV ip2_3) (orS (memoV ip2_4) (orS (memoV ip2_5) (orS (memoV ip2_6) (orS (memoV ip2_7) (orS (memoV ip2_8) (orS (memoV ip2_9) (orS (memoV ip2_10) (orS (memoV ip2_11) (orS (memoV ip2_12) (orS (memoV ip2_13) (orS (memoV ip2_14) (orS (memoV ip2_15) (orS (memoV ip2_16) (orS (memoV ip2_17) (memoV ip2_18)))))))))))))))))))
theorem v2plain_al : Always Try.prog v2plainS := onF_always (orS_always (memoV_always _ (allV_all (noSums_always _) _ ip2_0_ok)) (orS_always (memoV_always _ (allV_all (noSums_always _) _ ip2_1_ok)) (orS_always (memoV_always _ (allV_all (noSums_always _) _ ip2_2_ok)) (orS_always (memoV_always _ (allV_all (noSums_always _) _ ip2_3_ok)) (orS_always (memoV_always _ (allV_all (noSums_always _) _ ip2_4_ok)) (orS_always (memoV_always _ (allV_all (noSums_always _) _ ip2_5_ok)) (orS_always (memoV_always _ (allV_all (noSums_always _) _ ip2_6_ok)) (orS_always (memoV_always _ (allV_all (noSums_always _) _ ip2_7_ok)) (orS_always (memoV_always _ (allV_all (noSums_always _) _ ip2_8_ok)) (orS_always (memoV_always _ (allV_all (noSums_always _) _ ip2_9_ok)) (orS_always (memoV_always _ (allV_all (noSums_always _) _ ip2_10_ok)) (orS_always (memoV_always _ (allV_all (noSums_always _) _ ip2_11_ok)) (orS_always (memoV_always _ (allV_all (noSums_always _) _ ip2_12_ok)) (orS_always (memoV_always _ (allV_all (noSums_always _) _ ip2_13_ok)) (orS_always (memoV_always _ (allV_all (noSums_always _) _ ip2_14_ok)) (orS_always (memoV_always _ (allV_all (noSums_always _) _ ip2_15_ok)) (orS_always (memoV_always _ (allV_all (noSums_always _) _ ip2_16_ok)) (orS_always (memoV_always _ (allV_all (noSums_always _) _ ip2_17_ok)) (memoV_always _ (allV_all (noSums_always _) _ ip2_18_ok))))))))))))))))))))
end Go.Proofs.Yteapghgoiodoiaa.va
