/- What is known of calls of the program at a seat. -/
import Derived.Test.YtnglbchhlpbgkaaVaH
namespace Go.Proofs.Ytnglbchhlpbgkaa.va
open Go Go.Eng
set_option linter.unusedVariables false
set_option linter.unusedSectionVars false
set_option linter.unusedSimpArgs false
set_option maxRecDepth 100000
noncomputable def ip3_0 : List MemoV := [(88, 7, w0_5, [.row [33, 33, 33]], .poly (polyN [314, 3482, 3746, 3768, 41498, 41762, 41784, 44930, 44952, 45216]) 0 10 6 9223372036854619558 9223372036854932058)]
theorem ip3_0_ok : allV Try.prog noSums ip3_0 = true := by kernel_rfl
noncomputable def ip3_1 : List MemoV := [(88, 7, w0_5, [.row [49, 49]], .poly (polyN [39, 435, 468, 5187, 5220, 5616, 62211, 62244, 62640, 67392]) 0 10 6 9223372036854619558 9223372036854932058)]
theorem ip3_1_ok : allV Try.prog noSums ip3_1 = true := by kernel_rfl
noncomputable def ip3_2 : List MemoV := [(88, 7, w0_5, [.row [81, 17]], .poly (polyN [17, 61, 149, 204, 721, 732, 1733, 1788, 2448, 8641, 8652, 8784, 20741, 20796, 21456, 29376, 103681, 103692, 103824, 105408]) 0 20 6 9223372036854463308 9223372036855088308)]
theorem ip3_2_ok : allV Try.prog noSums ip3_2 = true := by kernel_rfl
noncomputable def ip3_3 : List MemoV := [(88, 7, w0_5, [.row [33, 17, 17, 17]], .poly (polyN [1886, 1897, 2029, 3613, 20894, 20905, 21037, 22478, 22489, 22610, 22632, 22753, 22764, 24205, 24337, 24348, 41629, 43213, 43345, 43356]) 0 20 5 9223372036854713308 9223372036854838308)]
theorem ip3_3_ok : allV Try.prog noSums ip3_3 = true := by kernel_rfl
noncomputable def ip3_4 : List MemoV := [(88, 7, w0_5, [.row [33, 17, 17]], .poly (polyN [158, 169, 301, 1742, 1753, 1874, 1896, 2017, 2028, 3469, 3601, 3612, 20750, 20761, 20882, 20904, 21025, 21036, 22466, 22488, 22752, 24193, 24204, 24336, 41485, 41617, 41628, 43201, 43212, 43344]) 0 30 4 9223372036854757058 9223372036854794558)]
theorem ip3_4_ok : allV Try.prog noSums ip3_4 = true := by kernel_rfl
noncomputable def ip3_5 : List MemoV := [(88, 7, w0_5, [.row [65]], .poly (polyN [4, 48, 576, 6912, 82944]) 0 5 4 9223372036854772683 9223372036854778933)]
theorem ip3_5_ok : allV Try.prog noSums ip3_5 = true := by kernel_rfl
noncomputable def ip3_6 : List MemoV := [(88, 7, w0_5, [.row [49]], .poly (polyN [3, 36, 432, 5184, 62208]) 0 5 3 9223372036854775183 9223372036854776433)]
theorem ip3_6_ok : allV Try.prog noSums ip3_6 = true := by kernel_rfl
noncomputable def ip3_7 : List MemoV := [(88, 7, w0_5, [.row [17]], .poly (polyN [1, 12, 144, 1728, 20736]) 0 5 1 9223372036854775783 9223372036854775833)]
theorem ip3_7_ok : allV Try.prog noSums ip3_7 = true := by kernel_rfl
noncomputable def ip3_8 : List MemoV := [(88, 7, w0_4, [.row [49, 49]], .poly (polyN [39, 435, 468, 5187, 5220, 5616]) 0 6 6 9223372036854682058 9223372036854869558)]
theorem ip3_8_ok : allV Try.prog noSums ip3_8 = true := by kernel_rfl
noncomputable def ip3_9 : List MemoV := [(88, 7, w0_4, [.row [81, 17]], .poly (polyN [17, 61, 149, 204, 721, 732, 1733, 1788, 2448, 8641, 8652, 8784]) 0 12 6 9223372036854588308 9223372036854963308)]
theorem ip3_9_ok : allV Try.prog noSums ip3_9 = true := by kernel_rfl
noncomputable def ip3_10 : List MemoV := [(88, 7, w0_4, [.row [33, 17, 17, 17]], .poly (polyN [1886, 1897, 2029, 3613]) 0 4 5 9223372036854763308 9223372036854788308)]
theorem ip3_10_ok : allV Try.prog noSums ip3_10 = true := by kernel_rfl
noncomputable def ip3_11 : List MemoV := [(88, 7, w0_4, [.row [49, 33]], .poly (polyN [27, 38, 291, 324, 434, 456, 3459, 3492, 3888, 5186, 5208, 5472]) 0 12 5 9223372036854738308 9223372036854813308)]
theorem ip3_11_ok : allV Try.prog noSums ip3_11 = true := by kernel_rfl
noncomputable def ip3_12 : List MemoV := [(88, 7, w0_4, [.row [65]], .poly (polyN [4, 48, 576, 6912]) 0 4 4 9223372036854773308 9223372036854778308)]
theorem ip3_12_ok : allV Try.prog noSums ip3_12 = true := by kernel_rfl
noncomputable def ip3_13 : List MemoV := [(88, 7, w0_4, [.row [49]], .poly (polyN [3, 36, 432, 5184]) 0 4 3 9223372036854775308 9223372036854776308)]
theorem ip3_13_ok : allV Try.prog noSums ip3_13 = true := by kernel_rfl
noncomputable def ip3_14 : List MemoV := [(88, 7, w0_4, [.row [17]], .poly (polyN [1, 12, 144, 1728]) 0 4 1 9223372036854775788 9223372036854775828)]
theorem ip3_14_ok : allV Try.prog noSums ip3_14 = true := by kernel_rfl
noncomputable def ip3_15 : List MemoV := [(88, 7, w0_3, [.row [33, 33, 17, 17]], .lit 1)]
theorem ip3_15_ok : allV Try.prog noSums ip3_15 = true := by kernel_rfl
noncomputable def ip3_16 : List MemoV := [(88, 7, w0_3, [.row [81, 17]], .poly (polyN [17, 61, 149, 204, 721, 732]) 0 6 6 9223372036854682058 9223372036854869558)]
theorem ip3_16_ok : allV Try.prog noSums ip3_16 = true := by kernel_rfl
noncomputable def ip3_17 : List MemoV := [(88, 7, w0_3, [.row [33, 17, 17, 17]], .lit 1)]
theorem ip3_17_ok : allV Try.prog noSums ip3_17 = true := by kernel_rfl
noncomputable def ip3_18 : List MemoV := [(88, 7, w0_3, [.row [49, 33]], .poly (polyN [27, 38, 291, 324, 434, 456]) 0 6 5 9223372036854757058 9223372036854794558)]
theorem ip3_18_ok : allV Try.prog noSums ip3_18 = true := by kernel_rfl
noncomputable def ip3_19 : List MemoV := [(88, 7, w0_3, [.row [17, 17, 17, 17]], .lit 1)]
theorem ip3_19_ok : allV Try.prog noSums ip3_19 = true := by kernel_rfl
noncomputable def ip3_20 : List MemoV := [(88, 7, w0_3, [.row [49]], .poly (polyN [3, 36, 432]) 0 3 3 9223372036854775433 9223372036854776183)]
theorem ip3_20_ok : allV Try.prog noSums ip3_20 = true := by kernel_rfl
noncomputable def ip3_21 : List MemoV := [(88, 7, w0_3, [.row [17]], .poly (polyN [1, 12, 144]) 0 3 1 9223372036854775793 9223372036854775823)]
theorem ip3_21_ok : allV Try.prog noSums ip3_21 = true := by kernel_rfl
noncomputable def ip3_22 : List MemoV := [(88, 7, w0_2, [.row [33, 33, 17, 17]], .lit 1)]
theorem ip3_22_ok : allV Try.prog noSums ip3_22 = true := by kernel_rfl
noncomputable def ip3_23 : List MemoV := [(88, 7, w0_2, [.row [49, 33, 17]], .lit 1)]
theorem ip3_23_ok : allV Try.prog noSums ip3_23 = true := by kernel_rfl
noncomputable def ip3_24 : List MemoV := [(88, 7, w0_2, [.row [33, 17, 17, 17]], .lit 1)]
theorem ip3_24_ok : allV Try.prog noSums ip3_24 = true := by kernel_rfl
noncomputable def ip3_25 : List MemoV := [(88, 7, w0_2, [.row [49, 33]], .poly (polyN [27, 38]) 0 2 5 9223372036854769558 9223372036854782058)]
theorem ip3_25_ok : allV Try.prog noSums ip3_25 = true := by kernel_rfl
noncomputable def ip3_26 : List MemoV := [(88, 7, w0_2, [.row [17, 17, 17, 17]], .lit 1)]
theorem ip3_26_ok : allV Try.prog noSums ip3_26 = true := by kernel_rfl
noncomputable def ip3_27 : List MemoV := [(88, 7, w0_2, [.row [49, 17]], .poly (polyN [15, 37]) 0 2 4 9223372036854774558 9223372036854777058)]
theorem ip3_27_ok : allV Try.prog noSums ip3_27 = true := by kernel_rfl
noncomputable def ip3_28 : List MemoV := [(88, 7, w0_2, [.row [17]], .poly (polyN [1, 12]) 0 2 1 9223372036854775798 9223372036854775818)]
theorem ip3_28_ok : allV Try.prog noSums ip3_28 = true := by kernel_rfl
noncomputable def ip3_29 : List MemoV := [(88, 7, w0_1, [.row [33, 33, 17, 17]], .lit 1)]
theorem ip3_29_ok : allV Try.prog noSums ip3_29 = true := by kernel_rfl
noncomputable def ip3_30 : List MemoV := [(88, 7, w0_1, [.row [49, 33, 17]], .lit 1)]
theorem ip3_30_ok : allV Try.prog noSums ip3_30 = true := by kernel_rfl
noncomputable def ip3_31 : List MemoV := [(88, 7, w0_1, [.row [65, 33]], .lit 1)]
theorem ip3_31_ok : allV Try.prog noSums ip3_31 = true := by kernel_rfl
noncomputable def ip3_32 : List MemoV := [(88, 7, w0_1, [.row [49, 33]], .lit 1)]
theorem ip3_32_ok : allV Try.prog noSums ip3_32 = true := by kernel_rfl
noncomputable def ip3_33 : List MemoV := [(88, 7, w0_1, [.row [17, 17, 17, 17]], .lit 1)]
theorem ip3_33_ok : allV Try.prog noSums ip3_33 = true := by kernel_rfl
noncomputable def ip3_34 : List MemoV := [(88, 7, w0_1, [.row [49, 17]], .lit 1)]
theorem ip3_34_ok : allV Try.prog noSums ip3_34 = true := by kernel_rfl
noncomputable def ip3_35 : List MemoV := [(88, 7, w0_1, [.row [33, 17]], .lit 1)]
theorem ip3_35_ok : allV Try.prog noSums ip3_35 = true := by kernel_rfl
noncomputable def v3plainS : Sums := onF 88 (orS (memoV ip3_0) (orS (memoV ip3_1) (orS (memoV ip3_2) (orS (memoV ip3_3) (orS (memoV ip3_4) (orS (memoV ip3_5) (orS (memoV ip3_6) (orS (memoV ip3_7) (orS (memoV ip3_8) (orS (memoV ip3_9) (orS (memoV ip3_10) (orS (memoV ip3_11) (orS (memoV ip3_12) (orS (memoV ip3_13) (orS (memoV ip3_14) (orS (memoV ip3_15) (orS (memoV ip3_16) (orS (memoV ip3_17) (orS (memoV ip3_18) (orS (memoV ip3_19) (orS (memoV ip3_20) (orS (memoV ip3_21) (orS (memoV ip3_22) (orS (memoV ip3_23) (orS (memoV ip3_24) (orS (memoV ip3_25) (orS (memoV ip3_26) (orS (memoV ip3_27) (orS (memoV ip3_28) (orS (memoV ip3_29) (orS (memoV ip3_30) (orS (memoV ip3_31) (orS (memoV ip3_32) (orS (memoV ip3_33) (orS (memoV ip3_34) (memoV ip3_35))))))))))))))))))))))))))))))))))))
theorem v3plain_al : Always Try.prog v3plainS := onF_always (orS_always (memoV_always _ (allV_all (noSums_always _) _ ip3_0_ok)) (orS_always (memoV_always _ (allV_all (noSums_always _) _ ip3_1_ok)) (orS_always (memoV_always _ (allV_all (noSums_always _) _ ip3_2_ok)) (orS_always (memoV_always _ (allV_all (noSums_always _) _ ip3_3_ok)) (orS_always (memoV_always _ (allV_all (noSums_always _) _ ip3_4_ok)) (orS_always (memoV_always _ (allV_all (noSums_always _) _ ip3_5_ok)) (orS_always (memoV_always _ (allV_all (noSums_always _) _ ip3_6_ok)) (orS_always (memoV_always _ (allV_all (noSums_always _) _ ip3_7_ok)) (orS_always (memoV_always _ (allV_all (noSums_always _) _ ip3_8_ok)) (orS_always (memoV_always _ (allV_all (noSums_always _) _ ip3_9_ok)) (orS_always (memoV_always _ (allV_all (noSums_always _) _ ip3_10_ok)) (orS_always (memoV_always _ (allV_all (noSums_always _) _ ip3_11_ok)) (orS_always (memoV_always _ (allV_all (noSums_always _) _ ip3_12_ok)) (orS_always (memoV_always _ (allV_all (noSums_always _) _ ip3_13_ok)) (orS_always (memoV_always _ (allV_all (noSums_always _) _ ip3_14_ok)) (orS_always (memoV_always _ (allV_all (noSums_always _) _ ip3_15_ok)) (orS_always (memoV_always _ (allV_all (noSums_always _) _ ip3_16_ok)) (orS_always (memoV_always _ (allV_all (noSums_always _) _ ip3_17_ok)) (orS_always (memoV_always _ (allV_all (noSums_always _) _ ip3_18_ok)) (orS_always (memoV_always _ (allV_all (noSums_always _) _ ip3_19_ok)) (orS_always (memoV_always _ (allV_all (noSums_always _) _ ip3_20_ok)) (orS_always (memoV_always _ (allV_all (noSums_always _) _ ip3_21_ok)) (orS_always (memoV_always _ (allV_all (noSums_always _) _ ip3_22_ok)) (orS_always (memoV_always _ (allV_all (noSums_always _) _ ip3_23_ok)) (orS_always (memoV_always _ (allV_all (noSums_always _) _ ip3_24_ok)) (orS_always (memoV_always _ (allV_all (noSums_always _) _ ip3_25_ok)) (orS_always (memoV_always _ (allV_all (noSums_always _) _ ip3_26_ok)) (orS_always (memoV_always _ (allV_all (noSums_always _) _ ip3_27_ok)) (orS_always (memoV_always _ (allV_all (noSums_always _) _ ip3_28_ok)) (orS_always (memoV_always _ (allV_all (noSums_always _) _ ip3_29_ok)) (orS_always (memoV_always _ (allV_all (noSums_always _) _ ip3_30_ok)) (orS_always (memoV_always _ (allV_all (noSums_always _) _ ip3_31_ok)) (orS_always (memoV_always _ (allV_all (noSums_always _) _ ip3_32_ok)) (orS_always (memoV_always _ (allV_all (noSums_always _) _ ip3_33_ok)) (orS_always (memoV_always _ (allV_all (noSums_always _) _ ip3_34_ok)) (memoV_always _ (allV_all (noSums_always _) _ ip3_35_ok)))))))))))))))))))))))))))))))))))))
end Go.Proofs.Ytnglbchhlpbgkaa.va
