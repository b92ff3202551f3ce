/- What is known of calls of the program at a seat. -/
import Derived.Test.YtnglbchhlpbgkaaVaH
namespace Go.Proofs.Ytnglbchhlpbgkaa.va
open Go Go.Eng
set_option linter.unusedVariables false
set_option linter.unusedSectionVars false
set_option linter.unusedSimpArgs false
set_option maxRecDepth 100000
noncomputable def ip0_0 : List MemoV := [(88, 7, w0_5, [.row [17, 17, 17, 17, 17, 17]], .lit 1)]
theorem ip0_0_ok : allV Try.prog noSums ip0_0 = true := by kernel_rfl
noncomputable def ip0_1 : List MemoV := [(88, 7, w0_5, [.row [65, 17, 17]], .poly (polyN [160, 193, 589, 1744, 1777, 1876, 1920, 2305, 2316, 6925, 7057, 7068, 20752, 20785, 20884, 20928, 21313, 21324, 22468, 22512, 23040, 27649, 27660, 27792, 82957, 83089, 83100, 84673, 84684, 84816]) 0 30 6 9223372036854307058 9223372036855244558)]
theorem ip0_1_ok : allV Try.prog noSums ip0_1 = true := by kernel_rfl
noncomputable def ip0_2 : List MemoV := [(88, 7, w0_5, [.row [97]], .poly (polyN [6, 72, 864, 10368, 124416]) 0 5 6 9223372036854697683 9223372036854853933)]
theorem ip0_2_ok : allV Try.prog noSums ip0_2 = true := by kernel_rfl
noncomputable def ip0_3 : List MemoV := [(88, 7, w0_5, [.row [33, 33, 17]], .poly (polyN [170, 302, 313, 1754, 2018, 2040, 3470, 3481, 3602, 3624, 3745, 3756, 20762, 21026, 21048, 24194, 24216, 24480, 41486, 41497, 41618, 41640, 41761, 41772, 43202, 43224, 43488, 44929, 44940, 45072]) 0 30 5 9223372036854682058 9223372036854869558)]
theorem ip0_3_ok : allV Try.prog noSums ip0_3 = true := by kernel_rfl
noncomputable def ip0_4 : List MemoV := [(88, 7, w0_5, [.row [65, 17]], .poly (polyN [16, 49, 148, 192, 577, 588, 1732, 1776, 2304, 6913, 6924, 7056, 20740, 20784, 21312, 27648, 82945, 82956, 83088, 84672]) 0 20 5 9223372036854713308 9223372036854838308)]
theorem ip0_4_ok : allV Try.prog noSums ip0_4 = true := by kernel_rfl
noncomputable def ip0_5 : List MemoV := [(88, 7, w0_5, [.row [17, 17, 17]], .poly (polyN [157, 1741, 1873, 1884, 20749, 20881, 20892, 22465, 22476, 22608]) 0 10 3 9223372036854774558 9223372036854777058)]
theorem ip0_5_ok : allV Try.prog noSums ip0_5 = true := by kernel_rfl
noncomputable def ip0_6 : List MemoV := [(88, 7, w0_5, [.row [17, 17]], .poly (polyN [13, 145, 156, 1729, 1740, 1872, 20737, 20748, 20880, 22464]) 0 10 2 9223372036854775558 9223372036854776058)]
theorem ip0_6_ok : allV Try.prog noSums ip0_6 = true := by kernel_rfl
noncomputable def ip0_7 : List MemoV := [(88, 7, w0_4, [.row [17, 17, 17, 17, 17, 17]], .lit 1)]
theorem ip0_7_ok : allV Try.prog noSums ip0_7 = true := by kernel_rfl
noncomputable def ip0_8 : List MemoV := [(88, 7, w0_4, [.row [33, 33, 33]], .poly (polyN [314, 3482, 3746, 3768]) 0 4 6 9223372036854713308 9223372036854838308)]
theorem ip0_8_ok : allV Try.prog noSums ip0_8 = true := by kernel_rfl
noncomputable def ip0_9 : List MemoV := [(88, 7, w0_4, [.row [97]], .poly (polyN [6, 72, 864, 10368]) 0 4 6 9223372036854713308 9223372036854838308)]
theorem ip0_9_ok : allV Try.prog noSums ip0_9 = true := by kernel_rfl
noncomputable def ip0_10 : List MemoV := [(88, 7, w0_4, [.row [33, 33, 17]], .poly (polyN [170, 302, 313, 1754, 2018, 2040, 3470, 3481, 3602, 3624, 3745, 3756]) 0 12 5 9223372036854738308 9223372036854813308)]
theorem ip0_10_ok : allV Try.prog noSums ip0_10 = true := by kernel_rfl
noncomputable def ip0_11 : List MemoV := [(88, 7, w0_4, [.row [65, 17]], .poly (polyN [16, 49, 148, 192, 577, 588, 1732, 1776, 2304, 6913, 6924, 7056]) 0 12 5 9223372036854738308 9223372036854813308)]
theorem ip0_11_ok : allV Try.prog noSums ip0_11 = true := by kernel_rfl
noncomputable def ip0_12 : List MemoV := [(88, 7, w0_4, [.row [33, 17, 17]], .poly (polyN [158, 169, 301, 1742, 1753, 1874, 1896, 2017, 2028, 3469, 3601, 3612]) 0 12 4 9223372036854768308 9223372036854783308)]
theorem ip0_12_ok : allV Try.prog noSums ip0_12 = true := by kernel_rfl
noncomputable def ip0_13 : List MemoV := [(88, 7, w0_4, [.row [17, 17]], .poly (polyN [13, 145, 156, 1729, 1740, 1872]) 0 6 2 9223372036854775658 9223372036854775958)]
theorem ip0_13_ok : allV Try.prog noSums ip0_13 = true := by kernel_rfl
noncomputable def ip0_14 : List MemoV := [(88, 7, w0_3, [.row [17, 17, 17, 17, 17, 17]], .lit 1)]
theorem ip0_14_ok : allV Try.prog noSums ip0_14 = true := by kernel_rfl
noncomputable def ip0_15 : List MemoV := [(88, 7, w0_3, [.row [33, 33, 33]], .poly (polyN [314]) 0 1 6 9223372036854760183 9223372036854791433)]
theorem ip0_15_ok : allV Try.prog noSums ip0_15 = true := by kernel_rfl
noncomputable def ip0_16 : List MemoV := [(88, 7, w0_3, [.row [49, 49]], .poly (polyN [39, 435, 468]) 0 3 6 9223372036854728933 9223372036854822683)]
theorem ip0_16_ok : allV Try.prog noSums ip0_16 = true := by kernel_rfl
noncomputable def ip0_17 : List MemoV := [(88, 7, w0_3, [.row [33, 33, 17]], .poly (polyN [170, 302, 313]) 0 3 5 9223372036854766433 9223372036854785183)]
theorem ip0_17_ok : allV Try.prog noSums ip0_17 = true := by kernel_rfl
noncomputable def ip0_18 : List MemoV := [(88, 7, w0_3, [.row [65, 17]], .poly (polyN [16, 49, 148, 192, 577, 588]) 0 6 5 9223372036854757058 9223372036854794558)]
theorem ip0_18_ok : allV Try.prog noSums ip0_18 = true := by kernel_rfl
noncomputable def ip0_19 : List MemoV := [(88, 7, w0_3, [.row [33, 17, 17]], .poly (polyN [158, 169, 301]) 0 3 4 9223372036854773933 9223372036854777683)]
theorem ip0_19_ok : allV Try.prog noSums ip0_19 = true := by kernel_rfl
noncomputable def ip0_20 : List MemoV := [(88, 7, w0_3, [.row [65]], .poly (polyN [4, 48, 576]) 0 3 4 9223372036854773933 9223372036854777683)]
theorem ip0_20_ok : allV Try.prog noSums ip0_20 = true := by kernel_rfl
noncomputable def ip0_21 : List MemoV := [(88, 7, w0_2, [.row [17, 17, 17, 17, 17, 17]], .lit 1)]
theorem ip0_21_ok : allV Try.prog noSums ip0_21 = true := by kernel_rfl
noncomputable def ip0_22 : List MemoV := [(88, 7, w0_2, [.row [33, 33, 33]], .lit 1)]
theorem ip0_22_ok : allV Try.prog noSums ip0_22 = true := by kernel_rfl
noncomputable def ip0_23 : List MemoV := [(88, 7, w0_2, [.row [49, 49]], .poly (polyN [39]) 0 1 6 9223372036854760183 9223372036854791433)]
theorem ip0_23_ok : allV Try.prog noSums ip0_23 = true := by kernel_rfl
noncomputable def ip0_24 : List MemoV := [(88, 7, w0_2, [.row [81, 17]], .poly (polyN [17, 61]) 0 2 6 9223372036854744558 9223372036854807058)]
theorem ip0_24_ok : allV Try.prog noSums ip0_24 = true := by kernel_rfl
noncomputable def ip0_25 : List MemoV := [(88, 7, w0_2, [.row [65, 17]], .poly (polyN [16, 49]) 0 2 5 9223372036854769558 9223372036854782058)]
theorem ip0_25_ok : allV Try.prog noSums ip0_25 = true := by kernel_rfl
noncomputable def ip0_26 : List MemoV := [(88, 7, w0_2, [.row [33, 17, 17]], .lit 1)]
theorem ip0_26_ok : allV Try.prog noSums ip0_26 = true := by kernel_rfl
noncomputable def ip0_27 : List MemoV := [(88, 7, w0_2, [.row [65]], .poly (polyN [4, 48]) 0 2 4 9223372036854774558 9223372036854777058)]
theorem ip0_27_ok : allV Try.prog noSums ip0_27 = true := by kernel_rfl
noncomputable def ip0_28 : List MemoV := [(88, 7, w0_2, [.row [49]], .poly (polyN [3, 36]) 0 2 3 9223372036854775558 9223372036854776058)]
theorem ip0_28_ok : allV Try.prog noSums ip0_28 = true := by kernel_rfl
noncomputable def ip0_29 : List MemoV := [(88, 7, w0_1, [.row [33, 33, 33]], .lit 1)]
theorem ip0_29_ok : allV Try.prog noSums ip0_29 = true := by kernel_rfl
noncomputable def ip0_30 : List MemoV := [(88, 7, w0_1, [.row [49, 49]], .lit 1)]
theorem ip0_30_ok : allV Try.prog noSums ip0_30 = true := by kernel_rfl
noncomputable def ip0_31 : List MemoV := [(88, 7, w0_1, [.row [81, 17]], .lit 1)]
theorem ip0_31_ok : allV Try.prog noSums ip0_31 = true := by kernel_rfl
noncomputable def ip0_32 : List MemoV := [(88, 7, w0_1, [.row [33, 17, 17, 17]], .lit 1)]
theorem ip0_32_ok : allV Try.prog noSums ip0_32 = true := by kernel_rfl
noncomputable def ip0_33 : List MemoV := [(88, 7, w0_1, [.row [33, 17, 17]], .lit 1)]
theorem ip0_33_ok : allV Try.prog noSums ip0_33 = true := by kernel_rfl
noncomputable def ip0_34 : List MemoV := [(88, 7, w0_1, [.row [65]], .poly (polyN [4]) 0 1 4 9223372036854775183 9223372036854776433)]
theorem ip0_34_ok : allV Try.prog noSums ip0_34 = true := by kernel_rfl
noncomputable def ip0_35 : List MemoV := [(88, 7, w0_1, [.row [49]], .poly (polyN [3]) 0 1 3 9223372036854775683 9223372036854775933)]
theorem ip0_35_ok : allV Try.prog noSums ip0_35 = true := by kernel_rfl
noncomputable def ip0_36 : List MemoV := [(88, 7, w0_1, [.row [17]], .poly (polyN [1]) 0 1 1 9223372036854775803 9223372036854775813)]
theorem ip0_36_ok : allV Try.prog noSums ip0_36 = true := by kernel_rfl
noncomputable def v0plainS : Sums := onF 88 (orS (memoV ip0_0) (orS (memoV ip0_1) (orS (memoV ip0_2) (orS (memoV ip0_3) (orS (memoV ip0_4) (orS (memoV ip0_5) (orS (memoV ip0_6) (orS (memoV ip0_7) (orS (memoV ip0_8) (orS (memoV ip0_9) (orS (memoV ip0_10) (orS (memoV ip0_11) (orS (memoV ip0_12) (orS (memoV ip0_13) (orS (memoV ip0_14) (orS (memoV ip0_15) (orS (memoV ip0_16) (orS (memoV ip0_17) (orS (memoV ip0_18) (orS (memoV ip0_19) (orS (memoV ip0_20) (orS (memoV ip0_21) (orS (memoV ip0_22) (orS (memoV ip0_23) (orS (memoV ip0_24) (orS (memoV ip0_25) (orS (memoV ip0_26) (orS (memoV ip0_27) (orS (memoV ip0_28) (orS (memoV ip0_29) (orS (memoV ip0_30) (orS (memoV ip0_31) (orS (memoV ip0_32) (orS (memoV ip0_33) (orS (memoV ip0_34) (orS (memoV ip0_35) (memoV ip0_36)))))))))))))))))))))))))))))))))))))
theorem v0plain_al : Always Try.prog v0plainS := onF_always (orS_always (memoV_always _ (allV_all (noSums_always _) _ ip0_0_ok)) (orS_always (memoV_always _ (allV_all (noSums_always _) _ ip0_1_ok)) (orS_always (memoV_always _ (allV_all (noSums_always _) _ ip0_2_ok)) (orS_always (memoV_always _ (allV_all (noSums_always _) _ ip0_3_ok)) (orS_always (memoV_always _ (allV_all (noSums_always _) _ ip0_4_ok)) (orS_always (memoV_always _ (allV_all (noSums_always _) _ ip0_5_ok)) (orS_always (memoV_always _ (allV_all (noSums_always _) _ ip0_6_ok)) (orS_always (memoV_always _ (allV_all (noSums_always _) _ ip0_7_ok)) (orS_always (memoV_always _ (allV_all (noSums_always _) _ ip0_8_ok)) (orS_always (memoV_always _ (allV_all (noSums_always _) _ ip0_9_ok)) (orS_always (memoV_always _ (allV_all (noSums_always _) _ ip0_10_ok)) (orS_always (memoV_always _ (allV_all (noSums_always _) _ ip0_11_ok)) (orS_always (memoV_always _ (allV_all (noSums_always _) _ ip0_12_ok)) (orS_always (memoV_always _ (allV_all (noSums_always _) _ ip0_13_ok)) (orS_always (memoV_always _ (allV_all (noSums_always _) _ ip0_14_ok)) (orS_always (memoV_always _ (allV_all (noSums_always _) _ ip0_15_ok)) (orS_always (memoV_always _ (allV_all (noSums_always _) _ ip0_16_ok)) (orS_always (memoV_always _ (allV_all (noSums_always _) _ ip0_17_ok)) (orS_always (memoV_always _ (allV_all (noSums_always _) _ ip0_18_ok)) (orS_always (memoV_always _ (allV_all (noSums_always _) _ ip0_19_ok)) (orS_always (memoV_always _ (allV_all (noSums_always _) _ ip0_20_ok)) (orS_always (memoV_always _ (allV_all (noSums_always _) _ ip0_21_ok)) (orS_always (memoV_always _ (allV_all (noSums_always _) _ ip0_22_ok)) (orS_always (memoV_always _ (allV_all (noSums_always _) _ ip0_23_ok)) (orS_always (memoV_always _ (allV_all (noSums_always _) _ ip0_24_ok)) (orS_always (memoV_always _ (allV_all (noSums_always _) _ ip0_25_ok)) (orS_always (memoV_always _ (allV_all (noSums_always _) _ ip0_26_ok)) (orS_always (memoV_always _ (allV_all (noSums_always _) _ ip0_27_ok)) (orS_always (memoV_always _ (allV_all (noSums_always _) _ ip0_28_ok)) (orS_always (memoV_always _ (allV_all (noSums_always _) _ ip0_29_ok)) (orS_always (memoV_always _ (allV_all (noSums_always _) _ ip0_30_ok)) (orS_always (memoV_always _ (allV_all (noSums_always _) _ ip0_31_ok)) (orS_always (memoV_always _ (allV_all (noSums_always _) _ ip0_32_ok)) (orS_always (memoV_always _ (allV_all (noSums_always _) _ ip0_33_ok)) (orS_always (memoV_always _ (allV_all (noSums_always _) _ ip0_34_ok)) (orS_always (memoV_always _ (allV_all (noSums_always _) _ ip0_35_ok)) (memoV_always _ (allV_all (noSums_always _) _ ip0_36_ok))))))))))))))))))))))))))))))))))))))
end Go.Proofs.Ytnglbchhlpbgkaa.va
