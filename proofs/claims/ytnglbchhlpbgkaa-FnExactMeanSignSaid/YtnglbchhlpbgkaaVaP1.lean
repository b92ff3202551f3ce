/- What is known of calls of the program at a seat. -/
import Derived.Test.YtnglbchhlpbgkaaVaH
namespace Go.Proofs.Ytnglbchhlpbgkaa.va
open Go Go.Eng
set_option linter.unusedVariables false
set_option linter.unusedSectionVars false
set_option linter.unusedSimpArgs false
set_option maxRecDepth 100000
noncomputable def ip1_0 : List MemoV := [(88, 7, w0_5, [.row [33, 17, 17, 17, 17]], .poly (polyN [22622, 22633, 22765, 24349, 43357]) 0 5 6 9223372036854697683 9223372036854853933)]
theorem ip1_0_ok : allV Try.prog noSums ip1_0 = true := by kernel_rfl
noncomputable def ip1_1 : List MemoV := [(88, 7, w0_5, [.row [49, 17, 17, 17]], .poly (polyN [1887, 1909, 2173, 5341, 20895, 20917, 21181, 22479, 22501, 22611, 22644, 22897, 22908, 25933, 26065, 26076, 62365, 63949, 64081, 64092]) 0 20 6 9223372036854463308 9223372036855088308)]
theorem ip1_1_ok : allV Try.prog noSums ip1_1 = true := by kernel_rfl
noncomputable def ip1_2 : List MemoV := [(88, 7, w0_5, [.row [17, 17, 17, 17, 17]], .poly (polyN [22621]) 0 1 5 9223372036854772683 9223372036854778933)]
theorem ip1_2_ok : allV Try.prog noSums ip1_2 = true := by kernel_rfl
noncomputable def ip1_3 : List MemoV := [(88, 7, w0_5, [.row [49, 17, 17]], .poly (polyN [159, 181, 445, 1743, 1765, 1875, 1908, 2161, 2172, 5197, 5329, 5340, 20751, 20773, 20883, 20916, 21169, 21180, 22467, 22500, 22896, 25921, 25932, 26064, 62221, 62353, 62364, 63937, 63948, 64080]) 0 30 5 9223372036854682058 9223372036854869558)]
theorem ip1_3_ok : allV Try.prog noSums ip1_3 = true := by kernel_rfl
noncomputable def ip1_4 : List MemoV := [(88, 7, w0_5, [.row [81]], .poly (polyN [5, 60, 720, 8640, 103680]) 0 5 5 9223372036854760183 9223372036854791433)]
theorem ip1_4_ok : allV Try.prog noSums ip1_4 = true := by kernel_rfl
noncomputable def ip1_5 : List MemoV := [(88, 7, w0_5, [.row [33, 33]], .poly (polyN [26, 290, 312, 3458, 3480, 3744, 41474, 41496, 41760, 44928]) 0 10 4 9223372036854769558 9223372036854782058)]
theorem ip1_5_ok : allV Try.prog noSums ip1_5 = true := by kernel_rfl
noncomputable def ip1_6 : List MemoV := [(88, 7, w0_5, [.row [33]], .poly (polyN [2, 24, 288, 3456, 41472]) 0 5 2 9223372036854775683 9223372036854775933)]
theorem ip1_6_ok : allV Try.prog noSums ip1_6 = true := by kernel_rfl
noncomputable def ip1_7 : List MemoV := [(88, 7, w0_4, [.row [33, 17, 17, 17, 17]], .lit 1)]
theorem ip1_7_ok : allV Try.prog noSums ip1_7 = true := by kernel_rfl
noncomputable def ip1_8 : List MemoV := [(88, 7, w0_4, [.row [49, 17, 17, 17]], .poly (polyN [1887, 1909, 2173, 5341]) 0 4 6 9223372036854713308 9223372036854838308)]
theorem ip1_8_ok : allV Try.prog noSums ip1_8 = true := by kernel_rfl
noncomputable def ip1_9 : List MemoV := [(88, 7, w0_4, [.row [65, 17, 17]], .poly (polyN [160, 193, 589, 1744, 1777, 1876, 1920, 2305, 2316, 6925, 7057, 7068]) 0 12 6 9223372036854588308 9223372036854963308)]
theorem ip1_9_ok : allV Try.prog noSums ip1_9 = true := by kernel_rfl
noncomputable def ip1_10 : List MemoV := [(88, 7, w0_4, [.row [49, 17, 17]], .poly (polyN [159, 181, 445, 1743, 1765, 1875, 1908, 2161, 2172, 5197, 5329, 5340]) 0 12 5 9223372036854738308 9223372036854813308)]
theorem ip1_10_ok : allV Try.prog noSums ip1_10 = true := by kernel_rfl
noncomputable def ip1_11 : List MemoV := [(88, 7, w0_4, [.row [81]], .poly (polyN [5, 60, 720, 8640]) 0 4 5 9223372036854763308 9223372036854788308)]
theorem ip1_11_ok : allV Try.prog noSums ip1_11 = true := by kernel_rfl
noncomputable def ip1_12 : List MemoV := [(88, 7, w0_4, [.row [33, 33]], .poly (polyN [26, 290, 312, 3458, 3480, 3744]) 0 6 4 9223372036854772058 9223372036854779558)]
theorem ip1_12_ok : allV Try.prog noSums ip1_12 = true := by kernel_rfl
noncomputable def ip1_13 : List MemoV := [(88, 7, w0_4, [.row [17, 17, 17]], .poly (polyN [157, 1741, 1873, 1884]) 0 4 3 9223372036854775308 9223372036854776308)]
theorem ip1_13_ok : allV Try.prog noSums ip1_13 = true := by kernel_rfl
noncomputable def ip1_14 : List MemoV := [(88, 7, w0_3, [.row [33, 17, 17, 17, 17]], .lit 1)]
theorem ip1_14_ok : allV Try.prog noSums ip1_14 = true := by kernel_rfl
noncomputable def ip1_15 : List MemoV := [(88, 7, w0_3, [.row [49, 17, 17, 17]], .lit 1)]
theorem ip1_15_ok : allV Try.prog noSums ip1_15 = true := by kernel_rfl
noncomputable def ip1_16 : List MemoV := [(88, 7, w0_3, [.row [65, 17, 17]], .poly (polyN [160, 193, 589]) 0 3 6 9223372036854728933 9223372036854822683)]
theorem ip1_16_ok : allV Try.prog noSums ip1_16 = true := by kernel_rfl
noncomputable def ip1_17 : List MemoV := [(88, 7, w0_3, [.row [97]], .poly (polyN [6, 72, 864]) 0 3 6 9223372036854728933 9223372036854822683)]
theorem ip1_17_ok : allV Try.prog noSums ip1_17 = true := by kernel_rfl
noncomputable def ip1_18 : List MemoV := [(88, 7, w0_3, [.row [81]], .poly (polyN [5, 60, 720]) 0 3 5 9223372036854766433 9223372036854785183)]
theorem ip1_18_ok : allV Try.prog noSums ip1_18 = true := by kernel_rfl
noncomputable def ip1_19 : List MemoV := [(88, 7, w0_3, [.row [33, 33]], .poly (polyN [26, 290, 312]) 0 3 4 9223372036854773933 9223372036854777683)]
theorem ip1_19_ok : allV Try.prog noSums ip1_19 = true := by kernel_rfl
noncomputable def ip1_20 : List MemoV := [(88, 7, w0_3, [.row [17, 17, 17]], .poly (polyN [157]) 0 1 3 9223372036854775683 9223372036854775933)]
theorem ip1_20_ok : allV Try.prog noSums ip1_20 = true := by kernel_rfl
noncomputable def ip1_21 : List MemoV := [(88, 7, w0_3, [.row [17, 17]], .poly (polyN [13, 145, 156]) 0 3 2 9223372036854775733 9223372036854775883)]
theorem ip1_21_ok : allV Try.prog noSums ip1_21 = true := by kernel_rfl
noncomputable def ip1_22 : List MemoV := [(88, 7, w0_2, [.row [49, 17, 17, 17]], .lit 1)]
theorem ip1_22_ok : allV Try.prog noSums ip1_22 = true := by kernel_rfl
noncomputable def ip1_23 : List MemoV := [(88, 7, w0_2, [.row [65, 17, 17]], .lit 1)]
theorem ip1_23_ok : allV Try.prog noSums ip1_23 = true := by kernel_rfl
noncomputable def ip1_24 : List MemoV := [(88, 7, w0_2, [.row [97]], .poly (polyN [6, 72]) 0 2 6 9223372036854744558 9223372036854807058)]
theorem ip1_24_ok : allV Try.prog noSums ip1_24 = true := by kernel_rfl
noncomputable def ip1_25 : List MemoV := [(88, 7, w0_2, [.row [33, 33, 17]], .lit 1)]
theorem ip1_25_ok : allV Try.prog noSums ip1_25 = true := by kernel_rfl
noncomputable def ip1_26 : List MemoV := [(88, 7, w0_2, [.row [33, 33]], .poly (polyN [26]) 0 1 4 9223372036854775183 9223372036854776433)]
theorem ip1_26_ok : allV Try.prog noSums ip1_26 = true := by kernel_rfl
noncomputable def ip1_27 : List MemoV := [(88, 7, w0_2, [.row [17, 17, 17]], .lit 1)]
theorem ip1_27_ok : allV Try.prog noSums ip1_27 = true := by kernel_rfl
noncomputable def ip1_28 : List MemoV := [(88, 7, w0_2, [.row [17, 17]], .poly (polyN [13]) 0 1 2 9223372036854775783 9223372036854775833)]
theorem ip1_28_ok : allV Try.prog noSums ip1_28 = true := by kernel_rfl
noncomputable def ip1_29 : List MemoV := [(88, 7, w0_1, [.row [17, 17, 17, 17, 17, 17]], .lit 1)]
theorem ip1_29_ok : allV Try.prog noSums ip1_29 = true := by kernel_rfl
noncomputable def ip1_30 : List MemoV := [(88, 7, w0_1, [.row [65, 17, 17]], .lit 1)]
theorem ip1_30_ok : allV Try.prog noSums ip1_30 = true := by kernel_rfl
noncomputable def ip1_31 : List MemoV := [(88, 7, w0_1, [.row [97]], .poly (polyN [6]) 0 1 6 9223372036854760183 9223372036854791433)]
theorem ip1_31_ok : allV Try.prog noSums ip1_31 = true := by kernel_rfl
noncomputable def ip1_32 : List MemoV := [(88, 7, w0_1, [.row [33, 33, 17]], .lit 1)]
theorem ip1_32_ok : allV Try.prog noSums ip1_32 = true := by kernel_rfl
noncomputable def ip1_33 : List MemoV := [(88, 7, w0_1, [.row [65, 17]], .lit 1)]
theorem ip1_33_ok : allV Try.prog noSums ip1_33 = true := by kernel_rfl
noncomputable def ip1_34 : List MemoV := [(88, 7, w0_1, [.row [17, 17, 17]], .lit 1)]
theorem ip1_34_ok : allV Try.prog noSums ip1_34 = true := by kernel_rfl
noncomputable def ip1_35 : List MemoV := [(88, 7, w0_1, [.row [17, 17]], .lit 1)]
theorem ip1_35_ok : allV Try.prog noSums ip1_35 = true := by kernel_rfl
noncomputable def v1plainS : Sums := onF 88 (orS (memoV ip1_0) (orS (memoV ip1_1) (orS (memoV ip1_2) (orS (memoV ip1_3) (orS (memoV ip1_4) (orS (memoV ip1_5) (orS (memoV ip1_6) (orS (memoV ip1_7) (orS (memoV ip1_8) (orS (memoV ip1_9) (orS (memoV ip1_10) (orS (memoV ip1_11) (orS (memoV ip1_12) (orS (memoV ip1_13) (orS (memoV ip1_14) (orS (memoV ip1_15) (orS (memoV ip1_16) (orS (memoV ip1_17) (orS (memoV ip1_18) (orS (memoV ip1_19) (orS (memoV ip1_20) (orS (memoV ip1_21) (orS (memoV ip1_22) (orS (memoV ip1_23) (orS (memoV ip1_24) (orS (memoV ip1_25) (orS (memoV ip1_26) (orS (memoV ip1_27) (orS (memoV ip1_28) (orS (memoV ip1_29) (orS (memoV ip1_30) (orS (memoV ip1_31) (orS (memoV ip1_32) (orS (memoV ip1_33) (orS (memoV ip1_34) (memoV ip1_35))))))))))))))))))))))))))))))))))))
theorem v1plain_al : Always Try.prog v1plainS := onF_always (orS_always (memoV_always _ (allV_all (noSums_always _) _ ip1_0_ok)) (orS_always (memoV_always _ (allV_all (noSums_always _) _ ip1_1_ok)) (orS_always (memoV_always _ (allV_all (noSums_always _) _ ip1_2_ok)) (orS_always (memoV_always _ (allV_all (noSums_always _) _ ip1_3_ok)) (orS_always (memoV_always _ (allV_all (noSums_always _) _ ip1_4_ok)) (orS_always (memoV_always _ (allV_all (noSums_always _) _ ip1_5_ok)) (orS_always (memoV_always _ (allV_all (noSums_always _) _ ip1_6_ok)) (orS_always (memoV_always _ (allV_all (noSums_always _) _ ip1_7_ok)) (orS_always (memoV_always _ (allV_all (noSums_always _) _ ip1_8_ok)) (orS_always (memoV_always _ (allV_all (noSums_always _) _ ip1_9_ok)) (orS_always (memoV_always _ (allV_all (noSums_always _) _ ip1_10_ok)) (orS_always (memoV_always _ (allV_all (noSums_always _) _ ip1_11_ok)) (orS_always (memoV_always _ (allV_all (noSums_always _) _ ip1_12_ok)) (orS_always (memoV_always _ (allV_all (noSums_always _) _ ip1_13_ok)) (orS_always (memoV_always _ (allV_all (noSums_always _) _ ip1_14_ok)) (orS_always (memoV_always _ (allV_all (noSums_always _) _ ip1_15_ok)) (orS_always (memoV_always _ (allV_all (noSums_always _) _ ip1_16_ok)) (orS_always (memoV_always _ (allV_all (noSums_always _) _ ip1_17_ok)) (orS_always (memoV_always _ (allV_all (noSums_always _) _ ip1_18_ok)) (orS_always (memoV_always _ (allV_all (noSums_always _) _ ip1_19_ok)) (orS_always (memoV_always _ (allV_all (noSums_always _) _ ip1_20_ok)) (orS_always (memoV_always _ (allV_all (noSums_always _) _ ip1_21_ok)) (orS_always (memoV_always _ (allV_all (noSums_always _) _ ip1_22_ok)) (orS_always (memoV_always _ (allV_all (noSums_always _) _ ip1_23_ok)) (orS_always (memoV_always _ (allV_all (noSums_always _) _ ip1_24_ok)) (orS_always (memoV_always _ (allV_all (noSums_always _) _ ip1_25_ok)) (orS_always (memoV_always _ (allV_all (noSums_always _) _ ip1_26_ok)) (orS_always (memoV_always _ (allV_all (noSums_always _) _ ip1_27_ok)) (orS_always (memoV_always _ (allV_all (noSums_always _) _ ip1_28_ok)) (orS_always (memoV_always _ (allV_all (noSums_always _) _ ip1_29_ok)) (orS_always (memoV_always _ (allV_all (noSums_always _) _ ip1_30_ok)) (orS_always (memoV_always _ (allV_all (noSums_always _) _ ip1_31_ok)) (orS_always (memoV_always _ (allV_all (noSums_always _) _ ip1_32_ok)) (orS_always (memoV_always _ (allV_all (noSums_always _) _ ip1_33_ok)) (orS_always (memoV_always _ (allV_all (noSums_always _) _ ip1_34_ok)) (memoV_always _ (allV_all (noSums_always _) _ ip1_35_ok)))))))))))))))))))))))))))))))))))))
end Go.Proofs.Ytnglbchhlpbgkaa.va
