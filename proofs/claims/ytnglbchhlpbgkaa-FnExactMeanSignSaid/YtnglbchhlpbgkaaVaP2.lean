/- What is known of calls of the program at a seat. -/
import Derived.Test.YtnglbchhlpbgkaaVaH
namespace Go.Proofs.Ytnglbchhlpbgkaa.va
open Go Go.Eng
set_option linter.unusedVariables false
set_option linter.unusedSectionVars false
set_option linter.unusedSimpArgs false
set_option maxRecDepth 100000
noncomputable def ip2_0 : List MemoV := [(88, 7, w0_5, [.row [33, 33, 17, 17]], .poly (polyN [1898, 2030, 2041, 3614, 3625, 3757, 20906, 21038, 21049, 22490, 22754, 22776, 24206, 24217, 24338, 24360, 24481, 24492, 41630, 41641, 41773, 43214, 43225, 43346, 43368, 43489, 43500, 44941, 45073, 45084]) 0 30 6 9223372036854307058 9223372036855244558)]
theorem ip2_0_ok : allV Try.prog noSums ip2_0 = true := by kernel_rfl
noncomputable def ip2_1 : List MemoV := [(88, 7, w0_5, [.row [49, 33, 17]], .poly (polyN [171, 182, 303, 325, 446, 457, 1755, 1766, 2019, 2052, 2162, 2184, 3471, 3493, 3603, 3636, 3889, 3900, 5198, 5209, 5330, 5352, 5473, 5484, 20763, 20774, 21027, 21060, 21170, 21192, 24195, 24228, 24624, 25922, 25944, 26208, 41487, 41509, 41619, 41652, 41905, 41916, 43203, 43236, 43632, 46657, 46668, 46800, 62222, 62233, 62354, 62376, 62497, 62508, 63938, 63960, 64224, 65665, 65676, 65808]) 0 60 6 9223372036853838308 9223372036855713308)]
theorem ip2_1_ok : allV Try.prog noSums ip2_1 = true := by kernel_rfl
noncomputable def ip2_2 : List MemoV := [(88, 7, w0_5, [.row [65, 33]], .poly (polyN [28, 50, 292, 336, 578, 600, 3460, 3504, 4032, 6914, 6936, 7200, 41476, 41520, 42048, 48384, 82946, 82968, 83232, 86400]) 0 20 6 9223372036854463308 9223372036855088308)]
theorem ip2_2_ok : allV Try.prog noSums ip2_2 = true := by kernel_rfl
noncomputable def ip2_3 : List MemoV := [(88, 7, w0_5, [.row [49, 33]], .poly (polyN [27, 38, 291, 324, 434, 456, 3459, 3492, 3888, 5186, 5208, 5472, 41475, 41508, 41904, 46656, 62210, 62232, 62496, 65664]) 0 20 5 9223372036854713308 9223372036854838308)]
theorem ip2_3_ok : allV Try.prog noSums ip2_3 = true := by kernel_rfl
noncomputable def ip2_4 : List MemoV := [(88, 7, w0_5, [.row [17, 17, 17, 17]], .poly (polyN [1885, 20893, 22477, 22609, 22620]) 0 5 4 9223372036854772683 9223372036854778933)]
theorem ip2_4_ok : allV Try.prog noSums ip2_4 = true := by kernel_rfl
noncomputable def ip2_5 : List MemoV := [(88, 7, w0_5, [.row [49, 17]], .poly (polyN [15, 37, 147, 180, 433, 444, 1731, 1764, 2160, 5185, 5196, 5328, 20739, 20772, 21168, 25920, 62209, 62220, 62352, 63936]) 0 20 4 9223372036854763308 9223372036854788308)]
theorem ip2_5_ok : allV Try.prog noSums ip2_5 = true := by kernel_rfl
noncomputable def ip2_6 : List MemoV := [(88, 7, w0_5, [.row [33, 17]], .poly (polyN [14, 25, 146, 168, 289, 300, 1730, 1752, 2016, 3457, 3468, 3600, 20738, 20760, 21024, 24192, 41473, 41484, 41616, 43200]) 0 20 3 9223372036854773308 9223372036854778308)]
theorem ip2_6_ok : allV Try.prog noSums ip2_6 = true := by kernel_rfl
noncomputable def ip2_7 : List MemoV := [(88, 7, w0_4, [.row [33, 33, 17, 17]], .poly (polyN [1898, 2030, 2041, 3614, 3625, 3757]) 0 6 6 9223372036854682058 9223372036854869558)]
theorem ip2_7_ok : allV Try.prog noSums ip2_7 = true := by kernel_rfl
noncomputable def ip2_8 : List MemoV := [(88, 7, w0_4, [.row [49, 33, 17]], .poly (polyN [171, 182, 303, 325, 446, 457, 1755, 1766, 2019, 2052, 2162, 2184, 3471, 3493, 3603, 3636, 3889, 3900, 5198, 5209, 5330, 5352, 5473, 5484]) 0 24 6 9223372036854400808 9223372036855150808)]
theorem ip2_8_ok : allV Try.prog noSums ip2_8 = true := by kernel_rfl
noncomputable def ip2_9 : List MemoV := [(88, 7, w0_4, [.row [65, 33]], .poly (polyN [28, 50, 292, 336, 578, 600, 3460, 3504, 4032, 6914, 6936, 7200]) 0 12 6 9223372036854588308 9223372036854963308)]
theorem ip2_9_ok : allV Try.prog noSums ip2_9 = true := by kernel_rfl
noncomputable def ip2_10 : List MemoV := [(88, 7, w0_4, [.row [17, 17, 17, 17, 17]], .lit 1)]
theorem ip2_10_ok : allV Try.prog noSums ip2_10 = true := by kernel_rfl
noncomputable def ip2_11 : List MemoV := [(88, 7, w0_4, [.row [17, 17, 17, 17]], .poly (polyN [1885]) 0 1 4 9223372036854775183 9223372036854776433)]
theorem ip2_11_ok : allV Try.prog noSums ip2_11 = true := by kernel_rfl
noncomputable def ip2_12 : List MemoV := [(88, 7, w0_4, [.row [49, 17]], .poly (polyN [15, 37, 147, 180, 433, 444, 1731, 1764, 2160, 5185, 5196, 5328]) 0 12 4 9223372036854768308 9223372036854783308)]
theorem ip2_12_ok : allV Try.prog noSums ip2_12 = true := by kernel_rfl
noncomputable def ip2_13 : List MemoV := [(88, 7, w0_4, [.row [33, 17]], .poly (polyN [14, 25, 146, 168, 289, 300, 1730, 1752, 2016, 3457, 3468, 3600]) 0 12 3 9223372036854774308 9223372036854777308)]
theorem ip2_13_ok : allV Try.prog noSums ip2_13 = true := by kernel_rfl
noncomputable def ip2_14 : List MemoV := [(88, 7, w0_4, [.row [33]], .poly (polyN [2, 24, 288, 3456]) 0 4 2 9223372036854775708 9223372036854775908)]
theorem ip2_14_ok : allV Try.prog noSums ip2_14 = true := by kernel_rfl
noncomputable def ip2_15 : List MemoV := [(88, 7, w0_3, [.row [49, 33, 17]], .poly (polyN [171, 182, 303, 325, 446, 457]) 0 6 6 9223372036854682058 9223372036854869558)]
theorem ip2_15_ok : allV Try.prog noSums ip2_15 = true := by kernel_rfl
noncomputable def ip2_16 : List MemoV := [(88, 7, w0_3, [.row [65, 33]], .poly (polyN [28, 50, 292, 336, 578, 600]) 0 6 6 9223372036854682058 9223372036854869558)]
theorem ip2_16_ok : allV Try.prog noSums ip2_16 = true := by kernel_rfl
noncomputable def ip2_17 : List MemoV := [(88, 7, w0_3, [.row [17, 17, 17, 17, 17]], .lit 1)]
theorem ip2_17_ok : allV Try.prog noSums ip2_17 = true := by kernel_rfl
noncomputable def ip2_18 : List MemoV := [(88, 7, w0_3, [.row [49, 17, 17]], .poly (polyN [159, 181, 445]) 0 3 5 9223372036854766433 9223372036854785183)]
theorem ip2_18_ok : allV Try.prog noSums ip2_18 = true := by kernel_rfl
noncomputable def ip2_19 : List MemoV := [(88, 7, w0_3, [.row [49, 17]], .poly (polyN [15, 37, 147, 180, 433, 444]) 0 6 4 9223372036854772058 9223372036854779558)]
theorem ip2_19_ok : allV Try.prog noSums ip2_19 = true := by kernel_rfl
noncomputable def ip2_20 : List MemoV := [(88, 7, w0_3, [.row [33, 17]], .poly (polyN [14, 25, 146, 168, 289, 300]) 0 6 3 9223372036854775058 9223372036854776558)]
theorem ip2_20_ok : allV Try.prog noSums ip2_20 = true := by kernel_rfl
noncomputable def ip2_21 : List MemoV := [(88, 7, w0_3, [.row [33]], .poly (polyN [2, 24, 288]) 0 3 2 9223372036854775733 9223372036854775883)]
theorem ip2_21_ok : allV Try.prog noSums ip2_21 = true := by kernel_rfl
noncomputable def ip2_22 : List MemoV := [(88, 7, w0_2, [.row [33, 17, 17, 17, 17]], .lit 1)]
theorem ip2_22_ok : allV Try.prog noSums ip2_22 = true := by kernel_rfl
noncomputable def ip2_23 : List MemoV := [(88, 7, w0_2, [.row [65, 33]], .poly (polyN [28, 50]) 0 2 6 9223372036854744558 9223372036854807058)]
theorem ip2_23_ok : allV Try.prog noSums ip2_23 = true := by kernel_rfl
noncomputable def ip2_24 : List MemoV := [(88, 7, w0_2, [.row [17, 17, 17, 17, 17]], .lit 1)]
theorem ip2_24_ok : allV Try.prog noSums ip2_24 = true := by kernel_rfl
noncomputable def ip2_25 : List MemoV := [(88, 7, w0_2, [.row [49, 17, 17]], .lit 1)]
theorem ip2_25_ok : allV Try.prog noSums ip2_25 = true := by kernel_rfl
noncomputable def ip2_26 : List MemoV := [(88, 7, w0_2, [.row [81]], .poly (polyN [5, 60]) 0 2 5 9223372036854769558 9223372036854782058)]
theorem ip2_26_ok : allV Try.prog noSums ip2_26 = true := by kernel_rfl
noncomputable def ip2_27 : List MemoV := [(88, 7, w0_2, [.row [33, 17]], .poly (polyN [14, 25]) 0 2 3 9223372036854775558 9223372036854776058)]
theorem ip2_27_ok : allV Try.prog noSums ip2_27 = true := by kernel_rfl
noncomputable def ip2_28 : List MemoV := [(88, 7, w0_2, [.row [33]], .poly (polyN [2, 24]) 0 2 2 9223372036854775758 9223372036854775858)]
theorem ip2_28_ok : allV Try.prog noSums ip2_28 = true := by kernel_rfl
noncomputable def ip2_29 : List MemoV := [(88, 7, w0_1, [.row [33, 17, 17, 17, 17]], .lit 1)]
theorem ip2_29_ok : allV Try.prog noSums ip2_29 = true := by kernel_rfl
noncomputable def ip2_30 : List MemoV := [(88, 7, w0_1, [.row [49, 17, 17, 17]], .lit 1)]
theorem ip2_30_ok : allV Try.prog noSums ip2_30 = true := by kernel_rfl
noncomputable def ip2_31 : List MemoV := [(88, 7, w0_1, [.row [17, 17, 17, 17, 17]], .lit 1)]
theorem ip2_31_ok : allV Try.prog noSums ip2_31 = true := by kernel_rfl
noncomputable def ip2_32 : List MemoV := [(88, 7, w0_1, [.row [49, 17, 17]], .lit 1)]
theorem ip2_32_ok : allV Try.prog noSums ip2_32 = true := by kernel_rfl
noncomputable def ip2_33 : List MemoV := [(88, 7, w0_1, [.row [81]], .poly (polyN [5]) 0 1 5 9223372036854772683 9223372036854778933)]
theorem ip2_33_ok : allV Try.prog noSums ip2_33 = true := by kernel_rfl
noncomputable def ip2_34 : List MemoV := [(88, 7, w0_1, [.row [33, 33]], .lit 1)]
theorem ip2_34_ok : allV Try.prog noSums ip2_34 = true := by kernel_rfl
noncomputable def ip2_35 : List MemoV := [(88, 7, w0_1, [.row [33]], .poly (polyN [2]) 0 1 2 9223372036854775783 9223372036854775833)]
theorem ip2_35_ok : allV Try.prog noSums ip2_35 = true := by kernel_rfl
noncomputable def v2plainS : Sums := onF 88 (orS (memoV ip2_0) (orS (memoV ip2_1) (orS (memoV ip2_2) (orS (memoV ip2_3) (orS (memoV ip2_4) (orS (memoV ip2_5) (orS (memoV ip2_6) (orS (memoV ip2_7) (orS (memoV ip2_8) (orS (memoV ip2_9) (orS (memoV ip2_10) (orS (memoV ip2_11) (orS (memoV ip2_12) (orS (memoV ip2_13) (orS (memoV ip2_14) (orS (memoV ip2_15) (orS (memoV ip2_16) (orS (memoV ip2_17) (orS (memoV ip2_18) (orS (memoV ip2_19) (orS (memoV ip2_20) (orS (memoV ip2_21) (orS (memoV ip2_22) (orS (memoV ip2_23) (orS (memoV ip2_24) (orS (memoV ip2_25) (orS (memoV ip2_26) (orS (memoV ip2_27) (orS (memoV ip2_28) (orS (memoV ip2_29) (orS (memoV ip2_30) (orS (memoV ip2_31) (orS (memoV ip2_32) (orS (memoV ip2_33) (orS (memoV ip2_34) (memoV ip2_35))))))))))))))))))))))))))))))))))))
theorem v2plain_al : Always Try.prog v2plainS := onF_always (orS_always (memoV_always _ (allV_all (noSums_always _) _ ip2_0_ok)) (orS_always (memoV_always _ (allV_all (noSums_always _) _ ip2_1_ok)) (orS_always (memoV_always _ (allV_all (noSums_always _) _ ip2_2_ok)) (orS_always (memoV_always _ (allV_all (noSums_always _) _ ip2_3_ok)) (orS_always (memoV_always _ (allV_all (noSums_always _) _ ip2_4_ok)) (orS_always (memoV_always _ (allV_all (noSums_always _) _ ip2_5_ok)) (orS_always (memoV_always _ (allV_all (noSums_always _) _ ip2_6_ok)) (orS_always (memoV_always _ (allV_all (noSums_always _) _ ip2_7_ok)) (orS_always (memoV_always _ (allV_all (noSums_always _) _ ip2_8_ok)) (orS_always (memoV_always _ (allV_all (noSums_always _) _ ip2_9_ok)) (orS_always (memoV_always _ (allV_all (noSums_always _) _ ip2_10_ok)) (orS_always (memoV_always _ (allV_all (noSums_always _) _ ip2_11_ok)) (orS_always (memoV_always _ (allV_all (noSums_always _) _ ip2_12_ok)) (orS_always (memoV_always _ (allV_all (noSums_always _) _ ip2_13_ok)) (orS_always (memoV_always _ (allV_all (noSums_always _) _ ip2_14_ok)) (orS_always (memoV_always _ (allV_all (noSums_always _) _ ip2_15_ok)) (orS_always (memoV_always _ (allV_all (noSums_always _) _ ip2_16_ok)) (orS_always (memoV_always _ (allV_all (noSums_always _) _ ip2_17_ok)) (orS_always (memoV_always _ (allV_all (noSums_always _) _ ip2_18_ok)) (orS_always (memoV_always _ (allV_all (noSums_always _) _ ip2_19_ok)) (orS_always (memoV_always _ (allV_all (noSums_always _) _ ip2_20_ok)) (orS_always (memoV_always _ (allV_all (noSums_always _) _ ip2_21_ok)) (orS_always (memoV_always _ (allV_all (noSums_always _) _ ip2_22_ok)) (orS_always (memoV_always _ (allV_all (noSums_always _) _ ip2_23_ok)) (orS_always (memoV_always _ (allV_all (noSums_always _) _ ip2_24_ok)) (orS_always (memoV_always _ (allV_all (noSums_always _) _ ip2_25_ok)) (orS_always (memoV_always _ (allV_all (noSums_always _) _ ip2_26_ok)) (orS_always (memoV_always _ (allV_all (noSums_always _) _ ip2_27_ok)) (orS_always (memoV_always _ (allV_all (noSums_always _) _ ip2_28_ok)) (orS_always (memoV_always _ (allV_all (noSums_always _) _ ip2_29_ok)) (orS_always (memoV_always _ (allV_all (noSums_always _) _ ip2_30_ok)) (orS_always (memoV_always _ (allV_all (noSums_always _) _ ip2_31_ok)) (orS_always (memoV_always _ (allV_all (noSums_always _) _ ip2_32_ok)) (orS_always (memoV_always _ (allV_all (noSums_always _) _ ip2_33_ok)) (orS_always (memoV_always _ (allV_all (noSums_always _) _ ip2_34_ok)) (memoV_always _ (allV_all (noSums_always _) _ ip2_35_ok)))))))))))))))))))))))))))))))))))))
end Go.Proofs.Ytnglbchhlpbgkaa.va
