/- Runs of the program at a seat. -/
import Derived.Test.YthggbkoccgigaaaFnExactSumTimesP
namespace Go.Proofs.Ythggbkoccgigaaa.fnExactSumTimesRuns
open Go Go.Eng
set_option linter.unusedVariables false
set_option linter.unusedSectionVars false
set_option linter.unusedSimpArgs false
set_option maxRecDepth 100000 in
theorem o0_0_0 : runO 0 0 .all = true := by kernel_rfl
set_option maxRecDepth 100000 in
theorem o0_1_1 : runO 0 1 (.bad 0 false) = true := by kernel_rfl
set_option maxRecDepth 100000 in
theorem o0_2_2 : runO 0 2 (.bad 1 true) = true := by kernel_rfl
set_option maxRecDepth 100000 in
theorem s0_3_1 : runS 0 3 .up = true := by kernel_rfl
set_option maxRecDepth 100000 in
theorem o0_3_2 : runO 0 3 (.bad 2 true) = true := by kernel_rfl
set_option maxRecDepth 100000 in
theorem o0_3_6 : runO 0 3 (.bad 0 true) = true := by kernel_rfl
set_option maxRecDepth 100000 in
theorem o0_4_2 : runO 0 4 (.bad 4 true) = true := by kernel_rfl
set_option maxRecDepth 100000 in
theorem o0_4_6 : runO 0 4 (.bad 2 true) = true := by kernel_rfl
set_option maxRecDepth 100000 in
theorem o0_4_10 : runO 0 4 (.bad 0 true) = true := by kernel_rfl
set_option maxRecDepth 100000 in
theorem o0_5_3 : runO 0 5 (.bad 5 false) = true := by kernel_rfl
set_option maxRecDepth 100000 in
theorem o0_5_7 : runO 0 5 (.bad 3 false) = true := by kernel_rfl
set_option maxRecDepth 100000 in
theorem o0_5_11 : runO 0 5 (.bad 1 false) = true := by kernel_rfl
set_option maxRecDepth 100000 in
theorem s0_6_0 : runS 0 6 .low = true := by kernel_rfl
set_option maxRecDepth 100000 in
theorem s0_6_1 : runS 0 6 .up = true := by kernel_rfl
set_option maxRecDepth 100000 in
theorem o0_6_0 : runO 0 6 .all = true := by kernel_rfl
set_option maxRecDepth 100000 in
theorem o0_6_4 : runO 0 6 (.bad 9 true) = true := by kernel_rfl
set_option maxRecDepth 100000 in
theorem o0_6_8 : runO 0 6 (.bad 7 true) = true := by kernel_rfl
set_option maxRecDepth 100000 in
theorem o0_6_12 : runO 0 6 (.bad 5 true) = true := by kernel_rfl
set_option maxRecDepth 100000 in
theorem o0_6_16 : runO 0 6 (.bad 3 true) = true := by kernel_rfl
set_option maxRecDepth 100000 in
theorem o0_6_20 : runO 0 6 (.bad 1 true) = true := by kernel_rfl
set_option maxRecDepth 100000 in
theorem s1_1_0 : runS 1 1 .low = true := by kernel_rfl
set_option maxRecDepth 100000 in
theorem o1_1_0 : runO 1 1 .all = true := by kernel_rfl
set_option maxRecDepth 100000 in
theorem o1_2_1 : runO 1 2 (.bad 1 false) = true := by kernel_rfl
set_option maxRecDepth 100000 in
theorem s1_3_0 : runS 1 3 .low = true := by kernel_rfl
set_option maxRecDepth 100000 in
theorem o1_3_1 : runO 1 3 (.bad 2 false) = true := by kernel_rfl
set_option maxRecDepth 100000 in
theorem o1_3_5 : runO 1 3 (.bad 0 false) = true := by kernel_rfl
set_option maxRecDepth 100000 in
theorem o1_4_1 : runO 1 4 (.bad 4 false) = true := by kernel_rfl
set_option maxRecDepth 100000 in
theorem o1_4_5 : runO 1 4 (.bad 2 false) = true := by kernel_rfl
set_option maxRecDepth 100000 in
theorem o1_4_9 : runO 1 4 (.bad 0 false) = true := by kernel_rfl
set_option maxRecDepth 100000 in
theorem o1_5_2 : runO 1 5 (.bad 6 true) = true := by kernel_rfl
set_option maxRecDepth 100000 in
theorem o1_5_6 : runO 1 5 (.bad 4 true) = true := by kernel_rfl
set_option maxRecDepth 100000 in
theorem o1_5_10 : runO 1 5 (.bad 2 true) = true := by kernel_rfl
set_option maxRecDepth 100000 in
theorem o1_5_14 : runO 1 5 (.bad 0 true) = true := by kernel_rfl
set_option maxRecDepth 100000 in
theorem o1_6_3 : runO 1 6 (.bad 9 false) = true := by kernel_rfl
set_option maxRecDepth 100000 in
theorem o1_6_7 : runO 1 6 (.bad 7 false) = true := by kernel_rfl
set_option maxRecDepth 100000 in
theorem o1_6_11 : runO 1 6 (.bad 5 false) = true := by kernel_rfl
set_option maxRecDepth 100000 in
theorem o1_6_15 : runO 1 6 (.bad 3 false) = true := by kernel_rfl
set_option maxRecDepth 100000 in
theorem o1_6_19 : runO 1 6 (.bad 1 false) = true := by kernel_rfl
set_option maxRecDepth 100000 in
theorem s2_0_0 : runS 2 0 .low = true := by kernel_rfl
set_option maxRecDepth 100000 in
theorem s2_0_1 : runS 2 0 .up = true := by kernel_rfl
set_option maxRecDepth 100000 in
theorem o2_0_0 : runO 2 0 .all = true := by kernel_rfl
set_option maxRecDepth 100000 in
theorem o2_0_1 : runO 2 0 (.bad 0 false) = true := by kernel_rfl
set_option maxRecDepth 100000 in
theorem o2_0_2 : runO 2 0 (.bad 0 true) = true := by kernel_rfl
set_option maxRecDepth 100000 in
theorem s2_2_0 : runS 2 2 .low = true := by kernel_rfl
set_option maxRecDepth 100000 in
theorem s2_2_1 : runS 2 2 .up = true := by kernel_rfl
set_option maxRecDepth 100000 in
theorem o2_2_1 : runO 2 2 (.bad 1 false) = true := by kernel_rfl
set_option maxRecDepth 100000 in
theorem s2_3_0 : runS 2 3 .low = true := by kernel_rfl
set_option maxRecDepth 100000 in
theorem o2_3_1 : runO 2 3 (.bad 2 false) = true := by kernel_rfl
set_option maxRecDepth 100000 in
theorem o2_3_5 : runO 2 3 (.bad 0 false) = true := by kernel_rfl
set_option maxRecDepth 100000 in
theorem o2_4_1 : runO 2 4 (.bad 4 false) = true := by kernel_rfl
set_option maxRecDepth 100000 in
theorem o2_4_5 : runO 2 4 (.bad 2 false) = true := by kernel_rfl
set_option maxRecDepth 100000 in
theorem o2_4_9 : runO 2 4 (.bad 0 false) = true := by kernel_rfl
set_option maxRecDepth 100000 in
theorem o2_5_2 : runO 2 5 (.bad 6 true) = true := by kernel_rfl
set_option maxRecDepth 100000 in
theorem o2_5_6 : runO 2 5 (.bad 4 true) = true := by kernel_rfl
set_option maxRecDepth 100000 in
theorem o2_5_10 : runO 2 5 (.bad 2 true) = true := by kernel_rfl
set_option maxRecDepth 100000 in
theorem o2_5_14 : runO 2 5 (.bad 0 true) = true := by kernel_rfl
set_option maxRecDepth 100000 in
theorem o2_6_3 : runO 2 6 (.bad 9 false) = true := by kernel_rfl
set_option maxRecDepth 100000 in
theorem o2_6_7 : runO 2 6 (.bad 7 false) = true := by kernel_rfl
set_option maxRecDepth 100000 in
theorem o2_6_11 : runO 2 6 (.bad 5 false) = true := by kernel_rfl
set_option maxRecDepth 100000 in
theorem o2_6_15 : runO 2 6 (.bad 3 false) = true := by kernel_rfl
set_option maxRecDepth 100000 in
theorem o2_6_19 : runO 2 6 (.bad 1 false) = true := by kernel_rfl
set_option maxRecDepth 100000 in
theorem s3_0_0 : runS 3 0 .low = true := by kernel_rfl
set_option maxRecDepth 100000 in
theorem s3_0_1 : runS 3 0 .up = true := by kernel_rfl
set_option maxRecDepth 100000 in
theorem o3_0_0 : runO 3 0 .all = true := by kernel_rfl
set_option maxRecDepth 100000 in
theorem o3_0_1 : runO 3 0 (.bad 0 false) = true := by kernel_rfl
set_option maxRecDepth 100000 in
theorem o3_0_2 : runO 3 0 (.bad 0 true) = true := by kernel_rfl
set_option maxRecDepth 100000 in
theorem s3_2_0 : runS 3 2 .low = true := by kernel_rfl
set_option maxRecDepth 100000 in
theorem s3_2_1 : runS 3 2 .up = true := by kernel_rfl
set_option maxRecDepth 100000 in
theorem o3_2_0 : runO 3 2 .all = true := by kernel_rfl
set_option maxRecDepth 100000 in
theorem o3_2_4 : runO 3 2 (.bad 0 true) = true := by kernel_rfl
set_option maxRecDepth 100000 in
theorem o3_3_3 : runO 3 3 (.bad 1 false) = true := by kernel_rfl
set_option maxRecDepth 100000 in
theorem s3_4_0 : runS 3 4 .low = true := by kernel_rfl
set_option maxRecDepth 100000 in
theorem o3_4_0 : runO 3 4 .all = true := by kernel_rfl
set_option maxRecDepth 100000 in
theorem o3_4_4 : runO 3 4 (.bad 3 true) = true := by kernel_rfl
set_option maxRecDepth 100000 in
theorem o3_4_8 : runO 3 4 (.bad 1 true) = true := by kernel_rfl
set_option maxRecDepth 100000 in
theorem o3_5_1 : runO 3 5 (.bad 6 false) = true := by kernel_rfl
set_option maxRecDepth 100000 in
theorem o3_5_5 : runO 3 5 (.bad 4 false) = true := by kernel_rfl
set_option maxRecDepth 100000 in
theorem o3_5_9 : runO 3 5 (.bad 2 false) = true := by kernel_rfl
set_option maxRecDepth 100000 in
theorem o3_5_13 : runO 3 5 (.bad 0 false) = true := by kernel_rfl
set_option maxRecDepth 100000 in
theorem o3_6_2 : runO 3 6 (.bad 10 true) = true := by kernel_rfl
set_option maxRecDepth 100000 in
theorem o3_6_6 : runO 3 6 (.bad 8 true) = true := by kernel_rfl
set_option maxRecDepth 100000 in
theorem o3_6_10 : runO 3 6 (.bad 6 true) = true := by kernel_rfl
set_option maxRecDepth 100000 in
theorem o3_6_14 : runO 3 6 (.bad 4 true) = true := by kernel_rfl
set_option maxRecDepth 100000 in
theorem o3_6_18 : runO 3 6 (.bad 2 true) = true := by kernel_rfl
set_option maxRecDepth 100000 in
theorem o3_6_22 : runO 3 6 (.bad 0 true) = true := by kernel_rfl
set_option maxRecDepth 100000 in
theorem o4_1_2 : runO 4 1 (.bad 0 true) = true := by kernel_rfl
set_option maxRecDepth 100000 in
theorem o4_2_3 : runO 4 2 (.bad 0 false) = true := by kernel_rfl
set_option maxRecDepth 100000 in
theorem o4_3_0 : runO 4 3 .all = true := by kernel_rfl
set_option maxRecDepth 100000 in
theorem o4_3_4 : runO 4 3 (.bad 1 true) = true := by kernel_rfl
set_option maxRecDepth 100000 in
theorem s4_4_1 : runS 4 4 .up = true := by kernel_rfl
set_option maxRecDepth 100000 in
theorem o4_4_3 : runO 4 4 (.bad 3 false) = true := by kernel_rfl
set_option maxRecDepth 100000 in
theorem o4_4_7 : runO 4 4 (.bad 1 false) = true := by kernel_rfl
set_option maxRecDepth 100000 in
theorem s4_5_0 : runS 4 5 .low = true := by kernel_rfl
set_option maxRecDepth 100000 in
theorem s4_5_1 : runS 4 5 .up = true := by kernel_rfl
set_option maxRecDepth 100000 in
theorem o4_5_0 : runO 4 5 .all = true := by kernel_rfl
set_option maxRecDepth 100000 in
theorem o4_5_4 : runO 4 5 (.bad 5 true) = true := by kernel_rfl
set_option maxRecDepth 100000 in
theorem o4_5_8 : runO 4 5 (.bad 3 true) = true := by kernel_rfl
set_option maxRecDepth 100000 in
theorem o4_5_12 : runO 4 5 (.bad 1 true) = true := by kernel_rfl
set_option maxRecDepth 100000 in
theorem o4_6_1 : runO 4 6 (.bad 10 false) = true := by kernel_rfl
set_option maxRecDepth 100000 in
theorem o4_6_5 : runO 4 6 (.bad 8 false) = true := by kernel_rfl
set_option maxRecDepth 100000 in
theorem o4_6_9 : runO 4 6 (.bad 6 false) = true := by kernel_rfl
set_option maxRecDepth 100000 in
theorem o4_6_13 : runO 4 6 (.bad 4 false) = true := by kernel_rfl
set_option maxRecDepth 100000 in
theorem o4_6_17 : runO 4 6 (.bad 2 false) = true := by kernel_rfl
set_option maxRecDepth 100000 in
theorem o4_6_21 : runO 4 6 (.bad 0 false) = true := by kernel_rfl
set_option maxRecDepth 100000 in
theorem n0_2_2 : runN .nil (.is 0) .up = true := by kernel_rfl
set_option maxRecDepth 100000 in
theorem n0_4_0 : runN .nil (.is 2) .mid = true := by kernel_rfl
set_option maxRecDepth 100000 in
theorem n0_5_1 : runN .nil (.is 3) .low = true := by kernel_rfl
set_option maxRecDepth 100000 in
theorem n0_6_2 : runN .nil (.is 4) .up = true := by kernel_rfl
set_option maxRecDepth 100000 in
theorem n0_8_0 : runN .nil (.is 6) .mid = true := by kernel_rfl
set_option maxRecDepth 100000 in
theorem n0_9_1 : runN .nil (.is 7) .low = true := by kernel_rfl
set_option maxRecDepth 100000 in
theorem n0_10_2 : runN .nil (.is 8) .up = true := by kernel_rfl
set_option maxRecDepth 100000 in
theorem n0_12_0 : runN .nil (.is 10) .mid = true := by kernel_rfl
set_option maxRecDepth 100000 in
theorem n0_13_1 : runN .nil (.is 11) .low = true := by kernel_rfl
set_option maxRecDepth 100000 in
theorem n1_0_2 : runN .zero .wide .up = true := by kernel_rfl
set_option maxRecDepth 100000 in
theorem n1_2_0 : runN .zero (.is 0) .mid = true := by kernel_rfl
set_option maxRecDepth 100000 in
theorem n1_3_1 : runN .zero (.is 1) .low = true := by kernel_rfl
set_option maxRecDepth 100000 in
theorem n1_4_2 : runN .zero (.is 2) .up = true := by kernel_rfl
set_option maxRecDepth 100000 in
theorem n1_6_0 : runN .zero (.is 4) .mid = true := by kernel_rfl
set_option maxRecDepth 100000 in
theorem n1_7_1 : runN .zero (.is 5) .low = true := by kernel_rfl
set_option maxRecDepth 100000 in
theorem n1_8_2 : runN .zero (.is 6) .up = true := by kernel_rfl
set_option maxRecDepth 100000 in
theorem n1_10_0 : runN .zero (.is 8) .mid = true := by kernel_rfl
set_option maxRecDepth 100000 in
theorem n1_11_1 : runN .zero (.is 9) .low = true := by kernel_rfl
set_option maxRecDepth 100000 in
theorem n1_12_2 : runN .zero (.is 10) .up = true := by kernel_rfl
set_option maxRecDepth 100000 in
theorem n2_0_0 : runN .emp .wide .mid = true := by kernel_rfl
set_option maxRecDepth 100000 in
theorem n2_1_1 : runN .emp .long .low = true := by kernel_rfl
set_option maxRecDepth 100000 in
theorem n2_2_2 : runN .emp (.is 0) .up = true := by kernel_rfl
set_option maxRecDepth 100000 in
theorem n2_4_0 : runN .emp (.is 2) .mid = true := by kernel_rfl
set_option maxRecDepth 100000 in
theorem n2_5_1 : runN .emp (.is 3) .low = true := by kernel_rfl
set_option maxRecDepth 100000 in
theorem n2_6_2 : runN .emp (.is 4) .up = true := by kernel_rfl
set_option maxRecDepth 100000 in
theorem n2_8_0 : runN .emp (.is 6) .mid = true := by kernel_rfl
set_option maxRecDepth 100000 in
theorem n2_9_1 : runN .emp (.is 7) .low = true := by kernel_rfl
set_option maxRecDepth 100000 in
theorem n2_10_2 : runN .emp (.is 8) .up = true := by kernel_rfl
set_option maxRecDepth 100000 in
theorem n2_12_0 : runN .emp (.is 10) .mid = true := by kernel_rfl
set_option maxRecDepth 100000 in
theorem n2_13_1 : runN .emp (.is 11) .low = true := by kernel_rfl
set_option maxRecDepth 100000 in
theorem n3_0_2 : runN .opq .wide .up = true := by kernel_rfl
set_option maxRecDepth 100000 in
theorem n3_2_0 : runN .opq (.is 0) .mid = true := by kernel_rfl
set_option maxRecDepth 100000 in
theorem n3_3_1 : runN .opq (.is 1) .low = true := by kernel_rfl
set_option maxRecDepth 100000 in
theorem n3_4_2 : runN .opq (.is 2) .up = true := by kernel_rfl
set_option maxRecDepth 100000 in
theorem n3_6_0 : runN .opq (.is 4) .mid = true := by kernel_rfl
set_option maxRecDepth 100000 in
theorem n3_7_1 : runN .opq (.is 5) .low = true := by kernel_rfl
set_option maxRecDepth 100000 in
theorem n3_8_2 : runN .opq (.is 6) .up = true := by kernel_rfl
set_option maxRecDepth 100000 in
theorem n3_10_0 : runN .opq (.is 8) .mid = true := by kernel_rfl
set_option maxRecDepth 100000 in
theorem n3_11_1 : runN .opq (.is 9) .low = true := by kernel_rfl
set_option maxRecDepth 100000 in
theorem n3_12_2 : runN .opq (.is 10) .up = true := by kernel_rfl
end Go.Proofs.Ythggbkoccgigaaa.fnExactSumTimesRuns
