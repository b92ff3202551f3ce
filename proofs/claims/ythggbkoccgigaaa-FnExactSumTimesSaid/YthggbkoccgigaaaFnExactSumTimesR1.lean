/- Runs of the program at a seat. -/
import Derived.Test.YthggbkoccgigaaaFnExactSumTimesP
namespace Go.Proofs.Ythggbkoccgigaaa.fnExactSumTimesRuns
open Go Go.Eng
set_option linter.unusedVariables false
set_option linter.unusedSectionVars false
set_option linter.unusedSimpArgs false
set_option maxRecDepth 100000 in
theorem s0_0_1 : runS 0 0 .up = true := by kernel_rfl
set_option maxRecDepth 100000 in
theorem s0_1_0 : runS 0 1 .low = true := by kernel_rfl
set_option maxRecDepth 100000 in
theorem s0_1_1 : runS 0 1 .up = true := by kernel_rfl
set_option maxRecDepth 100000 in
theorem o0_1_0 : runO 0 1 .all = true := by kernel_rfl
set_option maxRecDepth 100000 in
theorem o0_2_0 : runO 0 2 .all = true := by kernel_rfl
set_option maxRecDepth 100000 in
theorem o0_2_4 : runO 0 2 (.bad 0 true) = true := by kernel_rfl
set_option maxRecDepth 100000 in
theorem o0_3_3 : runO 0 3 (.bad 1 false) = true := by kernel_rfl
set_option maxRecDepth 100000 in
theorem s0_4_0 : runS 0 4 .low = true := by kernel_rfl
set_option maxRecDepth 100000 in
theorem s0_4_1 : runS 0 4 .up = true := by kernel_rfl
set_option maxRecDepth 100000 in
theorem o0_4_3 : runO 0 4 (.bad 3 false) = true := by kernel_rfl
set_option maxRecDepth 100000 in
theorem o0_4_7 : runO 0 4 (.bad 1 false) = true := by kernel_rfl
set_option maxRecDepth 100000 in
theorem s0_5_0 : runS 0 5 .low = true := by kernel_rfl
set_option maxRecDepth 100000 in
theorem s0_5_1 : runS 0 5 .up = true := by kernel_rfl
set_option maxRecDepth 100000 in
theorem o0_5_0 : runO 0 5 .all = true := by kernel_rfl
set_option maxRecDepth 100000 in
theorem o0_5_4 : runO 0 5 (.bad 5 true) = true := by kernel_rfl
set_option maxRecDepth 100000 in
theorem o0_5_8 : runO 0 5 (.bad 3 true) = true := by kernel_rfl
set_option maxRecDepth 100000 in
theorem o0_5_12 : runO 0 5 (.bad 1 true) = true := by kernel_rfl
set_option maxRecDepth 100000 in
theorem o0_6_1 : runO 0 6 (.bad 10 false) = true := by kernel_rfl
set_option maxRecDepth 100000 in
theorem o0_6_5 : runO 0 6 (.bad 8 false) = true := by kernel_rfl
set_option maxRecDepth 100000 in
theorem o0_6_9 : runO 0 6 (.bad 6 false) = true := by kernel_rfl
set_option maxRecDepth 100000 in
theorem o0_6_13 : runO 0 6 (.bad 4 false) = true := by kernel_rfl
set_option maxRecDepth 100000 in
theorem o0_6_17 : runO 0 6 (.bad 2 false) = true := by kernel_rfl
set_option maxRecDepth 100000 in
theorem o0_6_21 : runO 0 6 (.bad 0 false) = true := by kernel_rfl
set_option maxRecDepth 100000 in
theorem s1_1_1 : runS 1 1 .up = true := by kernel_rfl
set_option maxRecDepth 100000 in
theorem o1_1_1 : runO 1 1 (.bad 0 false) = true := by kernel_rfl
set_option maxRecDepth 100000 in
theorem o1_2_2 : runO 1 2 (.bad 1 true) = true := by kernel_rfl
set_option maxRecDepth 100000 in
theorem s1_3_1 : runS 1 3 .up = true := by kernel_rfl
set_option maxRecDepth 100000 in
theorem o1_3_2 : runO 1 3 (.bad 2 true) = true := by kernel_rfl
set_option maxRecDepth 100000 in
theorem o1_3_6 : runO 1 3 (.bad 0 true) = true := by kernel_rfl
set_option maxRecDepth 100000 in
theorem o1_4_2 : runO 1 4 (.bad 4 true) = true := by kernel_rfl
set_option maxRecDepth 100000 in
theorem o1_4_6 : runO 1 4 (.bad 2 true) = true := by kernel_rfl
set_option maxRecDepth 100000 in
theorem o1_4_10 : runO 1 4 (.bad 0 true) = true := by kernel_rfl
set_option maxRecDepth 100000 in
theorem o1_5_3 : runO 1 5 (.bad 5 false) = true := by kernel_rfl
set_option maxRecDepth 100000 in
theorem o1_5_7 : runO 1 5 (.bad 3 false) = true := by kernel_rfl
set_option maxRecDepth 100000 in
theorem o1_5_11 : runO 1 5 (.bad 1 false) = true := by kernel_rfl
set_option maxRecDepth 100000 in
theorem s1_6_0 : runS 1 6 .low = true := by kernel_rfl
set_option maxRecDepth 100000 in
theorem s1_6_1 : runS 1 6 .up = true := by kernel_rfl
set_option maxRecDepth 100000 in
theorem o1_6_0 : runO 1 6 .all = true := by kernel_rfl
set_option maxRecDepth 100000 in
theorem o1_6_4 : runO 1 6 (.bad 9 true) = true := by kernel_rfl
set_option maxRecDepth 100000 in
theorem o1_6_8 : runO 1 6 (.bad 7 true) = true := by kernel_rfl
set_option maxRecDepth 100000 in
theorem o1_6_12 : runO 1 6 (.bad 5 true) = true := by kernel_rfl
set_option maxRecDepth 100000 in
theorem o1_6_16 : runO 1 6 (.bad 3 true) = true := by kernel_rfl
set_option maxRecDepth 100000 in
theorem o1_6_20 : runO 1 6 (.bad 1 true) = true := by kernel_rfl
set_option maxRecDepth 100000 in
theorem s2_1_0 : runS 2 1 .low = true := by kernel_rfl
set_option maxRecDepth 100000 in
theorem o2_1_0 : runO 2 1 .all = true := by kernel_rfl
set_option maxRecDepth 100000 in
theorem o2_2_0 : runO 2 2 .all = true := by kernel_rfl
set_option maxRecDepth 100000 in
theorem o2_2_4 : runO 2 2 (.bad 0 true) = true := by kernel_rfl
set_option maxRecDepth 100000 in
theorem o2_3_3 : runO 2 3 (.bad 1 false) = true := by kernel_rfl
set_option maxRecDepth 100000 in
theorem s2_4_0 : runS 2 4 .low = true := by kernel_rfl
set_option maxRecDepth 100000 in
theorem o2_4_0 : runO 2 4 .all = true := by kernel_rfl
set_option maxRecDepth 100000 in
theorem o2_4_4 : runO 2 4 (.bad 3 true) = true := by kernel_rfl
set_option maxRecDepth 100000 in
theorem o2_4_8 : runO 2 4 (.bad 1 true) = true := by kernel_rfl
set_option maxRecDepth 100000 in
theorem o2_5_1 : runO 2 5 (.bad 6 false) = true := by kernel_rfl
set_option maxRecDepth 100000 in
theorem o2_5_5 : runO 2 5 (.bad 4 false) = true := by kernel_rfl
set_option maxRecDepth 100000 in
theorem o2_5_9 : runO 2 5 (.bad 2 false) = true := by kernel_rfl
set_option maxRecDepth 100000 in
theorem o2_5_13 : runO 2 5 (.bad 0 false) = true := by kernel_rfl
set_option maxRecDepth 100000 in
theorem o2_6_2 : runO 2 6 (.bad 10 true) = true := by kernel_rfl
set_option maxRecDepth 100000 in
theorem o2_6_6 : runO 2 6 (.bad 8 true) = true := by kernel_rfl
set_option maxRecDepth 100000 in
theorem o2_6_10 : runO 2 6 (.bad 6 true) = true := by kernel_rfl
set_option maxRecDepth 100000 in
theorem o2_6_14 : runO 2 6 (.bad 4 true) = true := by kernel_rfl
set_option maxRecDepth 100000 in
theorem o2_6_18 : runO 2 6 (.bad 2 true) = true := by kernel_rfl
set_option maxRecDepth 100000 in
theorem o2_6_22 : runO 2 6 (.bad 0 true) = true := by kernel_rfl
set_option maxRecDepth 100000 in
theorem o3_1_2 : runO 3 1 (.bad 0 true) = true := by kernel_rfl
set_option maxRecDepth 100000 in
theorem o3_2_3 : runO 3 2 (.bad 0 false) = true := by kernel_rfl
set_option maxRecDepth 100000 in
theorem o3_3_0 : runO 3 3 .all = true := by kernel_rfl
set_option maxRecDepth 100000 in
theorem o3_3_4 : runO 3 3 (.bad 1 true) = true := by kernel_rfl
set_option maxRecDepth 100000 in
theorem s3_4_1 : runS 3 4 .up = true := by kernel_rfl
set_option maxRecDepth 100000 in
theorem o3_4_3 : runO 3 4 (.bad 3 false) = true := by kernel_rfl
set_option maxRecDepth 100000 in
theorem o3_4_7 : runO 3 4 (.bad 1 false) = true := by kernel_rfl
set_option maxRecDepth 100000 in
theorem s3_5_0 : runS 3 5 .low = true := by kernel_rfl
set_option maxRecDepth 100000 in
theorem s3_5_1 : runS 3 5 .up = true := by kernel_rfl
set_option maxRecDepth 100000 in
theorem o3_5_0 : runO 3 5 .all = true := by kernel_rfl
set_option maxRecDepth 100000 in
theorem o3_5_4 : runO 3 5 (.bad 5 true) = true := by kernel_rfl
set_option maxRecDepth 100000 in
theorem o3_5_8 : runO 3 5 (.bad 3 true) = true := by kernel_rfl
set_option maxRecDepth 100000 in
theorem o3_5_12 : runO 3 5 (.bad 1 true) = true := by kernel_rfl
set_option maxRecDepth 100000 in
theorem o3_6_1 : runO 3 6 (.bad 10 false) = true := by kernel_rfl
set_option maxRecDepth 100000 in
theorem o3_6_5 : runO 3 6 (.bad 8 false) = true := by kernel_rfl
set_option maxRecDepth 100000 in
theorem o3_6_9 : runO 3 6 (.bad 6 false) = true := by kernel_rfl
set_option maxRecDepth 100000 in
theorem o3_6_13 : runO 3 6 (.bad 4 false) = true := by kernel_rfl
set_option maxRecDepth 100000 in
theorem o3_6_17 : runO 3 6 (.bad 2 false) = true := by kernel_rfl
set_option maxRecDepth 100000 in
theorem o3_6_21 : runO 3 6 (.bad 0 false) = true := by kernel_rfl
set_option maxRecDepth 100000 in
theorem s4_1_1 : runS 4 1 .up = true := by kernel_rfl
set_option maxRecDepth 100000 in
theorem o4_1_1 : runO 4 1 (.bad 0 false) = true := by kernel_rfl
set_option maxRecDepth 100000 in
theorem o4_2_2 : runO 4 2 (.bad 1 true) = true := by kernel_rfl
set_option maxRecDepth 100000 in
theorem s4_3_1 : runS 4 3 .up = true := by kernel_rfl
set_option maxRecDepth 100000 in
theorem o4_3_2 : runO 4 3 (.bad 2 true) = true := by kernel_rfl
set_option maxRecDepth 100000 in
theorem o4_3_6 : runO 4 3 (.bad 0 true) = true := by kernel_rfl
set_option maxRecDepth 100000 in
theorem o4_4_2 : runO 4 4 (.bad 4 true) = true := by kernel_rfl
set_option maxRecDepth 100000 in
theorem o4_4_6 : runO 4 4 (.bad 2 true) = true := by kernel_rfl
set_option maxRecDepth 100000 in
theorem o4_4_10 : runO 4 4 (.bad 0 true) = true := by kernel_rfl
set_option maxRecDepth 100000 in
theorem o4_5_3 : runO 4 5 (.bad 5 false) = true := by kernel_rfl
set_option maxRecDepth 100000 in
theorem o4_5_7 : runO 4 5 (.bad 3 false) = true := by kernel_rfl
set_option maxRecDepth 100000 in
theorem o4_5_11 : runO 4 5 (.bad 1 false) = true := by kernel_rfl
set_option maxRecDepth 100000 in
theorem s4_6_0 : runS 4 6 .low = true := by kernel_rfl
set_option maxRecDepth 100000 in
theorem s4_6_1 : runS 4 6 .up = true := by kernel_rfl
set_option maxRecDepth 100000 in
theorem o4_6_0 : runO 4 6 .all = true := by kernel_rfl
set_option maxRecDepth 100000 in
theorem o4_6_4 : runO 4 6 (.bad 9 true) = true := by kernel_rfl
set_option maxRecDepth 100000 in
theorem o4_6_8 : runO 4 6 (.bad 7 true) = true := by kernel_rfl
set_option maxRecDepth 100000 in
theorem o4_6_12 : runO 4 6 (.bad 5 true) = true := by kernel_rfl
set_option maxRecDepth 100000 in
theorem o4_6_16 : runO 4 6 (.bad 3 true) = true := by kernel_rfl
set_option maxRecDepth 100000 in
theorem o4_6_20 : runO 4 6 (.bad 1 true) = true := by kernel_rfl
set_option maxRecDepth 100000 in
theorem n0_2_0 : runN .nil (.is 0) .mid = true := by kernel_rfl
set_option maxRecDepth 100000 in
theorem n0_3_1 : runN .nil (.is 1) .low = true := by kernel_rfl
set_option maxRecDepth 100000 in
theorem n0_4_2 : runN .nil (.is 2) .up = true := by kernel_rfl
set_option maxRecDepth 100000 in
theorem n0_6_0 : runN .nil (.is 4) .mid = true := by kernel_rfl
set_option maxRecDepth 100000 in
theorem n0_7_1 : runN .nil (.is 5) .low = true := by kernel_rfl
set_option maxRecDepth 100000 in
theorem n0_8_2 : runN .nil (.is 6) .up = true := by kernel_rfl
set_option maxRecDepth 100000 in
theorem n0_10_0 : runN .nil (.is 8) .mid = true := by kernel_rfl
set_option maxRecDepth 100000 in
theorem n0_11_1 : runN .nil (.is 9) .low = true := by kernel_rfl
set_option maxRecDepth 100000 in
theorem n0_12_2 : runN .nil (.is 10) .up = true := by kernel_rfl
set_option maxRecDepth 100000 in
theorem n1_0_0 : runN .zero .wide .mid = true := by kernel_rfl
set_option maxRecDepth 100000 in
theorem n1_1_1 : runN .zero .long .low = true := by kernel_rfl
set_option maxRecDepth 100000 in
theorem n1_2_2 : runN .zero (.is 0) .up = true := by kernel_rfl
set_option maxRecDepth 100000 in
theorem n1_4_0 : runN .zero (.is 2) .mid = true := by kernel_rfl
set_option maxRecDepth 100000 in
theorem n1_5_1 : runN .zero (.is 3) .low = true := by kernel_rfl
set_option maxRecDepth 100000 in
theorem n1_6_2 : runN .zero (.is 4) .up = true := by kernel_rfl
set_option maxRecDepth 100000 in
theorem n1_8_0 : runN .zero (.is 6) .mid = true := by kernel_rfl
set_option maxRecDepth 100000 in
theorem n1_9_1 : runN .zero (.is 7) .low = true := by kernel_rfl
set_option maxRecDepth 100000 in
theorem n1_10_2 : runN .zero (.is 8) .up = true := by kernel_rfl
set_option maxRecDepth 100000 in
theorem n1_12_0 : runN .zero (.is 10) .mid = true := by kernel_rfl
set_option maxRecDepth 100000 in
theorem n1_13_1 : runN .zero (.is 11) .low = true := by kernel_rfl
set_option maxRecDepth 100000 in
theorem n2_0_2 : runN .emp .wide .up = true := by kernel_rfl
set_option maxRecDepth 100000 in
theorem n2_2_0 : runN .emp (.is 0) .mid = true := by kernel_rfl
set_option maxRecDepth 100000 in
theorem n2_3_1 : runN .emp (.is 1) .low = true := by kernel_rfl
set_option maxRecDepth 100000 in
theorem n2_4_2 : runN .emp (.is 2) .up = true := by kernel_rfl
set_option maxRecDepth 100000 in
theorem n2_6_0 : runN .emp (.is 4) .mid = true := by kernel_rfl
set_option maxRecDepth 100000 in
theorem n2_7_1 : runN .emp (.is 5) .low = true := by kernel_rfl
set_option maxRecDepth 100000 in
theorem n2_8_2 : runN .emp (.is 6) .up = true := by kernel_rfl
set_option maxRecDepth 100000 in
theorem n2_10_0 : runN .emp (.is 8) .mid = true := by kernel_rfl
set_option maxRecDepth 100000 in
theorem n2_11_1 : runN .emp (.is 9) .low = true := by kernel_rfl
set_option maxRecDepth 100000 in
theorem n2_12_2 : runN .emp (.is 10) .up = true := by kernel_rfl
set_option maxRecDepth 100000 in
theorem n3_0_0 : runN .opq .wide .mid = true := by kernel_rfl
set_option maxRecDepth 100000 in
theorem n3_1_1 : runN .opq .long .low = true := by kernel_rfl
set_option maxRecDepth 100000 in
theorem n3_2_2 : runN .opq (.is 0) .up = true := by kernel_rfl
set_option maxRecDepth 100000 in
theorem n3_4_0 : runN .opq (.is 2) .mid = true := by kernel_rfl
set_option maxRecDepth 100000 in
theorem n3_5_1 : runN .opq (.is 3) .low = true := by kernel_rfl
set_option maxRecDepth 100000 in
theorem n3_6_2 : runN .opq (.is 4) .up = true := by kernel_rfl
set_option maxRecDepth 100000 in
theorem n3_8_0 : runN .opq (.is 6) .mid = true := by kernel_rfl
set_option maxRecDepth 100000 in
theorem n3_9_1 : runN .opq (.is 7) .low = true := by kernel_rfl
set_option maxRecDepth 100000 in
theorem n3_10_2 : runN .opq (.is 8) .up = true := by kernel_rfl
set_option maxRecDepth 100000 in
theorem n3_12_0 : runN .opq (.is 10) .mid = true := by kernel_rfl
set_option maxRecDepth 100000 in
theorem n3_13_1 : runN .opq (.is 11) .low = true := by kernel_rfl
end Go.Proofs.Ythggbkoccgigaaa.fnExactSumTimesRuns
