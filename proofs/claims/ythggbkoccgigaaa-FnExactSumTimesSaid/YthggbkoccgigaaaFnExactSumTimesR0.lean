/- Runs of the program at a seat. -/
import Derived.Test.YthggbkoccgigaaaFnExactSumTimesP
namespace Go.Proofs.Ythggbkoccgigaaa.fnExactSumTimesRuns
open Go Go.Eng
set_option linter.unusedVariables false
set_option linter.unusedSectionVars false
set_option linter.unusedSimpArgs false
set_option maxRecDepth 100000 in
theorem s0_0_0 : runS 0 0 .low = true := by kernel_rfl
set_option maxRecDepth 100000 in
theorem o0_0_2 : runO 0 0 (.bad 0 true) = true := by kernel_rfl
set_option maxRecDepth 100000 in
theorem s0_2_0 : runS 0 2 .low = true := by kernel_rfl
set_option maxRecDepth 100000 in
theorem s0_2_1 : runS 0 2 .up = true := by kernel_rfl
set_option maxRecDepth 100000 in
theorem o0_2_1 : runO 0 2 (.bad 1 false) = true := by kernel_rfl
set_option maxRecDepth 100000 in
theorem s0_3_0 : runS 0 3 .low = true := by kernel_rfl
set_option maxRecDepth 100000 in
theorem o0_3_1 : runO 0 3 (.bad 2 false) = true := by kernel_rfl
set_option maxRecDepth 100000 in
theorem o0_3_5 : runO 0 3 (.bad 0 false) = true := by kernel_rfl
set_option maxRecDepth 100000 in
theorem o0_4_1 : runO 0 4 (.bad 4 false) = true := by kernel_rfl
set_option maxRecDepth 100000 in
theorem o0_4_5 : runO 0 4 (.bad 2 false) = true := by kernel_rfl
set_option maxRecDepth 100000 in
theorem o0_4_9 : runO 0 4 (.bad 0 false) = true := by kernel_rfl
set_option maxRecDepth 100000 in
theorem o0_5_2 : runO 0 5 (.bad 6 true) = true := by kernel_rfl
set_option maxRecDepth 100000 in
theorem o0_5_6 : runO 0 5 (.bad 4 true) = true := by kernel_rfl
set_option maxRecDepth 100000 in
theorem o0_5_10 : runO 0 5 (.bad 2 true) = true := by kernel_rfl
set_option maxRecDepth 100000 in
theorem o0_5_14 : runO 0 5 (.bad 0 true) = true := by kernel_rfl
set_option maxRecDepth 100000 in
theorem o0_6_3 : runO 0 6 (.bad 9 false) = true := by kernel_rfl
set_option maxRecDepth 100000 in
theorem o0_6_7 : runO 0 6 (.bad 7 false) = true := by kernel_rfl
set_option maxRecDepth 100000 in
theorem o0_6_11 : runO 0 6 (.bad 5 false) = true := by kernel_rfl
set_option maxRecDepth 100000 in
theorem o0_6_15 : runO 0 6 (.bad 3 false) = true := by kernel_rfl
set_option maxRecDepth 100000 in
theorem o0_6_19 : runO 0 6 (.bad 1 false) = true := by kernel_rfl
set_option maxRecDepth 100000 in
theorem s1_0_0 : runS 1 0 .low = true := by kernel_rfl
set_option maxRecDepth 100000 in
theorem s1_0_1 : runS 1 0 .up = true := by kernel_rfl
set_option maxRecDepth 100000 in
theorem o1_0_0 : runO 1 0 .all = true := by kernel_rfl
set_option maxRecDepth 100000 in
theorem o1_0_1 : runO 1 0 (.bad 0 false) = true := by kernel_rfl
set_option maxRecDepth 100000 in
theorem o1_0_2 : runO 1 0 (.bad 0 true) = true := by kernel_rfl
set_option maxRecDepth 100000 in
theorem s1_2_0 : runS 1 2 .low = true := by kernel_rfl
set_option maxRecDepth 100000 in
theorem s1_2_1 : runS 1 2 .up = true := by kernel_rfl
set_option maxRecDepth 100000 in
theorem o1_2_0 : runO 1 2 .all = true := by kernel_rfl
set_option maxRecDepth 100000 in
theorem o1_2_4 : runO 1 2 (.bad 0 true) = true := by kernel_rfl
set_option maxRecDepth 100000 in
theorem o1_3_3 : runO 1 3 (.bad 1 false) = true := by kernel_rfl
set_option maxRecDepth 100000 in
theorem s1_4_0 : runS 1 4 .low = true := by kernel_rfl
set_option maxRecDepth 100000 in
theorem o1_4_0 : runO 1 4 .all = true := by kernel_rfl
set_option maxRecDepth 100000 in
theorem o1_4_4 : runO 1 4 (.bad 3 true) = true := by kernel_rfl
set_option maxRecDepth 100000 in
theorem o1_4_8 : runO 1 4 (.bad 1 true) = true := by kernel_rfl
set_option maxRecDepth 100000 in
theorem o1_5_1 : runO 1 5 (.bad 6 false) = true := by kernel_rfl
set_option maxRecDepth 100000 in
theorem o1_5_5 : runO 1 5 (.bad 4 false) = true := by kernel_rfl
set_option maxRecDepth 100000 in
theorem o1_5_9 : runO 1 5 (.bad 2 false) = true := by kernel_rfl
set_option maxRecDepth 100000 in
theorem o1_5_13 : runO 1 5 (.bad 0 false) = true := by kernel_rfl
set_option maxRecDepth 100000 in
theorem o1_6_2 : runO 1 6 (.bad 10 true) = true := by kernel_rfl
set_option maxRecDepth 100000 in
theorem o1_6_6 : runO 1 6 (.bad 8 true) = true := by kernel_rfl
set_option maxRecDepth 100000 in
theorem o1_6_10 : runO 1 6 (.bad 6 true) = true := by kernel_rfl
set_option maxRecDepth 100000 in
theorem o1_6_14 : runO 1 6 (.bad 4 true) = true := by kernel_rfl
set_option maxRecDepth 100000 in
theorem o1_6_18 : runO 1 6 (.bad 2 true) = true := by kernel_rfl
set_option maxRecDepth 100000 in
theorem o1_6_22 : runO 1 6 (.bad 0 true) = true := by kernel_rfl
set_option maxRecDepth 100000 in
theorem o2_1_2 : runO 2 1 (.bad 0 true) = true := by kernel_rfl
set_option maxRecDepth 100000 in
theorem o2_2_3 : runO 2 2 (.bad 0 false) = true := by kernel_rfl
set_option maxRecDepth 100000 in
theorem o2_3_0 : runO 2 3 .all = true := by kernel_rfl
set_option maxRecDepth 100000 in
theorem o2_3_4 : runO 2 3 (.bad 1 true) = true := by kernel_rfl
set_option maxRecDepth 100000 in
theorem s2_4_1 : runS 2 4 .up = true := by kernel_rfl
set_option maxRecDepth 100000 in
theorem o2_4_3 : runO 2 4 (.bad 3 false) = true := by kernel_rfl
set_option maxRecDepth 100000 in
theorem o2_4_7 : runO 2 4 (.bad 1 false) = true := by kernel_rfl
set_option maxRecDepth 100000 in
theorem s2_5_0 : runS 2 5 .low = true := by kernel_rfl
set_option maxRecDepth 100000 in
theorem s2_5_1 : runS 2 5 .up = true := by kernel_rfl
set_option maxRecDepth 100000 in
theorem o2_5_0 : runO 2 5 .all = true := by kernel_rfl
set_option maxRecDepth 100000 in
theorem o2_5_4 : runO 2 5 (.bad 5 true) = true := by kernel_rfl
set_option maxRecDepth 100000 in
theorem o2_5_8 : runO 2 5 (.bad 3 true) = true := by kernel_rfl
set_option maxRecDepth 100000 in
theorem o2_5_12 : runO 2 5 (.bad 1 true) = true := by kernel_rfl
set_option maxRecDepth 100000 in
theorem o2_6_1 : runO 2 6 (.bad 10 false) = true := by kernel_rfl
set_option maxRecDepth 100000 in
theorem o2_6_5 : runO 2 6 (.bad 8 false) = true := by kernel_rfl
set_option maxRecDepth 100000 in
theorem o2_6_9 : runO 2 6 (.bad 6 false) = true := by kernel_rfl
set_option maxRecDepth 100000 in
theorem o2_6_13 : runO 2 6 (.bad 4 false) = true := by kernel_rfl
set_option maxRecDepth 100000 in
theorem o2_6_17 : runO 2 6 (.bad 2 false) = true := by kernel_rfl
set_option maxRecDepth 100000 in
theorem o2_6_21 : runO 2 6 (.bad 0 false) = true := by kernel_rfl
set_option maxRecDepth 100000 in
theorem s3_1_1 : runS 3 1 .up = true := by kernel_rfl
set_option maxRecDepth 100000 in
theorem o3_1_1 : runO 3 1 (.bad 0 false) = true := by kernel_rfl
set_option maxRecDepth 100000 in
theorem o3_2_2 : runO 3 2 (.bad 1 true) = true := by kernel_rfl
set_option maxRecDepth 100000 in
theorem s3_3_1 : runS 3 3 .up = true := by kernel_rfl
set_option maxRecDepth 100000 in
theorem o3_3_2 : runO 3 3 (.bad 2 true) = true := by kernel_rfl
set_option maxRecDepth 100000 in
theorem o3_3_6 : runO 3 3 (.bad 0 true) = true := by kernel_rfl
set_option maxRecDepth 100000 in
theorem o3_4_2 : runO 3 4 (.bad 4 true) = true := by kernel_rfl
set_option maxRecDepth 100000 in
theorem o3_4_6 : runO 3 4 (.bad 2 true) = true := by kernel_rfl
set_option maxRecDepth 100000 in
theorem o3_4_10 : runO 3 4 (.bad 0 true) = true := by kernel_rfl
set_option maxRecDepth 100000 in
theorem o3_5_3 : runO 3 5 (.bad 5 false) = true := by kernel_rfl
set_option maxRecDepth 100000 in
theorem o3_5_7 : runO 3 5 (.bad 3 false) = true := by kernel_rfl
set_option maxRecDepth 100000 in
theorem o3_5_11 : runO 3 5 (.bad 1 false) = true := by kernel_rfl
set_option maxRecDepth 100000 in
theorem s3_6_0 : runS 3 6 .low = true := by kernel_rfl
set_option maxRecDepth 100000 in
theorem s3_6_1 : runS 3 6 .up = true := by kernel_rfl
set_option maxRecDepth 100000 in
theorem o3_6_0 : runO 3 6 .all = true := by kernel_rfl
set_option maxRecDepth 100000 in
theorem o3_6_4 : runO 3 6 (.bad 9 true) = true := by kernel_rfl
set_option maxRecDepth 100000 in
theorem o3_6_8 : runO 3 6 (.bad 7 true) = true := by kernel_rfl
set_option maxRecDepth 100000 in
theorem o3_6_12 : runO 3 6 (.bad 5 true) = true := by kernel_rfl
set_option maxRecDepth 100000 in
theorem o3_6_16 : runO 3 6 (.bad 3 true) = true := by kernel_rfl
set_option maxRecDepth 100000 in
theorem o3_6_20 : runO 3 6 (.bad 1 true) = true := by kernel_rfl
set_option maxRecDepth 100000 in
theorem s4_1_0 : runS 4 1 .low = true := by kernel_rfl
set_option maxRecDepth 100000 in
theorem o4_1_0 : runO 4 1 .all = true := by kernel_rfl
set_option maxRecDepth 100000 in
theorem o4_2_1 : runO 4 2 (.bad 1 false) = true := by kernel_rfl
set_option maxRecDepth 100000 in
theorem s4_3_0 : runS 4 3 .low = true := by kernel_rfl
set_option maxRecDepth 100000 in
theorem o4_3_1 : runO 4 3 (.bad 2 false) = true := by kernel_rfl
set_option maxRecDepth 100000 in
theorem o4_3_5 : runO 4 3 (.bad 0 false) = true := by kernel_rfl
set_option maxRecDepth 100000 in
theorem o4_4_1 : runO 4 4 (.bad 4 false) = true := by kernel_rfl
set_option maxRecDepth 100000 in
theorem o4_4_5 : runO 4 4 (.bad 2 false) = true := by kernel_rfl
set_option maxRecDepth 100000 in
theorem o4_4_9 : runO 4 4 (.bad 0 false) = true := by kernel_rfl
set_option maxRecDepth 100000 in
theorem o4_5_2 : runO 4 5 (.bad 6 true) = true := by kernel_rfl
set_option maxRecDepth 100000 in
theorem o4_5_6 : runO 4 5 (.bad 4 true) = true := by kernel_rfl
set_option maxRecDepth 100000 in
theorem o4_5_10 : runO 4 5 (.bad 2 true) = true := by kernel_rfl
set_option maxRecDepth 100000 in
theorem o4_5_14 : runO 4 5 (.bad 0 true) = true := by kernel_rfl
set_option maxRecDepth 100000 in
theorem o4_6_3 : runO 4 6 (.bad 9 false) = true := by kernel_rfl
set_option maxRecDepth 100000 in
theorem o4_6_7 : runO 4 6 (.bad 7 false) = true := by kernel_rfl
set_option maxRecDepth 100000 in
theorem o4_6_11 : runO 4 6 (.bad 5 false) = true := by kernel_rfl
set_option maxRecDepth 100000 in
theorem o4_6_15 : runO 4 6 (.bad 3 false) = true := by kernel_rfl
set_option maxRecDepth 100000 in
theorem o4_6_19 : runO 4 6 (.bad 1 false) = true := by kernel_rfl
set_option maxRecDepth 100000 in
theorem n0_0_0 : runN .nil .wide .mid = true := by kernel_rfl
set_option maxRecDepth 100000 in
theorem n0_0_1 : runN .nil .wide .low = true := by kernel_rfl
set_option maxRecDepth 100000 in
theorem n0_0_2 : runN .nil .wide .up = true := by kernel_rfl
set_option maxRecDepth 100000 in
theorem n0_1_0 : runN .nil .long .mid = true := by kernel_rfl
set_option maxRecDepth 100000 in
theorem n0_1_1 : runN .nil .long .low = true := by kernel_rfl
set_option maxRecDepth 100000 in
theorem n0_1_2 : runN .nil .long .up = true := by kernel_rfl
set_option maxRecDepth 100000 in
theorem n0_2_1 : runN .nil (.is 0) .low = true := by kernel_rfl
set_option maxRecDepth 100000 in
theorem n0_3_2 : runN .nil (.is 1) .up = true := by kernel_rfl
set_option maxRecDepth 100000 in
theorem n0_5_0 : runN .nil (.is 3) .mid = true := by kernel_rfl
set_option maxRecDepth 100000 in
theorem n0_6_1 : runN .nil (.is 4) .low = true := by kernel_rfl
set_option maxRecDepth 100000 in
theorem n0_7_2 : runN .nil (.is 5) .up = true := by kernel_rfl
set_option maxRecDepth 100000 in
theorem n0_9_0 : runN .nil (.is 7) .mid = true := by kernel_rfl
set_option maxRecDepth 100000 in
theorem n0_10_1 : runN .nil (.is 8) .low = true := by kernel_rfl
set_option maxRecDepth 100000 in
theorem n0_11_2 : runN .nil (.is 9) .up = true := by kernel_rfl
set_option maxRecDepth 100000 in
theorem n0_13_0 : runN .nil (.is 11) .mid = true := by kernel_rfl
set_option maxRecDepth 100000 in
theorem n1_0_1 : runN .zero .wide .low = true := by kernel_rfl
set_option maxRecDepth 100000 in
theorem n1_1_2 : runN .zero .long .up = true := by kernel_rfl
set_option maxRecDepth 100000 in
theorem n1_3_0 : runN .zero (.is 1) .mid = true := by kernel_rfl
set_option maxRecDepth 100000 in
theorem n1_4_1 : runN .zero (.is 2) .low = true := by kernel_rfl
set_option maxRecDepth 100000 in
theorem n1_5_2 : runN .zero (.is 3) .up = true := by kernel_rfl
set_option maxRecDepth 100000 in
theorem n1_7_0 : runN .zero (.is 5) .mid = true := by kernel_rfl
set_option maxRecDepth 100000 in
theorem n1_8_1 : runN .zero (.is 6) .low = true := by kernel_rfl
set_option maxRecDepth 100000 in
theorem n1_9_2 : runN .zero (.is 7) .up = true := by kernel_rfl
set_option maxRecDepth 100000 in
theorem n1_11_0 : runN .zero (.is 9) .mid = true := by kernel_rfl
set_option maxRecDepth 100000 in
theorem n1_12_1 : runN .zero (.is 10) .low = true := by kernel_rfl
set_option maxRecDepth 100000 in
theorem n1_13_2 : runN .zero (.is 11) .up = true := by kernel_rfl
set_option maxRecDepth 100000 in
theorem n2_1_0 : runN .emp .long .mid = true := by kernel_rfl
set_option maxRecDepth 100000 in
theorem n2_2_1 : runN .emp (.is 0) .low = true := by kernel_rfl
set_option maxRecDepth 100000 in
theorem n2_3_2 : runN .emp (.is 1) .up = true := by kernel_rfl
set_option maxRecDepth 100000 in
theorem n2_5_0 : runN .emp (.is 3) .mid = true := by kernel_rfl
set_option maxRecDepth 100000 in
theorem n2_6_1 : runN .emp (.is 4) .low = true := by kernel_rfl
set_option maxRecDepth 100000 in
theorem n2_7_2 : runN .emp (.is 5) .up = true := by kernel_rfl
set_option maxRecDepth 100000 in
theorem n2_9_0 : runN .emp (.is 7) .mid = true := by kernel_rfl
set_option maxRecDepth 100000 in
theorem n2_10_1 : runN .emp (.is 8) .low = true := by kernel_rfl
set_option maxRecDepth 100000 in
theorem n2_11_2 : runN .emp (.is 9) .up = true := by kernel_rfl
set_option maxRecDepth 100000 in
theorem n2_13_0 : runN .emp (.is 11) .mid = true := by kernel_rfl
set_option maxRecDepth 100000 in
theorem n3_0_1 : runN .opq .wide .low = true := by kernel_rfl
set_option maxRecDepth 100000 in
theorem n3_1_2 : runN .opq .long .up = true := by kernel_rfl
set_option maxRecDepth 100000 in
theorem n3_3_0 : runN .opq (.is 1) .mid = true := by kernel_rfl
set_option maxRecDepth 100000 in
theorem n3_4_1 : runN .opq (.is 2) .low = true := by kernel_rfl
set_option maxRecDepth 100000 in
theorem n3_5_2 : runN .opq (.is 3) .up = true := by kernel_rfl
set_option maxRecDepth 100000 in
theorem n3_7_0 : runN .opq (.is 5) .mid = true := by kernel_rfl
set_option maxRecDepth 100000 in
theorem n3_8_1 : runN .opq (.is 6) .low = true := by kernel_rfl
set_option maxRecDepth 100000 in
theorem n3_9_2 : runN .opq (.is 7) .up = true := by kernel_rfl
set_option maxRecDepth 100000 in
theorem n3_11_0 : runN .opq (.is 9) .mid = true := by kernel_rfl
set_option maxRecDepth 100000 in
theorem n3_12_1 : runN .opq (.is 10) .low = true := by kernel_rfl
set_option maxRecDepth 100000 in
theorem n3_13_2 : runN .opq (.is 11) .up = true := by kernel_rfl
end Go.Proofs.Ythggbkoccgigaaa.fnExactSumTimesRuns
