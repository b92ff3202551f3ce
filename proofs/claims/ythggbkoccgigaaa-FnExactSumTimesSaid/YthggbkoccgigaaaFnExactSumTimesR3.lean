/- Runs of the program at a seat. -/
import Derived.Test.YthggbkoccgigaaaFnExactSumTimesP
namespace Go.Proofs.Ythggbkoccgigaaa.fnExactSumTimesRuns
open Go Go.Eng
set_option linter.unusedVariables false
set_option linter.unusedSectionVars false
set_option linter.unusedSimpArgs false
set_option maxRecDepth 100000 in
theorem o0_0_1 : runO 0 0 (.bad 0 false) = true := by kernel_rfl
set_option maxRecDepth 100000 in
theorem o0_1_2 : runO 0 1 (.bad 0 true) = true := by kernel_rfl
set_option maxRecDepth 100000 in
theorem o0_2_3 : runO 0 2 (.bad 0 false) = true := by kernel_rfl
set_option maxRecDepth 100000 in
theorem o0_3_0 : runO 0 3 .all = true := by kernel_rfl
set_option maxRecDepth 100000 in
theorem o0_3_4 : runO 0 3 (.bad 1 true) = true := by kernel_rfl
set_option maxRecDepth 100000 in
theorem o0_4_0 : runO 0 4 .all = true := by kernel_rfl
set_option maxRecDepth 100000 in
theorem o0_4_4 : runO 0 4 (.bad 3 true) = true := by kernel_rfl
set_option maxRecDepth 100000 in
theorem o0_4_8 : runO 0 4 (.bad 1 true) = true := by kernel_rfl
set_option maxRecDepth 100000 in
theorem o0_5_1 : runO 0 5 (.bad 6 false) = true := by kernel_rfl
set_option maxRecDepth 100000 in
theorem o0_5_5 : runO 0 5 (.bad 4 false) = true := by kernel_rfl
set_option maxRecDepth 100000 in
theorem o0_5_9 : runO 0 5 (.bad 2 false) = true := by kernel_rfl
set_option maxRecDepth 100000 in
theorem o0_5_13 : runO 0 5 (.bad 0 false) = true := by kernel_rfl
set_option maxRecDepth 100000 in
theorem o0_6_2 : runO 0 6 (.bad 10 true) = true := by kernel_rfl
set_option maxRecDepth 100000 in
theorem o0_6_6 : runO 0 6 (.bad 8 true) = true := by kernel_rfl
set_option maxRecDepth 100000 in
theorem o0_6_10 : runO 0 6 (.bad 6 true) = true := by kernel_rfl
set_option maxRecDepth 100000 in
theorem o0_6_14 : runO 0 6 (.bad 4 true) = true := by kernel_rfl
set_option maxRecDepth 100000 in
theorem o0_6_18 : runO 0 6 (.bad 2 true) = true := by kernel_rfl
set_option maxRecDepth 100000 in
theorem o0_6_22 : runO 0 6 (.bad 0 true) = true := by kernel_rfl
set_option maxRecDepth 100000 in
theorem o1_1_2 : runO 1 1 (.bad 0 true) = true := by kernel_rfl
set_option maxRecDepth 100000 in
theorem o1_2_3 : runO 1 2 (.bad 0 false) = true := by kernel_rfl
set_option maxRecDepth 100000 in
theorem o1_3_0 : runO 1 3 .all = true := by kernel_rfl
set_option maxRecDepth 100000 in
theorem o1_3_4 : runO 1 3 (.bad 1 true) = true := by kernel_rfl
set_option maxRecDepth 100000 in
theorem s1_4_1 : runS 1 4 .up = true := by kernel_rfl
set_option maxRecDepth 100000 in
theorem o1_4_3 : runO 1 4 (.bad 3 false) = true := by kernel_rfl
set_option maxRecDepth 100000 in
theorem o1_4_7 : runO 1 4 (.bad 1 false) = true := by kernel_rfl
set_option maxRecDepth 100000 in
theorem s1_5_0 : runS 1 5 .low = true := by kernel_rfl
set_option maxRecDepth 100000 in
theorem s1_5_1 : runS 1 5 .up = true := by kernel_rfl
set_option maxRecDepth 100000 in
theorem o1_5_0 : runO 1 5 .all = true := by kernel_rfl
set_option maxRecDepth 100000 in
theorem o1_5_4 : runO 1 5 (.bad 5 true) = true := by kernel_rfl
set_option maxRecDepth 100000 in
theorem o1_5_8 : runO 1 5 (.bad 3 true) = true := by kernel_rfl
set_option maxRecDepth 100000 in
theorem o1_5_12 : runO 1 5 (.bad 1 true) = true := by kernel_rfl
set_option maxRecDepth 100000 in
theorem o1_6_1 : runO 1 6 (.bad 10 false) = true := by kernel_rfl
set_option maxRecDepth 100000 in
theorem o1_6_5 : runO 1 6 (.bad 8 false) = true := by kernel_rfl
set_option maxRecDepth 100000 in
theorem o1_6_9 : runO 1 6 (.bad 6 false) = true := by kernel_rfl
set_option maxRecDepth 100000 in
theorem o1_6_13 : runO 1 6 (.bad 4 false) = true := by kernel_rfl
set_option maxRecDepth 100000 in
theorem o1_6_17 : runO 1 6 (.bad 2 false) = true := by kernel_rfl
set_option maxRecDepth 100000 in
theorem o1_6_21 : runO 1 6 (.bad 0 false) = true := by kernel_rfl
set_option maxRecDepth 100000 in
theorem s2_1_1 : runS 2 1 .up = true := by kernel_rfl
set_option maxRecDepth 100000 in
theorem o2_1_1 : runO 2 1 (.bad 0 false) = true := by kernel_rfl
set_option maxRecDepth 100000 in
theorem o2_2_2 : runO 2 2 (.bad 1 true) = true := by kernel_rfl
set_option maxRecDepth 100000 in
theorem s2_3_1 : runS 2 3 .up = true := by kernel_rfl
set_option maxRecDepth 100000 in
theorem o2_3_2 : runO 2 3 (.bad 2 true) = true := by kernel_rfl
set_option maxRecDepth 100000 in
theorem o2_3_6 : runO 2 3 (.bad 0 true) = true := by kernel_rfl
set_option maxRecDepth 100000 in
theorem o2_4_2 : runO 2 4 (.bad 4 true) = true := by kernel_rfl
set_option maxRecDepth 100000 in
theorem o2_4_6 : runO 2 4 (.bad 2 true) = true := by kernel_rfl
set_option maxRecDepth 100000 in
theorem o2_4_10 : runO 2 4 (.bad 0 true) = true := by kernel_rfl
set_option maxRecDepth 100000 in
theorem o2_5_3 : runO 2 5 (.bad 5 false) = true := by kernel_rfl
set_option maxRecDepth 100000 in
theorem o2_5_7 : runO 2 5 (.bad 3 false) = true := by kernel_rfl
set_option maxRecDepth 100000 in
theorem o2_5_11 : runO 2 5 (.bad 1 false) = true := by kernel_rfl
set_option maxRecDepth 100000 in
theorem s2_6_0 : runS 2 6 .low = true := by kernel_rfl
set_option maxRecDepth 100000 in
theorem s2_6_1 : runS 2 6 .up = true := by kernel_rfl
set_option maxRecDepth 100000 in
theorem o2_6_0 : runO 2 6 .all = true := by kernel_rfl
set_option maxRecDepth 100000 in
theorem o2_6_4 : runO 2 6 (.bad 9 true) = true := by kernel_rfl
set_option maxRecDepth 100000 in
theorem o2_6_8 : runO 2 6 (.bad 7 true) = true := by kernel_rfl
set_option maxRecDepth 100000 in
theorem o2_6_12 : runO 2 6 (.bad 5 true) = true := by kernel_rfl
set_option maxRecDepth 100000 in
theorem o2_6_16 : runO 2 6 (.bad 3 true) = true := by kernel_rfl
set_option maxRecDepth 100000 in
theorem o2_6_20 : runO 2 6 (.bad 1 true) = true := by kernel_rfl
set_option maxRecDepth 100000 in
theorem s3_1_0 : runS 3 1 .low = true := by kernel_rfl
set_option maxRecDepth 100000 in
theorem o3_1_0 : runO 3 1 .all = true := by kernel_rfl
set_option maxRecDepth 100000 in
theorem o3_2_1 : runO 3 2 (.bad 1 false) = true := by kernel_rfl
set_option maxRecDepth 100000 in
theorem s3_3_0 : runS 3 3 .low = true := by kernel_rfl
set_option maxRecDepth 100000 in
theorem o3_3_1 : runO 3 3 (.bad 2 false) = true := by kernel_rfl
set_option maxRecDepth 100000 in
theorem o3_3_5 : runO 3 3 (.bad 0 false) = true := by kernel_rfl
set_option maxRecDepth 100000 in
theorem o3_4_1 : runO 3 4 (.bad 4 false) = true := by kernel_rfl
set_option maxRecDepth 100000 in
theorem o3_4_5 : runO 3 4 (.bad 2 false) = true := by kernel_rfl
set_option maxRecDepth 100000 in
theorem o3_4_9 : runO 3 4 (.bad 0 false) = true := by kernel_rfl
set_option maxRecDepth 100000 in
theorem o3_5_2 : runO 3 5 (.bad 6 true) = true := by kernel_rfl
set_option maxRecDepth 100000 in
theorem o3_5_6 : runO 3 5 (.bad 4 true) = true := by kernel_rfl
set_option maxRecDepth 100000 in
theorem o3_5_10 : runO 3 5 (.bad 2 true) = true := by kernel_rfl
set_option maxRecDepth 100000 in
theorem o3_5_14 : runO 3 5 (.bad 0 true) = true := by kernel_rfl
set_option maxRecDepth 100000 in
theorem o3_6_3 : runO 3 6 (.bad 9 false) = true := by kernel_rfl
set_option maxRecDepth 100000 in
theorem o3_6_7 : runO 3 6 (.bad 7 false) = true := by kernel_rfl
set_option maxRecDepth 100000 in
theorem o3_6_11 : runO 3 6 (.bad 5 false) = true := by kernel_rfl
set_option maxRecDepth 100000 in
theorem o3_6_15 : runO 3 6 (.bad 3 false) = true := by kernel_rfl
set_option maxRecDepth 100000 in
theorem o3_6_19 : runO 3 6 (.bad 1 false) = true := by kernel_rfl
set_option maxRecDepth 100000 in
theorem s4_0_0 : runS 4 0 .low = true := by kernel_rfl
set_option maxRecDepth 100000 in
theorem s4_0_1 : runS 4 0 .up = true := by kernel_rfl
set_option maxRecDepth 100000 in
theorem o4_0_0 : runO 4 0 .all = true := by kernel_rfl
set_option maxRecDepth 100000 in
theorem o4_0_1 : runO 4 0 (.bad 0 false) = true := by kernel_rfl
set_option maxRecDepth 100000 in
theorem o4_0_2 : runO 4 0 (.bad 0 true) = true := by kernel_rfl
set_option maxRecDepth 100000 in
theorem s4_2_0 : runS 4 2 .low = true := by kernel_rfl
set_option maxRecDepth 100000 in
theorem s4_2_1 : runS 4 2 .up = true := by kernel_rfl
set_option maxRecDepth 100000 in
theorem o4_2_0 : runO 4 2 .all = true := by kernel_rfl
set_option maxRecDepth 100000 in
theorem o4_2_4 : runO 4 2 (.bad 0 true) = true := by kernel_rfl
set_option maxRecDepth 100000 in
theorem o4_3_3 : runO 4 3 (.bad 1 false) = true := by kernel_rfl
set_option maxRecDepth 100000 in
theorem s4_4_0 : runS 4 4 .low = true := by kernel_rfl
set_option maxRecDepth 100000 in
theorem o4_4_0 : runO 4 4 .all = true := by kernel_rfl
set_option maxRecDepth 100000 in
theorem o4_4_4 : runO 4 4 (.bad 3 true) = true := by kernel_rfl
set_option maxRecDepth 100000 in
theorem o4_4_8 : runO 4 4 (.bad 1 true) = true := by kernel_rfl
set_option maxRecDepth 100000 in
theorem o4_5_1 : runO 4 5 (.bad 6 false) = true := by kernel_rfl
set_option maxRecDepth 100000 in
theorem o4_5_5 : runO 4 5 (.bad 4 false) = true := by kernel_rfl
set_option maxRecDepth 100000 in
theorem o4_5_9 : runO 4 5 (.bad 2 false) = true := by kernel_rfl
set_option maxRecDepth 100000 in
theorem o4_5_13 : runO 4 5 (.bad 0 false) = true := by kernel_rfl
set_option maxRecDepth 100000 in
theorem o4_6_2 : runO 4 6 (.bad 10 true) = true := by kernel_rfl
set_option maxRecDepth 100000 in
theorem o4_6_6 : runO 4 6 (.bad 8 true) = true := by kernel_rfl
set_option maxRecDepth 100000 in
theorem o4_6_10 : runO 4 6 (.bad 6 true) = true := by kernel_rfl
set_option maxRecDepth 100000 in
theorem o4_6_14 : runO 4 6 (.bad 4 true) = true := by kernel_rfl
set_option maxRecDepth 100000 in
theorem o4_6_18 : runO 4 6 (.bad 2 true) = true := by kernel_rfl
set_option maxRecDepth 100000 in
theorem o4_6_22 : runO 4 6 (.bad 0 true) = true := by kernel_rfl
set_option maxRecDepth 100000 in
theorem n0_3_0 : runN .nil (.is 1) .mid = true := by kernel_rfl
set_option maxRecDepth 100000 in
theorem n0_4_1 : runN .nil (.is 2) .low = true := by kernel_rfl
set_option maxRecDepth 100000 in
theorem n0_5_2 : runN .nil (.is 3) .up = true := by kernel_rfl
set_option maxRecDepth 100000 in
theorem n0_7_0 : runN .nil (.is 5) .mid = true := by kernel_rfl
set_option maxRecDepth 100000 in
theorem n0_8_1 : runN .nil (.is 6) .low = true := by kernel_rfl
set_option maxRecDepth 100000 in
theorem n0_9_2 : runN .nil (.is 7) .up = true := by kernel_rfl
set_option maxRecDepth 100000 in
theorem n0_11_0 : runN .nil (.is 9) .mid = true := by kernel_rfl
set_option maxRecDepth 100000 in
theorem n0_12_1 : runN .nil (.is 10) .low = true := by kernel_rfl
set_option maxRecDepth 100000 in
theorem n0_13_2 : runN .nil (.is 11) .up = true := by kernel_rfl
set_option maxRecDepth 100000 in
theorem n1_1_0 : runN .zero .long .mid = true := by kernel_rfl
set_option maxRecDepth 100000 in
theorem n1_2_1 : runN .zero (.is 0) .low = true := by kernel_rfl
set_option maxRecDepth 100000 in
theorem n1_3_2 : runN .zero (.is 1) .up = true := by kernel_rfl
set_option maxRecDepth 100000 in
theorem n1_5_0 : runN .zero (.is 3) .mid = true := by kernel_rfl
set_option maxRecDepth 100000 in
theorem n1_6_1 : runN .zero (.is 4) .low = true := by kernel_rfl
set_option maxRecDepth 100000 in
theorem n1_7_2 : runN .zero (.is 5) .up = true := by kernel_rfl
set_option maxRecDepth 100000 in
theorem n1_9_0 : runN .zero (.is 7) .mid = true := by kernel_rfl
set_option maxRecDepth 100000 in
theorem n1_10_1 : runN .zero (.is 8) .low = true := by kernel_rfl
set_option maxRecDepth 100000 in
theorem n1_11_2 : runN .zero (.is 9) .up = true := by kernel_rfl
set_option maxRecDepth 100000 in
theorem n1_13_0 : runN .zero (.is 11) .mid = true := by kernel_rfl
set_option maxRecDepth 100000 in
theorem n2_0_1 : runN .emp .wide .low = true := by kernel_rfl
set_option maxRecDepth 100000 in
theorem n2_1_2 : runN .emp .long .up = true := by kernel_rfl
set_option maxRecDepth 100000 in
theorem n2_3_0 : runN .emp (.is 1) .mid = true := by kernel_rfl
set_option maxRecDepth 100000 in
theorem n2_4_1 : runN .emp (.is 2) .low = true := by kernel_rfl
set_option maxRecDepth 100000 in
theorem n2_5_2 : runN .emp (.is 3) .up = true := by kernel_rfl
set_option maxRecDepth 100000 in
theorem n2_7_0 : runN .emp (.is 5) .mid = true := by kernel_rfl
set_option maxRecDepth 100000 in
theorem n2_8_1 : runN .emp (.is 6) .low = true := by kernel_rfl
set_option maxRecDepth 100000 in
theorem n2_9_2 : runN .emp (.is 7) .up = true := by kernel_rfl
set_option maxRecDepth 100000 in
theorem n2_11_0 : runN .emp (.is 9) .mid = true := by kernel_rfl
set_option maxRecDepth 100000 in
theorem n2_12_1 : runN .emp (.is 10) .low = true := by kernel_rfl
set_option maxRecDepth 100000 in
theorem n2_13_2 : runN .emp (.is 11) .up = true := by kernel_rfl
set_option maxRecDepth 100000 in
theorem n3_1_0 : runN .opq .long .mid = true := by kernel_rfl
set_option maxRecDepth 100000 in
theorem n3_2_1 : runN .opq (.is 0) .low = true := by kernel_rfl
set_option maxRecDepth 100000 in
theorem n3_3_2 : runN .opq (.is 1) .up = true := by kernel_rfl
set_option maxRecDepth 100000 in
theorem n3_5_0 : runN .opq (.is 3) .mid = true := by kernel_rfl
set_option maxRecDepth 100000 in
theorem n3_6_1 : runN .opq (.is 4) .low = true := by kernel_rfl
set_option maxRecDepth 100000 in
theorem n3_7_2 : runN .opq (.is 5) .up = true := by kernel_rfl
set_option maxRecDepth 100000 in
theorem n3_9_0 : runN .opq (.is 7) .mid = true := by kernel_rfl
set_option maxRecDepth 100000 in
theorem n3_10_1 : runN .opq (.is 8) .low = true := by kernel_rfl
set_option maxRecDepth 100000 in
theorem n3_11_2 : runN .opq (.is 9) .up = true := by kernel_rfl
set_option maxRecDepth 100000 in
theorem n3_13_0 : runN .opq (.is 11) .mid = true := by kernel_rfl
end Go.Proofs.Ythggbkoccgigaaa.fnExactSumTimesRuns
