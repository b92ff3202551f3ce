/- Runs of the program at a seat. -/
import Derived.Test.YthggbkoccgigaabFnExactSumCountP
namespace Go.Proofs.Ythggbkoccgigaab.fnExactSumCountRuns
open Go Go.Eng
set_option linter.unusedVariables false
set_option linter.unusedSectionVars false
set_option linter.unusedSimpArgs false
set_option maxRecDepth 100000 in
theorem s0_0 : runS 0 0 = true := by kernel_rfl
set_option maxRecDepth 100000 in
theorem y0_0 : yesS 0 0 = true := by kernel_rfl
set_option maxRecDepth 100000 in
theorem z0_0 : yesI 0 0 = true := by kernel_rfl
set_option maxRecDepth 100000 in
theorem s0_1 : runS 0 1 = true := by kernel_rfl
set_option maxRecDepth 100000 in
theorem y0_1 : yesS 0 1 = true := by kernel_rfl
set_option maxRecDepth 100000 in
theorem z0_1 : yesI 0 1 = true := by kernel_rfl
set_option maxRecDepth 100000 in
theorem s0_2 : runS 0 2 = true := by kernel_rfl
set_option maxRecDepth 100000 in
theorem y0_2 : yesS 0 2 = true := by kernel_rfl
set_option maxRecDepth 100000 in
theorem z0_2 : yesI 0 2 = true := by kernel_rfl
set_option maxRecDepth 100000 in
theorem s0_3 : runS 0 3 = true := by kernel_rfl
set_option maxRecDepth 100000 in
theorem y0_3 : yesS 0 3 = true := by kernel_rfl
set_option maxRecDepth 100000 in
theorem z0_3 : yesI 0 3 = true := by kernel_rfl
set_option maxRecDepth 100000 in
theorem s0_4 : runS 0 4 = true := by kernel_rfl
set_option maxRecDepth 100000 in
theorem y0_4 : yesS 0 4 = true := by kernel_rfl
set_option maxRecDepth 100000 in
theorem z0_4 : yesI 0 4 = true := by kernel_rfl
set_option maxRecDepth 100000 in
theorem s0_5 : runS 0 5 = true := by kernel_rfl
set_option maxRecDepth 100000 in
theorem y0_5 : yesS 0 5 = true := by kernel_rfl
set_option maxRecDepth 100000 in
theorem z0_5 : yesI 0 5 = true := by kernel_rfl
set_option maxRecDepth 100000 in
theorem s0_6 : runS 0 6 = true := by kernel_rfl
set_option maxRecDepth 100000 in
theorem y0_6 : yesS 0 6 = true := by kernel_rfl
set_option maxRecDepth 100000 in
theorem z0_6 : yesI 0 6 = true := by kernel_rfl
set_option maxRecDepth 100000 in
theorem s1_0 : runS 1 0 = true := by kernel_rfl
set_option maxRecDepth 100000 in
theorem y1_0 : yesS 1 0 = true := by kernel_rfl
set_option maxRecDepth 100000 in
theorem z1_0 : yesI 1 0 = true := by kernel_rfl
set_option maxRecDepth 100000 in
theorem s1_1 : runS 1 1 = true := by kernel_rfl
set_option maxRecDepth 100000 in
theorem y1_1 : yesS 1 1 = true := by kernel_rfl
set_option maxRecDepth 100000 in
theorem z1_1 : yesI 1 1 = true := by kernel_rfl
set_option maxRecDepth 100000 in
theorem s1_2 : runS 1 2 = true := by kernel_rfl
set_option maxRecDepth 100000 in
theorem y1_2 : yesS 1 2 = true := by kernel_rfl
set_option maxRecDepth 100000 in
theorem z1_2 : yesI 1 2 = true := by kernel_rfl
set_option maxRecDepth 100000 in
theorem s1_3 : runS 1 3 = true := by kernel_rfl
set_option maxRecDepth 100000 in
theorem y1_3 : yesS 1 3 = true := by kernel_rfl
set_option maxRecDepth 100000 in
theorem z1_3 : yesI 1 3 = true := by kernel_rfl
set_option maxRecDepth 100000 in
theorem s1_4 : runS 1 4 = true := by kernel_rfl
set_option maxRecDepth 100000 in
theorem y1_4 : yesS 1 4 = true := by kernel_rfl
set_option maxRecDepth 100000 in
theorem z1_4 : yesI 1 4 = true := by kernel_rfl
set_option maxRecDepth 100000 in
theorem s1_5 : runS 1 5 = true := by kernel_rfl
set_option maxRecDepth 100000 in
theorem y1_5 : yesS 1 5 = true := by kernel_rfl
set_option maxRecDepth 100000 in
theorem z1_5 : yesI 1 5 = true := by kernel_rfl
set_option maxRecDepth 100000 in
theorem s1_6 : runS 1 6 = true := by kernel_rfl
set_option maxRecDepth 100000 in
theorem y1_6 : yesS 1 6 = true := by kernel_rfl
set_option maxRecDepth 100000 in
theorem z1_6 : yesI 1 6 = true := by kernel_rfl
set_option maxRecDepth 100000 in
theorem s2_0 : runS 2 0 = true := by kernel_rfl
set_option maxRecDepth 100000 in
theorem y2_0 : yesS 2 0 = true := by kernel_rfl
set_option maxRecDepth 100000 in
theorem z2_0 : yesI 2 0 = true := by kernel_rfl
set_option maxRecDepth 100000 in
theorem s2_1 : runS 2 1 = true := by kernel_rfl
set_option maxRecDepth 100000 in
theorem y2_1 : yesS 2 1 = true := by kernel_rfl
set_option maxRecDepth 100000 in
theorem z2_1 : yesI 2 1 = true := by kernel_rfl
set_option maxRecDepth 100000 in
theorem s2_2 : runS 2 2 = true := by kernel_rfl
set_option maxRecDepth 100000 in
theorem y2_2 : yesS 2 2 = true := by kernel_rfl
set_option maxRecDepth 100000 in
theorem z2_2 : yesI 2 2 = true := by kernel_rfl
set_option maxRecDepth 100000 in
theorem s2_3 : runS 2 3 = true := by kernel_rfl
set_option maxRecDepth 100000 in
theorem y2_3 : yesS 2 3 = true := by kernel_rfl
set_option maxRecDepth 100000 in
theorem z2_3 : yesI 2 3 = true := by kernel_rfl
set_option maxRecDepth 100000 in
theorem s2_4 : runS 2 4 = true := by kernel_rfl
set_option maxRecDepth 100000 in
theorem y2_4 : yesS 2 4 = true := by kernel_rfl
set_option maxRecDepth 100000 in
theorem z2_4 : yesI 2 4 = true := by kernel_rfl
set_option maxRecDepth 100000 in
theorem s2_5 : runS 2 5 = true := by kernel_rfl
set_option maxRecDepth 100000 in
theorem y2_5 : yesS 2 5 = true := by kernel_rfl
set_option maxRecDepth 100000 in
theorem z2_5 : yesI 2 5 = true := by kernel_rfl
set_option maxRecDepth 100000 in
theorem s2_6 : runS 2 6 = true := by kernel_rfl
set_option maxRecDepth 100000 in
theorem y2_6 : yesS 2 6 = true := by kernel_rfl
set_option maxRecDepth 100000 in
theorem z2_6 : yesI 2 6 = true := by kernel_rfl
set_option maxRecDepth 100000 in
theorem s3_0 : runS 3 0 = true := by kernel_rfl
set_option maxRecDepth 100000 in
theorem y3_0 : yesS 3 0 = true := by kernel_rfl
set_option maxRecDepth 100000 in
theorem z3_0 : yesI 3 0 = true := by kernel_rfl
set_option maxRecDepth 100000 in
theorem s3_1 : runS 3 1 = true := by kernel_rfl
set_option maxRecDepth 100000 in
theorem y3_1 : yesS 3 1 = true := by kernel_rfl
set_option maxRecDepth 100000 in
theorem z3_1 : yesI 3 1 = true := by kernel_rfl
set_option maxRecDepth 100000 in
theorem s3_2 : runS 3 2 = true := by kernel_rfl
set_option maxRecDepth 100000 in
theorem y3_2 : yesS 3 2 = true := by kernel_rfl
set_option maxRecDepth 100000 in
theorem z3_2 : yesI 3 2 = true := by kernel_rfl
set_option maxRecDepth 100000 in
theorem s3_3 : runS 3 3 = true := by kernel_rfl
set_option maxRecDepth 100000 in
theorem y3_3 : yesS 3 3 = true := by kernel_rfl
set_option maxRecDepth 100000 in
theorem z3_3 : yesI 3 3 = true := by kernel_rfl
set_option maxRecDepth 100000 in
theorem s3_4 : runS 3 4 = true := by kernel_rfl
set_option maxRecDepth 100000 in
theorem y3_4 : yesS 3 4 = true := by kernel_rfl
set_option maxRecDepth 100000 in
theorem z3_4 : yesI 3 4 = true := by kernel_rfl
set_option maxRecDepth 100000 in
theorem s3_5 : runS 3 5 = true := by kernel_rfl
set_option maxRecDepth 100000 in
theorem y3_5 : yesS 3 5 = true := by kernel_rfl
set_option maxRecDepth 100000 in
theorem z3_5 : yesI 3 5 = true := by kernel_rfl
set_option maxRecDepth 100000 in
theorem s3_6 : runS 3 6 = true := by kernel_rfl
set_option maxRecDepth 100000 in
theorem y3_6 : yesS 3 6 = true := by kernel_rfl
set_option maxRecDepth 100000 in
theorem z3_6 : yesI 3 6 = true := by kernel_rfl
set_option maxRecDepth 100000 in
theorem s4_0 : runS 4 0 = true := by kernel_rfl
set_option maxRecDepth 100000 in
theorem y4_0 : yesS 4 0 = true := by kernel_rfl
set_option maxRecDepth 100000 in
theorem z4_0 : yesI 4 0 = true := by kernel_rfl
set_option maxRecDepth 100000 in
theorem s4_1 : runS 4 1 = true := by kernel_rfl
set_option maxRecDepth 100000 in
theorem y4_1 : yesS 4 1 = true := by kernel_rfl
set_option maxRecDepth 100000 in
theorem z4_1 : yesI 4 1 = true := by kernel_rfl
set_option maxRecDepth 100000 in
theorem s4_2 : runS 4 2 = true := by kernel_rfl
set_option maxRecDepth 100000 in
theorem y4_2 : yesS 4 2 = true := by kernel_rfl
set_option maxRecDepth 100000 in
theorem z4_2 : yesI 4 2 = true := by kernel_rfl
set_option maxRecDepth 100000 in
theorem s4_3 : runS 4 3 = true := by kernel_rfl
set_option maxRecDepth 100000 in
theorem y4_3 : yesS 4 3 = true := by kernel_rfl
set_option maxRecDepth 100000 in
theorem z4_3 : yesI 4 3 = true := by kernel_rfl
set_option maxRecDepth 100000 in
theorem s4_4 : runS 4 4 = true := by kernel_rfl
set_option maxRecDepth 100000 in
theorem y4_4 : yesS 4 4 = true := by kernel_rfl
set_option maxRecDepth 100000 in
theorem z4_4 : yesI 4 4 = true := by kernel_rfl
set_option maxRecDepth 100000 in
theorem s4_5 : runS 4 5 = true := by kernel_rfl
set_option maxRecDepth 100000 in
theorem y4_5 : yesS 4 5 = true := by kernel_rfl
set_option maxRecDepth 100000 in
theorem z4_5 : yesI 4 5 = true := by kernel_rfl
set_option maxRecDepth 100000 in
theorem s4_6 : runS 4 6 = true := by kernel_rfl
set_option maxRecDepth 100000 in
theorem y4_6 : yesS 4 6 = true := by kernel_rfl
set_option maxRecDepth 100000 in
theorem z4_6 : yesI 4 6 = true := by kernel_rfl
set_option maxRecDepth 100000 in
theorem n0_0 : runN .nil .wide = true := by kernel_rfl
set_option maxRecDepth 100000 in
theorem n0_1 : runN .nil .long = true := by kernel_rfl
set_option maxRecDepth 100000 in
theorem n0_2 : runN .nil (.is 0) = true := by kernel_rfl
set_option maxRecDepth 100000 in
theorem n0_3 : runN .nil (.is 1) = true := by kernel_rfl
set_option maxRecDepth 100000 in
theorem n0_4 : runN .nil (.is 2) = true := by kernel_rfl
set_option maxRecDepth 100000 in
theorem n0_5 : runN .nil (.is 3) = true := by kernel_rfl
set_option maxRecDepth 100000 in
theorem n0_6 : runN .nil (.is 4) = true := by kernel_rfl
set_option maxRecDepth 100000 in
theorem n0_7 : runN .nil (.is 5) = true := by kernel_rfl
set_option maxRecDepth 100000 in
theorem n0_8 : runN .nil (.is 6) = true := by kernel_rfl
set_option maxRecDepth 100000 in
theorem n0_9 : runN .nil (.is 7) = true := by kernel_rfl
set_option maxRecDepth 100000 in
theorem n0_10 : runN .nil (.is 8) = true := by kernel_rfl
set_option maxRecDepth 100000 in
theorem n0_11 : runN .nil (.is 9) = true := by kernel_rfl
set_option maxRecDepth 100000 in
theorem n0_12 : runN .nil (.is 10) = true := by kernel_rfl
set_option maxRecDepth 100000 in
theorem n0_13 : runN .nil (.is 11) = true := by kernel_rfl
set_option maxRecDepth 100000 in
theorem n1_0 : runN .zero .wide = true := by kernel_rfl
set_option maxRecDepth 100000 in
theorem n1_1 : runN .zero .long = true := by kernel_rfl
set_option maxRecDepth 100000 in
theorem n1_2 : runN .zero (.is 0) = true := by kernel_rfl
set_option maxRecDepth 100000 in
theorem n1_3 : runN .zero (.is 1) = true := by kernel_rfl
set_option maxRecDepth 100000 in
theorem n1_4 : runN .zero (.is 2) = true := by kernel_rfl
set_option maxRecDepth 100000 in
theorem n1_5 : runN .zero (.is 3) = true := by kernel_rfl
set_option maxRecDepth 100000 in
theorem n1_6 : runN .zero (.is 4) = true := by kernel_rfl
set_option maxRecDepth 100000 in
theorem n1_7 : runN .zero (.is 5) = true := by kernel_rfl
set_option maxRecDepth 100000 in
theorem n1_8 : runN .zero (.is 6) = true := by kernel_rfl
set_option maxRecDepth 100000 in
theorem n1_9 : runN .zero (.is 7) = true := by kernel_rfl
set_option maxRecDepth 100000 in
theorem n1_10 : runN .zero (.is 8) = true := by kernel_rfl
set_option maxRecDepth 100000 in
theorem n1_11 : runN .zero (.is 9) = true := by kernel_rfl
set_option maxRecDepth 100000 in
theorem n1_12 : runN .zero (.is 10) = true := by kernel_rfl
set_option maxRecDepth 100000 in
theorem n1_13 : runN .zero (.is 11) = true := by kernel_rfl
set_option maxRecDepth 100000 in
theorem n2_0 : runN .emp .wide = true := by kernel_rfl
set_option maxRecDepth 100000 in
theorem n2_1 : runN .emp .long = true := by kernel_rfl
set_option maxRecDepth 100000 in
theorem n2_2 : runN .emp (.is 0) = true := by kernel_rfl
set_option maxRecDepth 100000 in
theorem n2_3 : runN .emp (.is 1) = true := by kernel_rfl
set_option maxRecDepth 100000 in
theorem n2_4 : runN .emp (.is 2) = true := by kernel_rfl
set_option maxRecDepth 100000 in
theorem n2_5 : runN .emp (.is 3) = true := by kernel_rfl
set_option maxRecDepth 100000 in
theorem n2_6 : runN .emp (.is 4) = true := by kernel_rfl
set_option maxRecDepth 100000 in
theorem n2_7 : runN .emp (.is 5) = true := by kernel_rfl
set_option maxRecDepth 100000 in
theorem n2_8 : runN .emp (.is 6) = true := by kernel_rfl
set_option maxRecDepth 100000 in
theorem n2_9 : runN .emp (.is 7) = true := by kernel_rfl
set_option maxRecDepth 100000 in
theorem n2_10 : runN .emp (.is 8) = true := by kernel_rfl
set_option maxRecDepth 100000 in
theorem n2_11 : runN .emp (.is 9) = true := by kernel_rfl
set_option maxRecDepth 100000 in
theorem n2_12 : runN .emp (.is 10) = true := by kernel_rfl
set_option maxRecDepth 100000 in
theorem n2_13 : runN .emp (.is 11) = true := by kernel_rfl
set_option maxRecDepth 100000 in
theorem n3_0 : runN .opq .wide = true := by kernel_rfl
set_option maxRecDepth 100000 in
theorem n3_1 : runN .opq .long = true := by kernel_rfl
set_option maxRecDepth 100000 in
theorem n3_2 : runN .opq (.is 0) = true := by kernel_rfl
set_option maxRecDepth 100000 in
theorem n3_3 : runN .opq (.is 1) = true := by kernel_rfl
set_option maxRecDepth 100000 in
theorem n3_4 : runN .opq (.is 2) = true := by kernel_rfl
set_option maxRecDepth 100000 in
theorem n3_5 : runN .opq (.is 3) = true := by kernel_rfl
set_option maxRecDepth 100000 in
theorem n3_6 : runN .opq (.is 4) = true := by kernel_rfl
set_option maxRecDepth 100000 in
theorem n3_7 : runN .opq (.is 5) = true := by kernel_rfl
set_option maxRecDepth 100000 in
theorem n3_8 : runN .opq (.is 6) = true := by kernel_rfl
set_option maxRecDepth 100000 in
theorem n3_9 : runN .opq (.is 7) = true := by kernel_rfl
set_option maxRecDepth 100000 in
theorem n3_10 : runN .opq (.is 8) = true := by kernel_rfl
set_option maxRecDepth 100000 in
theorem n3_11 : runN .opq (.is 9) = true := by kernel_rfl
set_option maxRecDepth 100000 in
theorem n3_12 : runN .opq (.is 10) = true := by kernel_rfl
set_option maxRecDepth 100000 in
theorem n3_13 : runN .opq (.is 11) = true := by kernel_rfl
end Go.Proofs.Ythggbkoccgigaab.fnExactSumCountRuns
