/- Runs of the program at a seat. -/
import Derived.Test.YthggbkoccgigaaaFnExactSumInP
namespace Go.Proofs.Ythggbkoccgigaaa.fnExactSumInRuns
open Go Go.Eng
set_option linter.unusedVariables false
set_option linter.unusedSectionVars false
set_option linter.unusedSimpArgs false
set_option maxRecDepth 100000 in
theorem s0_0 : runS 0 0 = true := by kernel_rfl
set_option maxRecDepth 100000 in
theorem s0_1 : runS 0 1 = true := by kernel_rfl
set_option maxRecDepth 100000 in
theorem s0_2 : runS 0 2 = true := by kernel_rfl
set_option maxRecDepth 100000 in
theorem s0_3 : runS 0 3 = true := by kernel_rfl
set_option maxRecDepth 100000 in
theorem s0_4 : runS 0 4 = true := by kernel_rfl
set_option maxRecDepth 100000 in
theorem s0_5 : runS 0 5 = true := by kernel_rfl
set_option maxRecDepth 100000 in
theorem s0_6 : runS 0 6 = true := by kernel_rfl
set_option maxRecDepth 100000 in
theorem s1_0 : runS 1 0 = true := by kernel_rfl
set_option maxRecDepth 100000 in
theorem s1_1 : runS 1 1 = true := by kernel_rfl
set_option maxRecDepth 100000 in
theorem s1_2 : runS 1 2 = true := by kernel_rfl
set_option maxRecDepth 100000 in
theorem s1_3 : runS 1 3 = true := by kernel_rfl
set_option maxRecDepth 100000 in
theorem s1_4 : runS 1 4 = true := by kernel_rfl
set_option maxRecDepth 100000 in
theorem s1_5 : runS 1 5 = true := by kernel_rfl
set_option maxRecDepth 100000 in
theorem s1_6 : runS 1 6 = true := by kernel_rfl
set_option maxRecDepth 100000 in
theorem s2_0 : runS 2 0 = true := by kernel_rfl
set_option maxRecDepth 100000 in
theorem s2_1 : runS 2 1 = true := by kernel_rfl
set_option maxRecDepth 100000 in
theorem s2_2 : runS 2 2 = true := by kernel_rfl
set_option maxRecDepth 100000 in
theorem s2_3 : runS 2 3 = true := by kernel_rfl
set_option maxRecDepth 100000 in
theorem s2_4 : runS 2 4 = true := by kernel_rfl
set_option maxRecDepth 100000 in
theorem s2_5 : runS 2 5 = true := by kernel_rfl
set_option maxRecDepth 100000 in
theorem s2_6 : runS 2 6 = true := by kernel_rfl
set_option maxRecDepth 100000 in
theorem s3_0 : runS 3 0 = true := by kernel_rfl
set_option maxRecDepth 100000 in
theorem s3_1 : runS 3 1 = true := by kernel_rfl
set_option maxRecDepth 100000 in
theorem s3_2 : runS 3 2 = true := by kernel_rfl
set_option maxRecDepth 100000 in
theorem s3_3 : runS 3 3 = true := by kernel_rfl
set_option maxRecDepth 100000 in
theorem s3_4 : runS 3 4 = true := by kernel_rfl
set_option maxRecDepth 100000 in
theorem s3_5 : runS 3 5 = true := by kernel_rfl
set_option maxRecDepth 100000 in
theorem s3_6 : runS 3 6 = true := by kernel_rfl
set_option maxRecDepth 100000 in
theorem s4_0 : runS 4 0 = true := by kernel_rfl
set_option maxRecDepth 100000 in
theorem s4_1 : runS 4 1 = true := by kernel_rfl
set_option maxRecDepth 100000 in
theorem s4_2 : runS 4 2 = true := by kernel_rfl
set_option maxRecDepth 100000 in
theorem s4_3 : runS 4 3 = true := by kernel_rfl
set_option maxRecDepth 100000 in
theorem s4_4 : runS 4 4 = true := by kernel_rfl
set_option maxRecDepth 100000 in
theorem s4_5 : runS 4 5 = true := by kernel_rfl
set_option maxRecDepth 100000 in
theorem s4_6 : runS 4 6 = true := by kernel_rfl
set_option maxRecDepth 100000 in
theorem n0_0 : runN .nil .wide = true := by kernel_rfl
set_option maxRecDepth 100000 in
theorem n0_1 : runN .nil .long = true := by kernel_rfl
set_option maxRecDepth 100000 in
theorem n0_2 : runN .nil (.is 0) = true := by kernel_rfl
set_option maxRecDepth 100000 in
theorem n0_3 : runN .nil (.is 1) = true := by kernel_rfl
set_option maxRecDepth 100000 in
theorem n0_4 : runN .nil (.is 2) = true := by kernel_rfl
set_option maxRecDepth 100000 in
theorem n0_5 : runN .nil (.is 3) = true := by kernel_rfl
set_option maxRecDepth 100000 in
theorem n0_6 : runN .nil (.is 4) = true := by kernel_rfl
set_option maxRecDepth 100000 in
theorem n0_7 : runN .nil (.is 5) = true := by kernel_rfl
set_option maxRecDepth 100000 in
theorem n0_8 : runN .nil (.is 6) = true := by kernel_rfl
set_option maxRecDepth 100000 in
theorem n0_9 : runN .nil (.is 7) = true := by kernel_rfl
set_option maxRecDepth 100000 in
theorem n0_10 : runN .nil (.is 8) = true := by kernel_rfl
set_option maxRecDepth 100000 in
theorem n0_11 : runN .nil (.is 9) = true := by kernel_rfl
set_option maxRecDepth 100000 in
theorem n0_12 : runN .nil (.is 10) = true := by kernel_rfl
set_option maxRecDepth 100000 in
theorem n0_13 : runN .nil (.is 11) = true := by kernel_rfl
set_option maxRecDepth 100000 in
theorem n1_0 : runN .zero .wide = true := by kernel_rfl
set_option maxRecDepth 100000 in
theorem n1_1 : runN .zero .long = true := by kernel_rfl
set_option maxRecDepth 100000 in
theorem n1_2 : runN .zero (.is 0) = true := by kernel_rfl
set_option maxRecDepth 100000 in
theorem n1_3 : runN .zero (.is 1) = true := by kernel_rfl
set_option maxRecDepth 100000 in
theorem n1_4 : runN .zero (.is 2) = true := by kernel_rfl
set_option maxRecDepth 100000 in
theorem n1_5 : runN .zero (.is 3) = true := by kernel_rfl
set_option maxRecDepth 100000 in
theorem n1_6 : runN .zero (.is 4) = true := by kernel_rfl
set_option maxRecDepth 100000 in
theorem n1_7 : runN .zero (.is 5) = true := by kernel_rfl
set_option maxRecDepth 100000 in
theorem n1_8 : runN .zero (.is 6) = true := by kernel_rfl
set_option maxRecDepth 100000 in
theorem n1_9 : runN .zero (.is 7) = true := by kernel_rfl
set_option maxRecDepth 100000 in
theorem n1_10 : runN .zero (.is 8) = true := by kernel_rfl
set_option maxRecDepth 100000 in
theorem n1_11 : runN .zero (.is 9) = true := by kernel_rfl
set_option maxRecDepth 100000 in
theorem n1_12 : runN .zero (.is 10) = true := by kernel_rfl
set_option maxRecDepth 100000 in
theorem n1_13 : runN .zero (.is 11) = true := by kernel_rfl
set_option maxRecDepth 100000 in
theorem n2_0 : runN .emp .wide = true := by kernel_rfl
set_option maxRecDepth 100000 in
theorem n2_1 : runN .emp .long = true := by kernel_rfl
set_option maxRecDepth 100000 in
theorem n2_2 : runN .emp (.is 0) = true := by kernel_rfl
set_option maxRecDepth 100000 in
theorem n2_3 : runN .emp (.is 1) = true := by kernel_rfl
set_option maxRecDepth 100000 in
theorem n2_4 : runN .emp (.is 2) = true := by kernel_rfl
set_option maxRecDepth 100000 in
theorem n2_5 : runN .emp (.is 3) = true := by kernel_rfl
set_option maxRecDepth 100000 in
theorem n2_6 : runN .emp (.is 4) = true := by kernel_rfl
set_option maxRecDepth 100000 in
theorem n2_7 : runN .emp (.is 5) = true := by kernel_rfl
set_option maxRecDepth 100000 in
theorem n2_8 : runN .emp (.is 6) = true := by kernel_rfl
set_option maxRecDepth 100000 in
theorem n2_9 : runN .emp (.is 7) = true := by kernel_rfl
set_option maxRecDepth 100000 in
theorem n2_10 : runN .emp (.is 8) = true := by kernel_rfl
set_option maxRecDepth 100000 in
theorem n2_11 : runN .emp (.is 9) = true := by kernel_rfl
set_option maxRecDepth 100000 in
theorem n2_12 : runN .emp (.is 10) = true := by kernel_rfl
set_option maxRecDepth 100000 in
theorem n2_13 : runN .emp (.is 11) = true := by kernel_rfl
set_option maxRecDepth 100000 in
theorem n3_0 : runN .opq .wide = true := by kernel_rfl
set_option maxRecDepth 100000 in
theorem n3_1 : runN .opq .long = true := by kernel_rfl
set_option maxRecDepth 100000 in
theorem n3_2 : runN .opq (.is 0) = true := by kernel_rfl
set_option maxRecDepth 100000 in
theorem n3_3 : runN .opq (.is 1) = true := by kernel_rfl
set_option maxRecDepth 100000 in
theorem n3_4 : runN .opq (.is 2) = true := by kernel_rfl
set_option maxRecDepth 100000 in
theorem n3_5 : runN .opq (.is 3) = true := by kernel_rfl
set_option maxRecDepth 100000 in
theorem n3_6 : runN .opq (.is 4) = true := by kernel_rfl
set_option maxRecDepth 100000 in
theorem n3_7 : runN .opq (.is 5) = true := by kernel_rfl
set_option maxRecDepth 100000 in
theorem n3_8 : runN .opq (.is 6) = true := by kernel_rfl
set_option maxRecDepth 100000 in
theorem n3_9 : runN .opq (.is 7) = true := by kernel_rfl
set_option maxRecDepth 100000 in
theorem n3_10 : runN .opq (.is 8) = true := by kernel_rfl
set_option maxRecDepth 100000 in
theorem n3_11 : runN .opq (.is 9) = true := by kernel_rfl
set_option maxRecDepth 100000 in
theorem n3_12 : runN .opq (.is 10) = true := by kernel_rfl
set_option maxRecDepth 100000 in
theorem n3_13 : runN .opq (.is 11) = true := by kernel_rfl
end Go.Proofs.Ythggbkoccgigaaa.fnExactSumInRuns
