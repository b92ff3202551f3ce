/- Runs of the program at a seat. -/
import Derived.Test.YtennigkljnfjmaaFnExactRootFromP
namespace Go.Proofs.Ytennigkljnfjmaa.fnExactRootFromRuns
open Go Go.Eng
set_option linter.unusedVariables false
set_option linter.unusedSectionVars false
set_option linter.unusedSimpArgs false
set_option maxRecDepth 100000
theorem p1 : run .zero = true := by kernel_rfl
theorem p3 : run .more = true := by kernel_rfl
theorem p6 : run (.bad 5 4 false) = true := by kernel_rfl
theorem p8 : run (.bad 5 3 false) = true := by kernel_rfl
theorem p10 : run (.bad 5 2 false) = true := by kernel_rfl
theorem p12 : run (.bad 5 1 false) = true := by kernel_rfl
theorem p14 : run (.bad 5 0 false) = true := by kernel_rfl
theorem p17 : run (.bad 4 3 false) = true := by kernel_rfl
theorem p19 : run (.bad 4 2 false) = true := by kernel_rfl
theorem p21 : run (.bad 4 1 false) = true := by kernel_rfl
theorem p23 : run (.bad 4 0 false) = true := by kernel_rfl
theorem p26 : run (.bad 3 2 false) = true := by kernel_rfl
theorem p28 : run (.bad 3 1 false) = true := by kernel_rfl
theorem p30 : run (.bad 3 0 false) = true := by kernel_rfl
theorem p33 : run (.bad 2 1 false) = true := by kernel_rfl
theorem p35 : run (.bad 2 0 false) = true := by kernel_rfl
theorem p38 : run (.bad 1 0 false) = true := by kernel_rfl
theorem q1_0 : runN 1 1 0 [2] = true := by kernel_rfl
theorem q1_2 : runN 1 1 0 [1] = true := by kernel_rfl
theorem q2_1 : runN 2 2 0 [3, 0] = true := by kernel_rfl
theorem q2_3 : runN 2 2 0 [1, 3] = true := by kernel_rfl
theorem q3_0 : runN 3 3 0 [2, 0, 0] = true := by kernel_rfl
theorem q3_2 : runN 3 3 0 [1, 2, 0] = true := by kernel_rfl
theorem q3_4 : runN 3 3 0 [1, 1, 2] = true := by kernel_rfl
theorem q3_6 : runN 3 3 0 [1, 1, 1] = true := by kernel_rfl
theorem q4_1 : runN 4 4 0 [3, 0, 0, 0] = true := by kernel_rfl
theorem q4_3 : runN 4 4 0 [1, 3, 0, 0] = true := by kernel_rfl
theorem q4_5 : runN 4 4 0 [1, 1, 3, 0] = true := by kernel_rfl
theorem q4_7 : runN 4 4 0 [1, 1, 1, 3] = true := by kernel_rfl
theorem q5_0 : runN 5 5 0 [2, 0, 0, 0, 0] = true := by kernel_rfl
theorem q5_2 : runN 5 5 0 [1, 2, 0, 0, 0] = true := by kernel_rfl
theorem q5_4 : runN 5 5 0 [1, 1, 2, 0, 0] = true := by kernel_rfl
theorem q5_6 : runN 5 5 0 [1, 1, 1, 2, 0] = true := by kernel_rfl
theorem q5_8 : runN 5 5 0 [1, 1, 1, 1, 2] = true := by kernel_rfl
theorem q5_10 : runN 5 5 0 [1, 1, 1, 1, 1] = true := by kernel_rfl
theorem t3_2_1_5 : runN 3 2 1 (List.replicate (2 - 1) 0 ++ [5]) = true := by kernel_rfl
theorem t3_3_1_5 : runN 3 3 1 (List.replicate (3 - 1) 0 ++ [5]) = true := by kernel_rfl
theorem t3_3_2_5 : runN 3 3 2 (List.replicate (3 - 1) 0 ++ [5]) = true := by kernel_rfl
theorem t4_2_1_5 : runN 4 2 1 (List.replicate (2 - 1) 0 ++ [5]) = true := by kernel_rfl
theorem t4_3_1_5 : runN 4 3 1 (List.replicate (3 - 1) 0 ++ [5]) = true := by kernel_rfl
theorem t4_3_2_5 : runN 4 3 2 (List.replicate (3 - 1) 0 ++ [5]) = true := by kernel_rfl
theorem t4_4_1_5 : runN 4 4 1 (List.replicate (4 - 1) 0 ++ [5]) = true := by kernel_rfl
theorem t4_4_2_5 : runN 4 4 2 (List.replicate (4 - 1) 0 ++ [5]) = true := by kernel_rfl
theorem t4_4_3_5 : runN 4 4 3 (List.replicate (4 - 1) 0 ++ [5]) = true := by kernel_rfl
theorem t5_2_1_5 : runN 5 2 1 (List.replicate (2 - 1) 0 ++ [5]) = true := by kernel_rfl
theorem t5_3_1_5 : runN 5 3 1 (List.replicate (3 - 1) 0 ++ [5]) = true := by kernel_rfl
theorem t5_3_2_5 : runN 5 3 2 (List.replicate (3 - 1) 0 ++ [5]) = true := by kernel_rfl
theorem t5_4_1_5 : runN 5 4 1 (List.replicate (4 - 1) 0 ++ [5]) = true := by kernel_rfl
theorem t5_4_2_5 : runN 5 4 2 (List.replicate (4 - 1) 0 ++ [5]) = true := by kernel_rfl
theorem t5_4_3_5 : runN 5 4 3 (List.replicate (4 - 1) 0 ++ [5]) = true := by kernel_rfl
theorem t5_5_1_5 : runN 5 5 1 (List.replicate (5 - 1) 0 ++ [5]) = true := by kernel_rfl
theorem t5_5_2_5 : runN 5 5 2 (List.replicate (5 - 1) 0 ++ [5]) = true := by kernel_rfl
theorem t5_5_3_5 : runN 5 5 3 (List.replicate (5 - 1) 0 ++ [5]) = true := by kernel_rfl
theorem t5_5_4_5 : runN 5 5 4 (List.replicate (5 - 1) 0 ++ [5]) = true := by kernel_rfl
end Go.Proofs.Ytennigkljnfjmaa.fnExactRootFromRuns
