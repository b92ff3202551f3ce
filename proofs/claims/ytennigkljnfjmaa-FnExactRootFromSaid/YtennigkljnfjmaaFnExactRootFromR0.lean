/- Runs of the program at a seat. -/
import Derived.Test.YtennigkljnfjmaaFnExactRootFromP
namespace Go.Proofs.Ytennigkljnfjmaa.fnExactRootFromRuns
open Go Go.Eng
set_option linter.unusedVariables false
set_option linter.unusedSectionVars false
set_option linter.unusedSimpArgs false
set_option maxRecDepth 100000
theorem p0 : run .nil = true := by kernel_rfl
theorem p2 : run .emp = true := by kernel_rfl
theorem p4 : run .long = true := by kernel_rfl
theorem p7 : run (.bad 5 4 true) = true := by kernel_rfl
theorem p9 : run (.bad 5 3 true) = true := by kernel_rfl
theorem p11 : run (.bad 5 2 true) = true := by kernel_rfl
theorem p13 : run (.bad 5 1 true) = true := by kernel_rfl
theorem p15 : run (.bad 5 0 true) = true := by kernel_rfl
theorem p18 : run (.bad 4 3 true) = true := by kernel_rfl
theorem p20 : run (.bad 4 2 true) = true := by kernel_rfl
theorem p22 : run (.bad 4 1 true) = true := by kernel_rfl
theorem p24 : run (.bad 4 0 true) = true := by kernel_rfl
theorem p27 : run (.bad 3 2 true) = true := by kernel_rfl
theorem p29 : run (.bad 3 1 true) = true := by kernel_rfl
theorem p31 : run (.bad 3 0 true) = true := by kernel_rfl
theorem p34 : run (.bad 2 1 true) = true := by kernel_rfl
theorem p36 : run (.bad 2 0 true) = true := by kernel_rfl
theorem p39 : run (.bad 1 0 true) = true := by kernel_rfl
theorem q1_1 : runN 1 1 0 [3] = true := by kernel_rfl
theorem q2_0 : runN 2 2 0 [2, 0] = true := by kernel_rfl
theorem q2_2 : runN 2 2 0 [1, 2] = true := by kernel_rfl
theorem q2_4 : runN 2 2 0 [1, 1] = true := by kernel_rfl
theorem q3_1 : runN 3 3 0 [3, 0, 0] = true := by kernel_rfl
theorem q3_3 : runN 3 3 0 [1, 3, 0] = true := by kernel_rfl
theorem q3_5 : runN 3 3 0 [1, 1, 3] = true := by kernel_rfl
theorem q4_0 : runN 4 4 0 [2, 0, 0, 0] = true := by kernel_rfl
theorem q4_2 : runN 4 4 0 [1, 2, 0, 0] = true := by kernel_rfl
theorem q4_4 : runN 4 4 0 [1, 1, 2, 0] = true := by kernel_rfl
theorem q4_6 : runN 4 4 0 [1, 1, 1, 2] = true := by kernel_rfl
theorem q4_8 : runN 4 4 0 [1, 1, 1, 1] = true := by kernel_rfl
theorem q5_1 : runN 5 5 0 [3, 0, 0, 0, 0] = true := by kernel_rfl
theorem q5_3 : runN 5 5 0 [1, 3, 0, 0, 0] = true := by kernel_rfl
theorem q5_5 : runN 5 5 0 [1, 1, 3, 0, 0] = true := by kernel_rfl
theorem q5_7 : runN 5 5 0 [1, 1, 1, 3, 0] = true := by kernel_rfl
theorem q5_9 : runN 5 5 0 [1, 1, 1, 1, 3] = true := by kernel_rfl
theorem t2_2_1_4 : runN 2 2 1 (List.replicate (2 - 1) 0 ++ [4]) = true := by kernel_rfl
theorem t2_2_1_5 : runN 2 2 1 (List.replicate (2 - 1) 0 ++ [5]) = true := by kernel_rfl
theorem t3_2_1_4 : runN 3 2 1 (List.replicate (2 - 1) 0 ++ [4]) = true := by kernel_rfl
theorem t3_3_1_4 : runN 3 3 1 (List.replicate (3 - 1) 0 ++ [4]) = true := by kernel_rfl
theorem t3_3_2_4 : runN 3 3 2 (List.replicate (3 - 1) 0 ++ [4]) = true := by kernel_rfl
theorem t4_2_1_4 : runN 4 2 1 (List.replicate (2 - 1) 0 ++ [4]) = true := by kernel_rfl
theorem t4_3_1_4 : runN 4 3 1 (List.replicate (3 - 1) 0 ++ [4]) = true := by kernel_rfl
theorem t4_3_2_4 : runN 4 3 2 (List.replicate (3 - 1) 0 ++ [4]) = true := by kernel_rfl
theorem t4_4_1_4 : runN 4 4 1 (List.replicate (4 - 1) 0 ++ [4]) = true := by kernel_rfl
theorem t4_4_2_4 : runN 4 4 2 (List.replicate (4 - 1) 0 ++ [4]) = true := by kernel_rfl
theorem t4_4_3_4 : runN 4 4 3 (List.replicate (4 - 1) 0 ++ [4]) = true := by kernel_rfl
theorem t5_2_1_4 : runN 5 2 1 (List.replicate (2 - 1) 0 ++ [4]) = true := by kernel_rfl
theorem t5_3_1_4 : runN 5 3 1 (List.replicate (3 - 1) 0 ++ [4]) = true := by kernel_rfl
theorem t5_3_2_4 : runN 5 3 2 (List.replicate (3 - 1) 0 ++ [4]) = true := by kernel_rfl
theorem t5_4_1_4 : runN 5 4 1 (List.replicate (4 - 1) 0 ++ [4]) = true := by kernel_rfl
theorem t5_4_2_4 : runN 5 4 2 (List.replicate (4 - 1) 0 ++ [4]) = true := by kernel_rfl
theorem t5_4_3_4 : runN 5 4 3 (List.replicate (4 - 1) 0 ++ [4]) = true := by kernel_rfl
theorem t5_5_1_4 : runN 5 5 1 (List.replicate (5 - 1) 0 ++ [4]) = true := by kernel_rfl
theorem t5_5_2_4 : runN 5 5 2 (List.replicate (5 - 1) 0 ++ [4]) = true := by kernel_rfl
theorem t5_5_3_4 : runN 5 5 3 (List.replicate (5 - 1) 0 ++ [4]) = true := by kernel_rfl
theorem t5_5_4_4 : runN 5 5 4 (List.replicate (5 - 1) 0 ++ [4]) = true := by kernel_rfl
end Go.Proofs.Ytennigkljnfjmaa.fnExactRootFromRuns
