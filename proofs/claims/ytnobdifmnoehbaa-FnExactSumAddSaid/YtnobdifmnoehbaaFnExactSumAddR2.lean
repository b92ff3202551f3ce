/- Runs of the program at a seat. -/
import Derived.Test.YtnobdifmnoehbaaFnExactSumAddP
namespace Go.Proofs.Ytnobdifmnoehbaa.fnExactSumAddRuns
open Go Go.Eng
set_option linter.unusedVariables false
set_option linter.unusedSectionVars false
set_option linter.unusedSimpArgs false
set_option maxRecDepth 100000
theorem a0_0_2 : gB degs7 (run0 0 0 2) = true := by kernel_rfl
theorem o0_1 : gB (ocs (npS 1)) (run2 0 1) = true := by kernel_rfl
theorem a0_2_2 : gB degs7 (run0 0 2 2) = true := by kernel_rfl
theorem a0_3_3 : gB degs7 (run0 0 3 3) = true := by kernel_rfl
theorem a0_4_4 : gB degs7 (run0 0 4 4) = true := by kernel_rfl
theorem o0_5_1 : run2 0 5 (.bad 6 false) = true := by kernel_rfl
theorem o0_5_3 : run2 0 5 (.bad 5 false) = true := by kernel_rfl
theorem o0_5_6 : run2 0 5 (.bad 4 true) = true := by kernel_rfl
theorem o0_5_14 : run2 0 5 (.bad 0 true) = true := by kernel_rfl
theorem o0_6_1 : run2 0 6 (.bad 10 false) = true := by kernel_rfl
theorem o0_6_3 : run2 0 6 (.bad 9 false) = true := by kernel_rfl
theorem o0_6_6 : run2 0 6 (.bad 8 true) = true := by kernel_rfl
theorem o0_6_14 : run2 0 6 (.bad 4 true) = true := by kernel_rfl
theorem o0_6_22 : run2 0 6 (.bad 0 true) = true := by kernel_rfl
theorem d0_6_0 : gB degs7 (run4 .nil (.is 4) 0) = true := by kernel_rfl
theorem d0_13_0 : gB degs7 (run4 .nil (.is 11) 0) = true := by kernel_rfl
theorem d1_7_0 : gB degs7 (run4 .zero (.is 5) 0) = true := by kernel_rfl
theorem d2_1_0 : gB degs7 (run4 .emp .long 0) = true := by kernel_rfl
theorem d2_9_0 : gB degs7 (run4 .emp (.is 7) 0) = true := by kernel_rfl
theorem d3_3_0 : gB degs7 (run4 .opq (.is 1) 0) = true := by kernel_rfl
theorem d3_11_0 : gB degs7 (run4 .opq (.is 9) 0) = true := by kernel_rfl
theorem o1_0 : gB (ocs (npS 0)) (run2 1 0) = true := by kernel_rfl
theorem c1_0 : gB mNo (fun c => gB fcs (run3 1 0 c)) = true := by kernel_rfl
theorem a1_2_0 : gB degs7 (run0 1 2 0) = true := by kernel_rfl
theorem a1_3_1 : gB degs7 (run0 1 3 1) = true := by kernel_rfl
theorem a1_4_2 : gB degs7 (run0 1 4 2) = true := by kernel_rfl
theorem c1_4 : gB mNo (fun c => gB fcs (run3 1 4 c)) = true := by kernel_rfl
theorem o1_5_6 : run2 1 5 (.bad 4 true) = true := by kernel_rfl
theorem o1_5_11 : run2 1 5 (.bad 1 false) = true := by kernel_rfl
theorem a1_6_3 : gB degs7 (run0 1 6 3) = true := by kernel_rfl
theorem o1_6_10 : run2 1 6 (.bad 6 true) = true := by kernel_rfl
theorem o1_6_18 : run2 1 6 (.bad 2 true) = true := by kernel_rfl
theorem d0_2_1 : gB degs7 (run4 .nil (.is 0) 1) = true := by kernel_rfl
theorem d0_9_1 : gB degs7 (run4 .nil (.is 7) 1) = true := by kernel_rfl
theorem d1_3_1 : gB degs7 (run4 .zero (.is 1) 1) = true := by kernel_rfl
theorem d1_11_1 : gB degs7 (run4 .zero (.is 9) 1) = true := by kernel_rfl
theorem d2_5_1 : gB degs7 (run4 .emp (.is 3) 1) = true := by kernel_rfl
theorem d2_13_1 : gB degs7 (run4 .emp (.is 11) 1) = true := by kernel_rfl
theorem d3_7_1 : gB degs7 (run4 .opq (.is 5) 1) = true := by kernel_rfl
theorem a2_0_1 : gB degs7 (run0 2 0 1) = true := by kernel_rfl
theorem a2_1_3 : gB degs7 (run0 2 1 3) = true := by kernel_rfl
theorem c2_2 : gB mNo (fun c => gB fcs (run3 2 2 c)) = true := by kernel_rfl
theorem a2_3_4 : gB degs7 (run0 2 3 4) = true := by kernel_rfl
theorem o2_4_1 : run2 2 4 (.bad 4 false) = true := by kernel_rfl
theorem o2_4_4 : run2 2 4 (.bad 3 true) = true := by kernel_rfl
theorem o2_4_8 : run2 2 4 (.bad 1 true) = true := by kernel_rfl
theorem a2_5_2 : gB degs7 (run0 2 5 2) = true := by kernel_rfl
theorem o2_5_11 : run2 2 5 (.bad 1 false) = true := by kernel_rfl
theorem a2_6_3 : gB degs7 (run0 2 6 3) = true := by kernel_rfl
theorem o2_6_10 : run2 2 6 (.bad 6 true) = true := by kernel_rfl
theorem o2_6_18 : run2 2 6 (.bad 2 true) = true := by kernel_rfl
theorem d0_2_2 : gB degs7 (run4 .nil (.is 0) 2) = true := by kernel_rfl
theorem d0_9_2 : gB degs7 (run4 .nil (.is 7) 2) = true := by kernel_rfl
theorem d1_3_2 : gB degs7 (run4 .zero (.is 1) 2) = true := by kernel_rfl
theorem d1_11_2 : gB degs7 (run4 .zero (.is 9) 2) = true := by kernel_rfl
theorem d2_5_2 : gB degs7 (run4 .emp (.is 3) 2) = true := by kernel_rfl
theorem d2_13_2 : gB degs7 (run4 .emp (.is 11) 2) = true := by kernel_rfl
theorem d3_7_2 : gB degs7 (run4 .opq (.is 5) 2) = true := by kernel_rfl
theorem a3_0_1 : gB degs7 (run0 3 0 1) = true := by kernel_rfl
theorem a3_1_3 : gB degs7 (run0 3 1 3) = true := by kernel_rfl
theorem c3_2 : gB mNo (fun c => gB fcs (run3 3 2 c)) = true := by kernel_rfl
theorem a3_3_4 : gB degs7 (run0 3 3 4) = true := by kernel_rfl
theorem o3_4_1 : run2 3 4 (.bad 4 false) = true := by kernel_rfl
theorem o3_4_3 : run2 3 4 (.bad 3 false) = true := by kernel_rfl
theorem o3_4_7 : run2 3 4 (.bad 1 false) = true := by kernel_rfl
theorem a3_5_1 : gB degs7 (run0 3 5 1) = true := by kernel_rfl
theorem o3_5_10 : run2 3 5 (.bad 2 true) = true := by kernel_rfl
theorem a3_6_2 : gB degs7 (run0 3 6 2) = true := by kernel_rfl
theorem o3_6_9 : run2 3 6 (.bad 6 false) = true := by kernel_rfl
theorem o3_6_17 : run2 3 6 (.bad 2 false) = true := by kernel_rfl
theorem d0_1_3 : gB degs7 (run4 .nil .long 3) = true := by kernel_rfl
theorem d0_8_3 : gB degs7 (run4 .nil (.is 6) 3) = true := by kernel_rfl
theorem d1_2_3 : gB degs7 (run4 .zero (.is 0) 3) = true := by kernel_rfl
theorem d1_10_3 : gB degs7 (run4 .zero (.is 8) 3) = true := by kernel_rfl
theorem d2_4_3 : gB degs7 (run4 .emp (.is 2) 3) = true := by kernel_rfl
theorem d2_12_3 : gB degs7 (run4 .emp (.is 10) 3) = true := by kernel_rfl
theorem d3_6_3 : gB degs7 (run4 .opq (.is 4) 3) = true := by kernel_rfl
theorem a4_0_0 : gB degs7 (run0 4 0 0) = true := by kernel_rfl
theorem a4_1_2 : gB degs7 (run0 4 1 2) = true := by kernel_rfl
theorem o4_2 : gB (ocs (npS 2)) (run2 4 2) = true := by kernel_rfl
theorem a4_4_0 : gB degs7 (run0 4 4 0) = true := by kernel_rfl
theorem o4_4_4 : run2 4 4 (.bad 3 true) = true := by kernel_rfl
theorem o4_4_8 : run2 4 4 (.bad 1 true) = true := by kernel_rfl
theorem a4_5_2 : gB degs7 (run0 4 5 2) = true := by kernel_rfl
theorem o4_5_11 : run2 4 5 (.bad 1 false) = true := by kernel_rfl
theorem a4_6_3 : gB degs7 (run0 4 6 3) = true := by kernel_rfl
theorem o4_6_10 : run2 4 6 (.bad 6 true) = true := by kernel_rfl
theorem o4_6_18 : run2 4 6 (.bad 2 true) = true := by kernel_rfl
theorem d0_2_4 : gB degs7 (run4 .nil (.is 0) 4) = true := by kernel_rfl
theorem d0_9_4 : gB degs7 (run4 .nil (.is 7) 4) = true := by kernel_rfl
theorem d1_3_4 : gB degs7 (run4 .zero (.is 1) 4) = true := by kernel_rfl
theorem d1_11_4 : gB degs7 (run4 .zero (.is 9) 4) = true := by kernel_rfl
theorem d2_5_4 : gB degs7 (run4 .emp (.is 3) 4) = true := by kernel_rfl
theorem d2_13_4 : gB degs7 (run4 .emp (.is 11) 4) = true := by kernel_rfl
theorem d3_7_4 : gB degs7 (run4 .opq (.is 5) 4) = true := by kernel_rfl
theorem e0_1 : gB mNo (fun c => gB fcs (run5 .nil .long c)) = true := by kernel_rfl
theorem e0_8 : gB mNo (fun c => gB fcs (run5 .nil (.is 6) c)) = true := by kernel_rfl
theorem e1_2 : gB mNo (fun c => gB fcs (run5 .zero (.is 0) c)) = true := by kernel_rfl
theorem e1_10 : gB mNo (fun c => gB fcs (run5 .zero (.is 8) c)) = true := by kernel_rfl
theorem e2_4 : gB mNo (fun c => gB fcs (run5 .emp (.is 2) c)) = true := by kernel_rfl
theorem e2_12 : gB mNo (fun c => gB fcs (run5 .emp (.is 10) c)) = true := by kernel_rfl
theorem e3_6 : gB mNo (fun c => gB fcs (run5 .opq (.is 4) c)) = true := by kernel_rfl
end Go.Proofs.Ytnobdifmnoehbaa.fnExactSumAddRuns
