/- Runs of the program at a seat. -/
import Derived.Test.YtnobdifmnoehbaaFnExactSumAddP
namespace Go.Proofs.Ytnobdifmnoehbaa.fnExactSumAddRuns
open Go Go.Eng
set_option linter.unusedVariables false
set_option linter.unusedSectionVars false
set_option linter.unusedSimpArgs false
set_option maxRecDepth 100000
theorem a0_0_1 : gB degs7 (run0 0 0 1) = true := by kernel_rfl
theorem a0_1_4 : gB degs7 (run0 0 1 4) = true := by kernel_rfl
theorem a0_3_0 : gB degs7 (run0 0 3 0) = true := by kernel_rfl
theorem a0_4_1 : gB degs7 (run0 0 4 1) = true := by kernel_rfl
theorem o0_4_5 : run2 0 4 (.bad 2 false) = true := by kernel_rfl
theorem a0_5_0 : gB degs7 (run0 0 5 0) = true := by kernel_rfl
theorem o0_5_8 : run2 0 5 (.bad 3 true) = true := by kernel_rfl
theorem a0_6_0 : gB degs7 (run0 0 6 0) = true := by kernel_rfl
theorem o0_6_7 : run2 0 6 (.bad 7 false) = true := by kernel_rfl
theorem o0_6_15 : run2 0 6 (.bad 3 false) = true := by kernel_rfl
theorem c0_6 : gB mNo (fun c => gB fcs (run3 0 6 c)) = true := by kernel_rfl
theorem d1_0_0 : gB degs7 (run4 .zero .wide 0) = true := by kernel_rfl
theorem d1_8_0 : gB degs7 (run4 .zero (.is 6) 0) = true := by kernel_rfl
theorem d2_2_0 : gB degs7 (run4 .emp (.is 0) 0) = true := by kernel_rfl
theorem d2_10_0 : gB degs7 (run4 .emp (.is 8) 0) = true := by kernel_rfl
theorem d3_4_0 : gB degs7 (run4 .opq (.is 2) 0) = true := by kernel_rfl
theorem d3_12_0 : gB degs7 (run4 .opq (.is 10) 0) = true := by kernel_rfl
theorem a1_1_0 : gB degs7 (run0 1 1 0) = true := by kernel_rfl
theorem a1_2_2 : gB degs7 (run0 1 2 2) = true := by kernel_rfl
theorem a1_3_3 : gB degs7 (run0 1 3 3) = true := by kernel_rfl
theorem a1_4_4 : gB degs7 (run0 1 4 4) = true := by kernel_rfl
theorem o1_5_1 : run2 1 5 (.bad 6 false) = true := by kernel_rfl
theorem o1_5_3 : run2 1 5 (.bad 5 false) = true := by kernel_rfl
theorem o1_5_5 : run2 1 5 (.bad 4 false) = true := by kernel_rfl
theorem o1_5_10 : run2 1 5 (.bad 2 true) = true := by kernel_rfl
theorem a1_6_2 : gB degs7 (run0 1 6 2) = true := by kernel_rfl
theorem o1_6_9 : run2 1 6 (.bad 6 false) = true := by kernel_rfl
theorem o1_6_17 : run2 1 6 (.bad 2 false) = true := by kernel_rfl
theorem d0_1_1 : gB degs7 (run4 .nil .long 1) = true := by kernel_rfl
theorem d0_8_1 : gB degs7 (run4 .nil (.is 6) 1) = true := by kernel_rfl
theorem d1_2_1 : gB degs7 (run4 .zero (.is 0) 1) = true := by kernel_rfl
theorem d1_10_1 : gB degs7 (run4 .zero (.is 8) 1) = true := by kernel_rfl
theorem d2_4_1 : gB degs7 (run4 .emp (.is 2) 1) = true := by kernel_rfl
theorem d2_12_1 : gB degs7 (run4 .emp (.is 10) 1) = true := by kernel_rfl
theorem d3_6_1 : gB degs7 (run4 .opq (.is 4) 1) = true := by kernel_rfl
theorem a2_0_0 : gB degs7 (run0 2 0 0) = true := by kernel_rfl
theorem a2_1_2 : gB degs7 (run0 2 1 2) = true := by kernel_rfl
theorem o2_2 : gB (ocs (npS 2)) (run2 2 2) = true := by kernel_rfl
theorem a2_4_0 : gB degs7 (run0 2 4 0) = true := by kernel_rfl
theorem o2_4_3 : run2 2 4 (.bad 3 false) = true := by kernel_rfl
theorem o2_4_7 : run2 2 4 (.bad 1 false) = true := by kernel_rfl
theorem a2_5_1 : gB degs7 (run0 2 5 1) = true := by kernel_rfl
theorem o2_5_10 : run2 2 5 (.bad 2 true) = true := by kernel_rfl
theorem a2_6_2 : gB degs7 (run0 2 6 2) = true := by kernel_rfl
theorem o2_6_9 : run2 2 6 (.bad 6 false) = true := by kernel_rfl
theorem o2_6_17 : run2 2 6 (.bad 2 false) = true := by kernel_rfl
theorem d0_1_2 : gB degs7 (run4 .nil .long 2) = true := by kernel_rfl
theorem d0_8_2 : gB degs7 (run4 .nil (.is 6) 2) = true := by kernel_rfl
theorem d1_2_2 : gB degs7 (run4 .zero (.is 0) 2) = true := by kernel_rfl
theorem d1_10_2 : gB degs7 (run4 .zero (.is 8) 2) = true := by kernel_rfl
theorem d2_4_2 : gB degs7 (run4 .emp (.is 2) 2) = true := by kernel_rfl
theorem d2_12_2 : gB degs7 (run4 .emp (.is 10) 2) = true := by kernel_rfl
theorem d3_6_2 : gB degs7 (run4 .opq (.is 4) 2) = true := by kernel_rfl
theorem a3_0_0 : gB degs7 (run0 3 0 0) = true := by kernel_rfl
theorem a3_1_2 : gB degs7 (run0 3 1 2) = true := by kernel_rfl
theorem o3_2 : gB (ocs (npS 2)) (run2 3 2) = true := by kernel_rfl
theorem a3_4_0 : gB degs7 (run0 3 4 0) = true := by kernel_rfl
theorem o3_4_4 : run2 3 4 (.bad 3 true) = true := by kernel_rfl
theorem o3_4_8 : run2 3 4 (.bad 1 true) = true := by kernel_rfl
theorem a3_5_2 : gB degs7 (run0 3 5 2) = true := by kernel_rfl
theorem o3_5_11 : run2 3 5 (.bad 1 false) = true := by kernel_rfl
theorem a3_6_3 : gB degs7 (run0 3 6 3) = true := by kernel_rfl
theorem o3_6_10 : run2 3 6 (.bad 6 true) = true := by kernel_rfl
theorem o3_6_18 : run2 3 6 (.bad 2 true) = true := by kernel_rfl
theorem d0_2_3 : gB degs7 (run4 .nil (.is 0) 3) = true := by kernel_rfl
theorem d0_9_3 : gB degs7 (run4 .nil (.is 7) 3) = true := by kernel_rfl
theorem d1_3_3 : gB degs7 (run4 .zero (.is 1) 3) = true := by kernel_rfl
theorem d1_11_3 : gB degs7 (run4 .zero (.is 9) 3) = true := by kernel_rfl
theorem d2_5_3 : gB degs7 (run4 .emp (.is 3) 3) = true := by kernel_rfl
theorem d2_13_3 : gB degs7 (run4 .emp (.is 11) 3) = true := by kernel_rfl
theorem d3_7_3 : gB degs7 (run4 .opq (.is 5) 3) = true := by kernel_rfl
theorem a4_0_1 : gB degs7 (run0 4 0 1) = true := by kernel_rfl
theorem a4_1_3 : gB degs7 (run0 4 1 3) = true := by kernel_rfl
theorem c4_2 : gB mNo (fun c => gB fcs (run3 4 2 c)) = true := by kernel_rfl
theorem a4_3_4 : gB degs7 (run0 4 3 4) = true := by kernel_rfl
theorem o4_4_1 : run2 4 4 (.bad 4 false) = true := by kernel_rfl
theorem o4_4_3 : run2 4 4 (.bad 3 false) = true := by kernel_rfl
theorem o4_4_7 : run2 4 4 (.bad 1 false) = true := by kernel_rfl
theorem a4_5_1 : gB degs7 (run0 4 5 1) = true := by kernel_rfl
theorem o4_5_10 : run2 4 5 (.bad 2 true) = true := by kernel_rfl
theorem a4_6_2 : gB degs7 (run0 4 6 2) = true := by kernel_rfl
theorem o4_6_9 : run2 4 6 (.bad 6 false) = true := by kernel_rfl
theorem o4_6_17 : run2 4 6 (.bad 2 false) = true := by kernel_rfl
theorem d0_1_4 : gB degs7 (run4 .nil .long 4) = true := by kernel_rfl
theorem d0_8_4 : gB degs7 (run4 .nil (.is 6) 4) = true := by kernel_rfl
theorem d1_2_4 : gB degs7 (run4 .zero (.is 0) 4) = true := by kernel_rfl
theorem d1_10_4 : gB degs7 (run4 .zero (.is 8) 4) = true := by kernel_rfl
theorem d2_4_4 : gB degs7 (run4 .emp (.is 2) 4) = true := by kernel_rfl
theorem d2_12_4 : gB degs7 (run4 .emp (.is 10) 4) = true := by kernel_rfl
theorem d3_6_4 : gB degs7 (run4 .opq (.is 4) 4) = true := by kernel_rfl
theorem e0_0 : gB mNo (fun c => gB fcs (run5 .nil .wide c)) = true := by kernel_rfl
theorem e0_7 : gB mNo (fun c => gB fcs (run5 .nil (.is 5) c)) = true := by kernel_rfl
theorem e1_1 : gB mNo (fun c => gB fcs (run5 .zero .long c)) = true := by kernel_rfl
theorem e1_9 : gB mNo (fun c => gB fcs (run5 .zero (.is 7) c)) = true := by kernel_rfl
theorem e2_3 : gB mNo (fun c => gB fcs (run5 .emp (.is 1) c)) = true := by kernel_rfl
theorem e2_11 : gB mNo (fun c => gB fcs (run5 .emp (.is 9) c)) = true := by kernel_rfl
theorem e3_5 : gB mNo (fun c => gB fcs (run5 .opq (.is 3) c)) = true := by kernel_rfl
theorem e3_13 : gB mNo (fun c => gB fcs (run5 .opq (.is 11) c)) = true := by kernel_rfl
end Go.Proofs.Ytnobdifmnoehbaa.fnExactSumAddRuns
