/- Runs of the program at a seat. -/
import Derived.Test.YtnobdifmnoehbaaFnExactSumAddP
namespace Go.Proofs.Ytnobdifmnoehbaa.fnExactSumAddRuns
open Go Go.Eng
set_option linter.unusedVariables false
set_option linter.unusedSectionVars false
set_option linter.unusedSimpArgs false
set_option maxRecDepth 100000
theorem a0_0_0 : gB degs7 (run0 0 0 0) = true := by kernel_rfl
theorem a0_1_3 : gB degs7 (run0 0 1 3) = true := by kernel_rfl
theorem c0_2 : gB mNo (fun c => gB fcs (run3 0 2 c)) = true := by kernel_rfl
theorem c0_3 : gB mNo (fun c => gB fcs (run3 0 3 c)) = true := by kernel_rfl
theorem o0_4_1 : run2 0 4 (.bad 4 false) = true := by kernel_rfl
theorem o0_4_3 : run2 0 4 (.bad 3 false) = true := by kernel_rfl
theorem o0_4_9 : run2 0 4 (.bad 0 false) = true := by kernel_rfl
theorem a0_5_4 : gB degs7 (run0 0 5 4) = true := by kernel_rfl
theorem o0_5_13 : run2 0 5 (.bad 0 false) = true := by kernel_rfl
theorem o0_6_0 : run2 0 6 .all = true := by kernel_rfl
theorem o0_6_2 : run2 0 6 (.bad 10 true) = true := by kernel_rfl
theorem o0_6_5 : run2 0 6 (.bad 8 false) = true := by kernel_rfl
theorem o0_6_13 : run2 0 6 (.bad 4 false) = true := by kernel_rfl
theorem o0_6_21 : run2 0 6 (.bad 0 false) = true := by kernel_rfl
theorem d0_5_0 : gB degs7 (run4 .nil (.is 3) 0) = true := by kernel_rfl
theorem d0_12_0 : gB degs7 (run4 .nil (.is 10) 0) = true := by kernel_rfl
theorem d1_6_0 : gB degs7 (run4 .zero (.is 4) 0) = true := by kernel_rfl
theorem d2_0_0 : gB degs7 (run4 .emp .wide 0) = true := by kernel_rfl
theorem d2_8_0 : gB degs7 (run4 .emp (.is 6) 0) = true := by kernel_rfl
theorem d3_2_0 : gB degs7 (run4 .opq (.is 0) 0) = true := by kernel_rfl
theorem d3_10_0 : gB degs7 (run4 .opq (.is 8) 0) = true := by kernel_rfl
theorem a1_0_4 : gB degs7 (run0 1 0 4) = true := by kernel_rfl
theorem c1_1 : gB mNo (fun c => gB fcs (run3 1 1 c)) = true := by kernel_rfl
theorem a1_2_4 : gB degs7 (run0 1 2 4) = true := by kernel_rfl
theorem c1_3 : gB mNo (fun c => gB fcs (run3 1 3 c)) = true := by kernel_rfl
theorem o1_4_0 : run2 1 4 .all = true := by kernel_rfl
theorem o1_4_2 : run2 1 4 (.bad 4 true) = true := by kernel_rfl
theorem o1_4_6 : run2 1 4 (.bad 2 true) = true := by kernel_rfl
theorem a1_5_0 : gB degs7 (run0 1 5 0) = true := by kernel_rfl
theorem o1_5_7 : run2 1 5 (.bad 3 false) = true := by kernel_rfl
theorem c1_5 : gB mNo (fun c => gB fcs (run3 1 5 c)) = true := by kernel_rfl
theorem o1_6_4 : run2 1 6 (.bad 9 true) = true := by kernel_rfl
theorem o1_6_12 : run2 1 6 (.bad 5 true) = true := by kernel_rfl
theorem o1_6_20 : run2 1 6 (.bad 1 true) = true := by kernel_rfl
theorem d0_4_1 : gB degs7 (run4 .nil (.is 2) 1) = true := by kernel_rfl
theorem d0_11_1 : gB degs7 (run4 .nil (.is 9) 1) = true := by kernel_rfl
theorem d1_5_1 : gB degs7 (run4 .zero (.is 3) 1) = true := by kernel_rfl
theorem d1_13_1 : gB degs7 (run4 .zero (.is 11) 1) = true := by kernel_rfl
theorem d2_7_1 : gB degs7 (run4 .emp (.is 5) 1) = true := by kernel_rfl
theorem d3_1_1 : gB degs7 (run4 .opq .long 1) = true := by kernel_rfl
theorem d3_9_1 : gB degs7 (run4 .opq (.is 7) 1) = true := by kernel_rfl
theorem a2_0_3 : gB degs7 (run0 2 0 3) = true := by kernel_rfl
theorem o2_1 : gB (ocs (npS 1)) (run2 2 1) = true := by kernel_rfl
theorem a2_2_1 : gB degs7 (run0 2 2 1) = true := by kernel_rfl
theorem a2_3_2 : gB degs7 (run0 2 3 2) = true := by kernel_rfl
theorem a2_4_3 : gB degs7 (run0 2 4 3) = true := by kernel_rfl
theorem a2_5_3 : gB degs7 (run0 2 5 3) = true := by kernel_rfl
theorem o2_5_13 : run2 2 5 (.bad 0 false) = true := by kernel_rfl
theorem o2_6_0 : run2 2 6 .all = true := by kernel_rfl
theorem o2_6_2 : run2 2 6 (.bad 10 true) = true := by kernel_rfl
theorem o2_6_5 : run2 2 6 (.bad 8 false) = true := by kernel_rfl
theorem o2_6_13 : run2 2 6 (.bad 4 false) = true := by kernel_rfl
theorem o2_6_21 : run2 2 6 (.bad 0 false) = true := by kernel_rfl
theorem d0_5_2 : gB degs7 (run4 .nil (.is 3) 2) = true := by kernel_rfl
theorem d0_12_2 : gB degs7 (run4 .nil (.is 10) 2) = true := by kernel_rfl
theorem d1_6_2 : gB degs7 (run4 .zero (.is 4) 2) = true := by kernel_rfl
theorem d2_0_2 : gB degs7 (run4 .emp .wide 2) = true := by kernel_rfl
theorem d2_8_2 : gB degs7 (run4 .emp (.is 6) 2) = true := by kernel_rfl
theorem d3_2_2 : gB degs7 (run4 .opq (.is 0) 2) = true := by kernel_rfl
theorem d3_10_2 : gB degs7 (run4 .opq (.is 8) 2) = true := by kernel_rfl
theorem a3_0_4 : gB degs7 (run0 3 0 4) = true := by kernel_rfl
theorem c3_1 : gB mNo (fun c => gB fcs (run3 3 1 c)) = true := by kernel_rfl
theorem a3_2_3 : gB degs7 (run0 3 2 3) = true := by kernel_rfl
theorem o3_3 : gB (ocs (npS 3)) (run2 3 3) = true := by kernel_rfl
theorem o3_4_10 : run2 3 4 (.bad 0 true) = true := by kernel_rfl
theorem o3_5_0 : run2 3 5 .all = true := by kernel_rfl
theorem o3_5_2 : run2 3 5 (.bad 6 true) = true := by kernel_rfl
theorem o3_5_4 : run2 3 5 (.bad 5 true) = true := by kernel_rfl
theorem o3_5_8 : run2 3 5 (.bad 3 true) = true := by kernel_rfl
theorem a3_6_0 : gB degs7 (run0 3 6 0) = true := by kernel_rfl
theorem o3_6_7 : run2 3 6 (.bad 7 false) = true := by kernel_rfl
theorem o3_6_15 : run2 3 6 (.bad 3 false) = true := by kernel_rfl
theorem c3_6 : gB mNo (fun c => gB fcs (run3 3 6 c)) = true := by kernel_rfl
theorem d1_0_3 : gB degs7 (run4 .zero .wide 3) = true := by kernel_rfl
theorem d1_8_3 : gB degs7 (run4 .zero (.is 6) 3) = true := by kernel_rfl
theorem d2_2_3 : gB degs7 (run4 .emp (.is 0) 3) = true := by kernel_rfl
theorem d2_10_3 : gB degs7 (run4 .emp (.is 8) 3) = true := by kernel_rfl
theorem d3_4_3 : gB degs7 (run4 .opq (.is 2) 3) = true := by kernel_rfl
theorem d3_12_3 : gB degs7 (run4 .opq (.is 10) 3) = true := by kernel_rfl
theorem a4_1_0 : gB degs7 (run0 4 1 0) = true := by kernel_rfl
theorem a4_2_2 : gB degs7 (run0 4 2 2) = true := by kernel_rfl
theorem a4_3_3 : gB degs7 (run0 4 3 3) = true := by kernel_rfl
theorem a4_4_4 : gB degs7 (run0 4 4 4) = true := by kernel_rfl
theorem o4_5_1 : run2 4 5 (.bad 6 false) = true := by kernel_rfl
theorem o4_5_3 : run2 4 5 (.bad 5 false) = true := by kernel_rfl
theorem o4_5_5 : run2 4 5 (.bad 4 false) = true := by kernel_rfl
theorem o4_5_9 : run2 4 5 (.bad 2 false) = true := by kernel_rfl
theorem a4_6_1 : gB degs7 (run0 4 6 1) = true := by kernel_rfl
theorem o4_6_8 : run2 4 6 (.bad 7 true) = true := by kernel_rfl
theorem o4_6_16 : run2 4 6 (.bad 3 true) = true := by kernel_rfl
theorem d0_0_4 : gB degs7 (run4 .nil .wide 4) = true := by kernel_rfl
theorem d0_7_4 : gB degs7 (run4 .nil (.is 5) 4) = true := by kernel_rfl
theorem d1_1_4 : gB degs7 (run4 .zero .long 4) = true := by kernel_rfl
theorem d1_9_4 : gB degs7 (run4 .zero (.is 7) 4) = true := by kernel_rfl
theorem d2_3_4 : gB degs7 (run4 .emp (.is 1) 4) = true := by kernel_rfl
theorem d2_11_4 : gB degs7 (run4 .emp (.is 9) 4) = true := by kernel_rfl
theorem d3_5_4 : gB degs7 (run4 .opq (.is 3) 4) = true := by kernel_rfl
theorem d3_13_4 : gB degs7 (run4 .opq (.is 11) 4) = true := by kernel_rfl
theorem e0_13 : gB mNo (fun c => gB fcs (run5 .nil (.is 11) c)) = true := by kernel_rfl
theorem e1_7 : gB mNo (fun c => gB fcs (run5 .zero (.is 5) c)) = true := by kernel_rfl
theorem e2_1 : gB mNo (fun c => gB fcs (run5 .emp .long c)) = true := by kernel_rfl
theorem e2_9 : gB mNo (fun c => gB fcs (run5 .emp (.is 7) c)) = true := by kernel_rfl
theorem e3_3 : gB mNo (fun c => gB fcs (run5 .opq (.is 1) c)) = true := by kernel_rfl
theorem e3_11 : gB mNo (fun c => gB fcs (run5 .opq (.is 9) c)) = true := by kernel_rfl
end Go.Proofs.Ytnobdifmnoehbaa.fnExactSumAddRuns
