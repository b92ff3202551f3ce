/- Runs of the program at a seat. -/
import Derived.Test.YtnobdifmnoehbaaFnExactSumAddP
namespace Go.Proofs.Ytnobdifmnoehbaa.fnExactSumAddRuns
open Go Go.Eng
set_option linter.unusedVariables false
set_option linter.unusedSectionVars false
set_option linter.unusedSimpArgs false
set_option maxRecDepth 100000
theorem a0_0_3 : gB degs7 (run0 0 0 3) = true := by kernel_rfl
theorem c0_1 : gB mNo (fun c => gB fcs (run3 0 1 c)) = true := by kernel_rfl
theorem a0_2_4 : gB degs7 (run0 0 2 4) = true := by kernel_rfl
theorem o0_3 : gB (ocs (npS 3)) (run2 0 3) = true := by kernel_rfl
theorem c0_4 : gB mNo (fun c => gB fcs (run3 0 4 c)) = true := by kernel_rfl
theorem o0_5_5 : run2 0 5 (.bad 4 false) = true := by kernel_rfl
theorem o0_5_10 : run2 0 5 (.bad 2 true) = true := by kernel_rfl
theorem a0_6_2 : gB degs7 (run0 0 6 2) = true := by kernel_rfl
theorem o0_6_9 : run2 0 6 (.bad 6 false) = true := by kernel_rfl
theorem o0_6_17 : run2 0 6 (.bad 2 false) = true := by kernel_rfl
theorem d0_1_0 : gB degs7 (run4 .nil .long 0) = true := by kernel_rfl
theorem d0_8_0 : gB degs7 (run4 .nil (.is 6) 0) = true := by kernel_rfl
theorem d1_2_0 : gB degs7 (run4 .zero (.is 0) 0) = true := by kernel_rfl
theorem d1_10_0 : gB degs7 (run4 .zero (.is 8) 0) = true := by kernel_rfl
theorem d2_4_0 : gB degs7 (run4 .emp (.is 2) 0) = true := by kernel_rfl
theorem d2_12_0 : gB degs7 (run4 .emp (.is 10) 0) = true := by kernel_rfl
theorem d3_6_0 : gB degs7 (run4 .opq (.is 4) 0) = true := by kernel_rfl
theorem a1_0_0 : gB degs7 (run0 1 0 0) = true := by kernel_rfl
theorem a1_1_2 : gB degs7 (run0 1 1 2) = true := by kernel_rfl
theorem o1_2 : gB (ocs (npS 2)) (run2 1 2) = true := by kernel_rfl
theorem a1_4_0 : gB degs7 (run0 1 4 0) = true := by kernel_rfl
theorem o1_4_3 : run2 1 4 (.bad 3 false) = true := by kernel_rfl
theorem o1_4_7 : run2 1 4 (.bad 1 false) = true := by kernel_rfl
theorem a1_5_1 : gB degs7 (run0 1 5 1) = true := by kernel_rfl
theorem o1_5_9 : run2 1 5 (.bad 2 false) = true := by kernel_rfl
theorem a1_6_1 : gB degs7 (run0 1 6 1) = true := by kernel_rfl
theorem o1_6_8 : run2 1 6 (.bad 7 true) = true := by kernel_rfl
theorem o1_6_16 : run2 1 6 (.bad 3 true) = true := by kernel_rfl
theorem d0_0_1 : gB degs7 (run4 .nil .wide 1) = true := by kernel_rfl
theorem d0_7_1 : gB degs7 (run4 .nil (.is 5) 1) = true := by kernel_rfl
theorem d1_1_1 : gB degs7 (run4 .zero .long 1) = true := by kernel_rfl
theorem d1_9_1 : gB degs7 (run4 .zero (.is 7) 1) = true := by kernel_rfl
theorem d2_3_1 : gB degs7 (run4 .emp (.is 1) 1) = true := by kernel_rfl
theorem d2_11_1 : gB degs7 (run4 .emp (.is 9) 1) = true := by kernel_rfl
theorem d3_5_1 : gB degs7 (run4 .opq (.is 3) 1) = true := by kernel_rfl
theorem d3_13_1 : gB degs7 (run4 .opq (.is 11) 1) = true := by kernel_rfl
theorem a2_1_1 : gB degs7 (run0 2 1 1) = true := by kernel_rfl
theorem a2_2_4 : gB degs7 (run0 2 2 4) = true := by kernel_rfl
theorem c2_3 : gB mNo (fun c => gB fcs (run3 2 3 c)) = true := by kernel_rfl
theorem o2_4_0 : run2 2 4 .all = true := by kernel_rfl
theorem o2_4_2 : run2 2 4 (.bad 4 true) = true := by kernel_rfl
theorem o2_4_6 : run2 2 4 (.bad 2 true) = true := by kernel_rfl
theorem a2_5_0 : gB degs7 (run0 2 5 0) = true := by kernel_rfl
theorem o2_5_7 : run2 2 5 (.bad 3 false) = true := by kernel_rfl
theorem c2_5 : gB mNo (fun c => gB fcs (run3 2 5 c)) = true := by kernel_rfl
theorem o2_6_4 : run2 2 6 (.bad 9 true) = true := by kernel_rfl
theorem o2_6_12 : run2 2 6 (.bad 5 true) = true := by kernel_rfl
theorem o2_6_20 : run2 2 6 (.bad 1 true) = true := by kernel_rfl
theorem d0_4_2 : gB degs7 (run4 .nil (.is 2) 2) = true := by kernel_rfl
theorem d0_11_2 : gB degs7 (run4 .nil (.is 9) 2) = true := by kernel_rfl
theorem d1_5_2 : gB degs7 (run4 .zero (.is 3) 2) = true := by kernel_rfl
theorem d1_13_2 : gB degs7 (run4 .zero (.is 11) 2) = true := by kernel_rfl
theorem d2_7_2 : gB degs7 (run4 .emp (.is 5) 2) = true := by kernel_rfl
theorem d3_1_2 : gB degs7 (run4 .opq .long 2) = true := by kernel_rfl
theorem d3_9_2 : gB degs7 (run4 .opq (.is 7) 2) = true := by kernel_rfl
theorem a3_0_3 : gB degs7 (run0 3 0 3) = true := by kernel_rfl
theorem o3_1 : gB (ocs (npS 1)) (run2 3 1) = true := by kernel_rfl
theorem a3_2_1 : gB degs7 (run0 3 2 1) = true := by kernel_rfl
theorem a3_3_2 : gB degs7 (run0 3 3 2) = true := by kernel_rfl
theorem a3_4_3 : gB degs7 (run0 3 4 3) = true := by kernel_rfl
theorem a3_5_3 : gB degs7 (run0 3 5 3) = true := by kernel_rfl
theorem o3_5_13 : run2 3 5 (.bad 0 false) = true := by kernel_rfl
theorem o3_6_0 : run2 3 6 .all = true := by kernel_rfl
theorem o3_6_2 : run2 3 6 (.bad 10 true) = true := by kernel_rfl
theorem o3_6_5 : run2 3 6 (.bad 8 false) = true := by kernel_rfl
theorem o3_6_13 : run2 3 6 (.bad 4 false) = true := by kernel_rfl
theorem o3_6_21 : run2 3 6 (.bad 0 false) = true := by kernel_rfl
theorem d0_5_3 : gB degs7 (run4 .nil (.is 3) 3) = true := by kernel_rfl
theorem d0_12_3 : gB degs7 (run4 .nil (.is 10) 3) = true := by kernel_rfl
theorem d1_6_3 : gB degs7 (run4 .zero (.is 4) 3) = true := by kernel_rfl
theorem d2_0_3 : gB degs7 (run4 .emp .wide 3) = true := by kernel_rfl
theorem d2_8_3 : gB degs7 (run4 .emp (.is 6) 3) = true := by kernel_rfl
theorem d3_2_3 : gB degs7 (run4 .opq (.is 0) 3) = true := by kernel_rfl
theorem d3_10_3 : gB degs7 (run4 .opq (.is 8) 3) = true := by kernel_rfl
theorem a4_0_4 : gB degs7 (run0 4 0 4) = true := by kernel_rfl
theorem c4_1 : gB mNo (fun c => gB fcs (run3 4 1 c)) = true := by kernel_rfl
theorem a4_2_3 : gB degs7 (run0 4 2 3) = true := by kernel_rfl
theorem o4_3 : gB (ocs (npS 3)) (run2 4 3) = true := by kernel_rfl
theorem o4_4_9 : run2 4 4 (.bad 0 false) = true := by kernel_rfl
theorem a4_5_4 : gB degs7 (run0 4 5 4) = true := by kernel_rfl
theorem o4_5_14 : run2 4 5 (.bad 0 true) = true := by kernel_rfl
theorem o4_6_1 : run2 4 6 (.bad 10 false) = true := by kernel_rfl
theorem o4_6_3 : run2 4 6 (.bad 9 false) = true := by kernel_rfl
theorem o4_6_6 : run2 4 6 (.bad 8 true) = true := by kernel_rfl
theorem o4_6_14 : run2 4 6 (.bad 4 true) = true := by kernel_rfl
theorem o4_6_22 : run2 4 6 (.bad 0 true) = true := by kernel_rfl
theorem d0_6_4 : gB degs7 (run4 .nil (.is 4) 4) = true := by kernel_rfl
theorem d0_13_4 : gB degs7 (run4 .nil (.is 11) 4) = true := by kernel_rfl
theorem d1_7_4 : gB degs7 (run4 .zero (.is 5) 4) = true := by kernel_rfl
theorem d2_1_4 : gB degs7 (run4 .emp .long 4) = true := by kernel_rfl
theorem d2_9_4 : gB degs7 (run4 .emp (.is 7) 4) = true := by kernel_rfl
theorem d3_3_4 : gB degs7 (run4 .opq (.is 1) 4) = true := by kernel_rfl
theorem d3_11_4 : gB degs7 (run4 .opq (.is 9) 4) = true := by kernel_rfl
theorem e0_5 : gB mNo (fun c => gB fcs (run5 .nil (.is 3) c)) = true := by kernel_rfl
theorem e0_12 : gB mNo (fun c => gB fcs (run5 .nil (.is 10) c)) = true := by kernel_rfl
theorem e1_6 : gB mNo (fun c => gB fcs (run5 .zero (.is 4) c)) = true := by kernel_rfl
theorem e2_0 : gB mNo (fun c => gB fcs (run5 .emp .wide c)) = true := by kernel_rfl
theorem e2_8 : gB mNo (fun c => gB fcs (run5 .emp (.is 6) c)) = true := by kernel_rfl
theorem e3_2 : gB mNo (fun c => gB fcs (run5 .opq (.is 0) c)) = true := by kernel_rfl
theorem e3_10 : gB mNo (fun c => gB fcs (run5 .opq (.is 8) c)) = true := by kernel_rfl
end Go.Proofs.Ytnobdifmnoehbaa.fnExactSumAddRuns
