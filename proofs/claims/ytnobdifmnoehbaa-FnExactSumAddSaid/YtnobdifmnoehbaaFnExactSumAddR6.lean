/- Runs of the program at a seat. -/
import Derived.Test.YtnobdifmnoehbaaFnExactSumAddP
namespace Go.Proofs.Ytnobdifmnoehbaa.fnExactSumAddRuns
open Go Go.Eng
set_option linter.unusedVariables false
set_option linter.unusedSectionVars false
set_option linter.unusedSimpArgs false
set_option maxRecDepth 100000
theorem c0_0 : gB mNo (fun c => gB fcs (run3 0 0 c)) = true := by kernel_rfl
theorem a0_1_2 : gB degs7 (run0 0 1 2) = true := by kernel_rfl
theorem o0_2 : gB (ocs (npS 2)) (run2 0 2) = true := by kernel_rfl
theorem a0_4_0 : gB degs7 (run0 0 4 0) = true := by kernel_rfl
theorem o0_4_4 : run2 0 4 (.bad 3 true) = true := by kernel_rfl
theorem o0_4_10 : run2 0 4 (.bad 0 true) = true := by kernel_rfl
theorem o0_5_0 : run2 0 5 .all = true := by kernel_rfl
theorem o0_5_2 : run2 0 5 (.bad 6 true) = true := by kernel_rfl
theorem o0_5_4 : run2 0 5 (.bad 5 true) = true := by kernel_rfl
theorem o0_5_7 : run2 0 5 (.bad 3 false) = true := by kernel_rfl
theorem c0_5 : gB mNo (fun c => gB fcs (run3 0 5 c)) = true := by kernel_rfl
theorem o0_6_4 : run2 0 6 (.bad 9 true) = true := by kernel_rfl
theorem o0_6_12 : run2 0 6 (.bad 5 true) = true := by kernel_rfl
theorem o0_6_20 : run2 0 6 (.bad 1 true) = true := by kernel_rfl
theorem d0_4_0 : gB degs7 (run4 .nil (.is 2) 0) = true := by kernel_rfl
theorem d0_11_0 : gB degs7 (run4 .nil (.is 9) 0) = true := by kernel_rfl
theorem d1_5_0 : gB degs7 (run4 .zero (.is 3) 0) = true := by kernel_rfl
theorem d1_13_0 : gB degs7 (run4 .zero (.is 11) 0) = true := by kernel_rfl
theorem d2_7_0 : gB degs7 (run4 .emp (.is 5) 0) = true := by kernel_rfl
theorem d3_1_0 : gB degs7 (run4 .opq .long 0) = true := by kernel_rfl
theorem d3_9_0 : gB degs7 (run4 .opq (.is 7) 0) = true := by kernel_rfl
theorem a1_0_3 : gB degs7 (run0 1 0 3) = true := by kernel_rfl
theorem o1_1 : gB (ocs (npS 1)) (run2 1 1) = true := by kernel_rfl
theorem a1_2_1 : gB degs7 (run0 1 2 1) = true := by kernel_rfl
theorem a1_3_2 : gB degs7 (run0 1 3 2) = true := by kernel_rfl
theorem a1_4_3 : gB degs7 (run0 1 4 3) = true := by kernel_rfl
theorem a1_5_3 : gB degs7 (run0 1 5 3) = true := by kernel_rfl
theorem o1_5_13 : run2 1 5 (.bad 0 false) = true := by kernel_rfl
theorem o1_6_0 : run2 1 6 .all = true := by kernel_rfl
theorem o1_6_2 : run2 1 6 (.bad 10 true) = true := by kernel_rfl
theorem o1_6_5 : run2 1 6 (.bad 8 false) = true := by kernel_rfl
theorem o1_6_13 : run2 1 6 (.bad 4 false) = true := by kernel_rfl
theorem o1_6_21 : run2 1 6 (.bad 0 false) = true := by kernel_rfl
theorem d0_5_1 : gB degs7 (run4 .nil (.is 3) 1) = true := by kernel_rfl
theorem d0_12_1 : gB degs7 (run4 .nil (.is 10) 1) = true := by kernel_rfl
theorem d1_6_1 : gB degs7 (run4 .zero (.is 4) 1) = true := by kernel_rfl
theorem d2_0_1 : gB degs7 (run4 .emp .wide 1) = true := by kernel_rfl
theorem d2_8_1 : gB degs7 (run4 .emp (.is 6) 1) = true := by kernel_rfl
theorem d3_2_1 : gB degs7 (run4 .opq (.is 0) 1) = true := by kernel_rfl
theorem d3_10_1 : gB degs7 (run4 .opq (.is 8) 1) = true := by kernel_rfl
theorem a2_0_4 : gB degs7 (run0 2 0 4) = true := by kernel_rfl
theorem c2_1 : gB mNo (fun c => gB fcs (run3 2 1 c)) = true := by kernel_rfl
theorem a2_2_3 : gB degs7 (run0 2 2 3) = true := by kernel_rfl
theorem o2_3 : gB (ocs (npS 3)) (run2 2 3) = true := by kernel_rfl
theorem o2_4_9 : run2 2 4 (.bad 0 false) = true := by kernel_rfl
theorem a2_5_4 : gB degs7 (run0 2 5 4) = true := by kernel_rfl
theorem o2_5_14 : run2 2 5 (.bad 0 true) = true := by kernel_rfl
theorem o2_6_1 : run2 2 6 (.bad 10 false) = true := by kernel_rfl
theorem o2_6_3 : run2 2 6 (.bad 9 false) = true := by kernel_rfl
theorem o2_6_6 : run2 2 6 (.bad 8 true) = true := by kernel_rfl
theorem o2_6_14 : run2 2 6 (.bad 4 true) = true := by kernel_rfl
theorem o2_6_22 : run2 2 6 (.bad 0 true) = true := by kernel_rfl
theorem d0_6_2 : gB degs7 (run4 .nil (.is 4) 2) = true := by kernel_rfl
theorem d0_13_2 : gB degs7 (run4 .nil (.is 11) 2) = true := by kernel_rfl
theorem d1_7_2 : gB degs7 (run4 .zero (.is 5) 2) = true := by kernel_rfl
theorem d2_1_2 : gB degs7 (run4 .emp .long 2) = true := by kernel_rfl
theorem d2_9_2 : gB degs7 (run4 .emp (.is 7) 2) = true := by kernel_rfl
theorem d3_3_2 : gB degs7 (run4 .opq (.is 1) 2) = true := by kernel_rfl
theorem d3_11_2 : gB degs7 (run4 .opq (.is 9) 2) = true := by kernel_rfl
theorem o3_0 : gB (ocs (npS 0)) (run2 3 0) = true := by kernel_rfl
theorem c3_0 : gB mNo (fun c => gB fcs (run3 3 0 c)) = true := by kernel_rfl
theorem a3_2_0 : gB degs7 (run0 3 2 0) = true := by kernel_rfl
theorem a3_3_1 : gB degs7 (run0 3 3 1) = true := by kernel_rfl
theorem a3_4_2 : gB degs7 (run0 3 4 2) = true := by kernel_rfl
theorem c3_4 : gB mNo (fun c => gB fcs (run3 3 4 c)) = true := by kernel_rfl
theorem o3_5_6 : run2 3 5 (.bad 4 true) = true := by kernel_rfl
theorem o3_5_12 : run2 3 5 (.bad 1 true) = true := by kernel_rfl
theorem a3_6_4 : gB degs7 (run0 3 6 4) = true := by kernel_rfl
theorem o3_6_11 : run2 3 6 (.bad 5 false) = true := by kernel_rfl
theorem o3_6_19 : run2 3 6 (.bad 1 false) = true := by kernel_rfl
theorem d0_3_3 : gB degs7 (run4 .nil (.is 1) 3) = true := by kernel_rfl
theorem d0_10_3 : gB degs7 (run4 .nil (.is 8) 3) = true := by kernel_rfl
theorem d1_4_3 : gB degs7 (run4 .zero (.is 2) 3) = true := by kernel_rfl
theorem d1_12_3 : gB degs7 (run4 .zero (.is 10) 3) = true := by kernel_rfl
theorem d2_6_3 : gB degs7 (run4 .emp (.is 4) 3) = true := by kernel_rfl
theorem d3_0_3 : gB degs7 (run4 .opq .wide 3) = true := by kernel_rfl
theorem d3_8_3 : gB degs7 (run4 .opq (.is 6) 3) = true := by kernel_rfl
theorem a4_0_2 : gB degs7 (run0 4 0 2) = true := by kernel_rfl
theorem a4_1_4 : gB degs7 (run0 4 1 4) = true := by kernel_rfl
theorem a4_3_0 : gB degs7 (run0 4 3 0) = true := by kernel_rfl
theorem a4_4_1 : gB degs7 (run0 4 4 1) = true := by kernel_rfl
theorem o4_4_5 : run2 4 4 (.bad 2 false) = true := by kernel_rfl
theorem o4_4_10 : run2 4 4 (.bad 0 true) = true := by kernel_rfl
theorem o4_5_0 : run2 4 5 .all = true := by kernel_rfl
theorem o4_5_2 : run2 4 5 (.bad 6 true) = true := by kernel_rfl
theorem o4_5_4 : run2 4 5 (.bad 5 true) = true := by kernel_rfl
theorem o4_5_8 : run2 4 5 (.bad 3 true) = true := by kernel_rfl
theorem a4_6_0 : gB degs7 (run0 4 6 0) = true := by kernel_rfl
theorem o4_6_7 : run2 4 6 (.bad 7 false) = true := by kernel_rfl
theorem o4_6_15 : run2 4 6 (.bad 3 false) = true := by kernel_rfl
theorem c4_6 : gB mNo (fun c => gB fcs (run3 4 6 c)) = true := by kernel_rfl
theorem d1_0_4 : gB degs7 (run4 .zero .wide 4) = true := by kernel_rfl
theorem d1_8_4 : gB degs7 (run4 .zero (.is 6) 4) = true := by kernel_rfl
theorem d2_2_4 : gB degs7 (run4 .emp (.is 0) 4) = true := by kernel_rfl
theorem d2_10_4 : gB degs7 (run4 .emp (.is 8) 4) = true := by kernel_rfl
theorem d3_4_4 : gB degs7 (run4 .opq (.is 2) 4) = true := by kernel_rfl
theorem d3_12_4 : gB degs7 (run4 .opq (.is 10) 4) = true := by kernel_rfl
theorem e0_6 : gB mNo (fun c => gB fcs (run5 .nil (.is 4) c)) = true := by kernel_rfl
theorem e1_0 : gB mNo (fun c => gB fcs (run5 .zero .wide c)) = true := by kernel_rfl
theorem e1_8 : gB mNo (fun c => gB fcs (run5 .zero (.is 6) c)) = true := by kernel_rfl
theorem e2_2 : gB mNo (fun c => gB fcs (run5 .emp (.is 0) c)) = true := by kernel_rfl
theorem e2_10 : gB mNo (fun c => gB fcs (run5 .emp (.is 8) c)) = true := by kernel_rfl
theorem e3_4 : gB mNo (fun c => gB fcs (run5 .opq (.is 2) c)) = true := by kernel_rfl
theorem e3_12 : gB mNo (fun c => gB fcs (run5 .opq (.is 10) c)) = true := by kernel_rfl
end Go.Proofs.Ytnobdifmnoehbaa.fnExactSumAddRuns
