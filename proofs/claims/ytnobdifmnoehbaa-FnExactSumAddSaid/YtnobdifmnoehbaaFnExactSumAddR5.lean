/- Runs of the program at a seat. -/
import Derived.Test.YtnobdifmnoehbaaFnExactSumAddP
namespace Go.Proofs.Ytnobdifmnoehbaa.fnExactSumAddRuns
open Go Go.Eng
set_option linter.unusedVariables false
set_option linter.unusedSectionVars false
set_option linter.unusedSimpArgs false
set_option maxRecDepth 100000
theorem o0_0 : gB (ocs (npS 0)) (run2 0 0) = true := by kernel_rfl
theorem a0_1_1 : gB degs7 (run0 0 1 1) = true := by kernel_rfl
theorem a0_2_3 : gB degs7 (run0 0 2 3) = true := by kernel_rfl
theorem a0_3_4 : gB degs7 (run0 0 3 4) = true := by kernel_rfl
theorem o0_4_0 : run2 0 4 .all = true := by kernel_rfl
theorem o0_4_2 : run2 0 4 (.bad 4 true) = true := by kernel_rfl
theorem o0_4_6 : run2 0 4 (.bad 2 true) = true := by kernel_rfl
theorem a0_5_1 : gB degs7 (run0 0 5 1) = true := by kernel_rfl
theorem o0_5_9 : run2 0 5 (.bad 2 false) = true := by kernel_rfl
theorem a0_6_1 : gB degs7 (run0 0 6 1) = true := by kernel_rfl
theorem o0_6_8 : run2 0 6 (.bad 7 true) = true := by kernel_rfl
theorem o0_6_16 : run2 0 6 (.bad 3 true) = true := by kernel_rfl
theorem d0_0_0 : gB degs7 (run4 .nil .wide 0) = true := by kernel_rfl
theorem d0_7_0 : gB degs7 (run4 .nil (.is 5) 0) = true := by kernel_rfl
theorem d1_1_0 : gB degs7 (run4 .zero .long 0) = true := by kernel_rfl
theorem d1_9_0 : gB degs7 (run4 .zero (.is 7) 0) = true := by kernel_rfl
theorem d2_3_0 : gB degs7 (run4 .emp (.is 1) 0) = true := by kernel_rfl
theorem d2_11_0 : gB degs7 (run4 .emp (.is 9) 0) = true := by kernel_rfl
theorem d3_5_0 : gB degs7 (run4 .opq (.is 3) 0) = true := by kernel_rfl
theorem d3_13_0 : gB degs7 (run4 .opq (.is 11) 0) = true := by kernel_rfl
theorem a1_1_1 : gB degs7 (run0 1 1 1) = true := by kernel_rfl
theorem a1_2_3 : gB degs7 (run0 1 2 3) = true := by kernel_rfl
theorem o1_3 : gB (ocs (npS 3)) (run2 1 3) = true := by kernel_rfl
theorem o1_4_9 : run2 1 4 (.bad 0 false) = true := by kernel_rfl
theorem a1_5_4 : gB degs7 (run0 1 5 4) = true := by kernel_rfl
theorem o1_5_14 : run2 1 5 (.bad 0 true) = true := by kernel_rfl
theorem o1_6_1 : run2 1 6 (.bad 10 false) = true := by kernel_rfl
theorem o1_6_3 : run2 1 6 (.bad 9 false) = true := by kernel_rfl
theorem o1_6_6 : run2 1 6 (.bad 8 true) = true := by kernel_rfl
theorem o1_6_14 : run2 1 6 (.bad 4 true) = true := by kernel_rfl
theorem o1_6_22 : run2 1 6 (.bad 0 true) = true := by kernel_rfl
theorem d0_6_1 : gB degs7 (run4 .nil (.is 4) 1) = true := by kernel_rfl
theorem d0_13_1 : gB degs7 (run4 .nil (.is 11) 1) = true := by kernel_rfl
theorem d1_7_1 : gB degs7 (run4 .zero (.is 5) 1) = true := by kernel_rfl
theorem d2_1_1 : gB degs7 (run4 .emp .long 1) = true := by kernel_rfl
theorem d2_9_1 : gB degs7 (run4 .emp (.is 7) 1) = true := by kernel_rfl
theorem d3_3_1 : gB degs7 (run4 .opq (.is 1) 1) = true := by kernel_rfl
theorem d3_11_1 : gB degs7 (run4 .opq (.is 9) 1) = true := by kernel_rfl
theorem o2_0 : gB (ocs (npS 0)) (run2 2 0) = true := by kernel_rfl
theorem c2_0 : gB mNo (fun c => gB fcs (run3 2 0 c)) = true := by kernel_rfl
theorem a2_2_0 : gB degs7 (run0 2 2 0) = true := by kernel_rfl
theorem a2_3_1 : gB degs7 (run0 2 3 1) = true := by kernel_rfl
theorem a2_4_2 : gB degs7 (run0 2 4 2) = true := by kernel_rfl
theorem c2_4 : gB mNo (fun c => gB fcs (run3 2 4 c)) = true := by kernel_rfl
theorem o2_5_6 : run2 2 5 (.bad 4 true) = true := by kernel_rfl
theorem o2_5_12 : run2 2 5 (.bad 1 true) = true := by kernel_rfl
theorem a2_6_4 : gB degs7 (run0 2 6 4) = true := by kernel_rfl
theorem o2_6_11 : run2 2 6 (.bad 5 false) = true := by kernel_rfl
theorem o2_6_19 : run2 2 6 (.bad 1 false) = true := by kernel_rfl
theorem d0_3_2 : gB degs7 (run4 .nil (.is 1) 2) = true := by kernel_rfl
theorem d0_10_2 : gB degs7 (run4 .nil (.is 8) 2) = true := by kernel_rfl
theorem d1_4_2 : gB degs7 (run4 .zero (.is 2) 2) = true := by kernel_rfl
theorem d1_12_2 : gB degs7 (run4 .zero (.is 10) 2) = true := by kernel_rfl
theorem d2_6_2 : gB degs7 (run4 .emp (.is 4) 2) = true := by kernel_rfl
theorem d3_0_2 : gB degs7 (run4 .opq .wide 2) = true := by kernel_rfl
theorem d3_8_2 : gB degs7 (run4 .opq (.is 6) 2) = true := by kernel_rfl
theorem a3_0_2 : gB degs7 (run0 3 0 2) = true := by kernel_rfl
theorem a3_1_4 : gB degs7 (run0 3 1 4) = true := by kernel_rfl
theorem a3_3_0 : gB degs7 (run0 3 3 0) = true := by kernel_rfl
theorem a3_4_1 : gB degs7 (run0 3 4 1) = true := by kernel_rfl
theorem o3_4_5 : run2 3 4 (.bad 2 false) = true := by kernel_rfl
theorem o3_4_9 : run2 3 4 (.bad 0 false) = true := by kernel_rfl
theorem a3_5_4 : gB degs7 (run0 3 5 4) = true := by kernel_rfl
theorem o3_5_14 : run2 3 5 (.bad 0 true) = true := by kernel_rfl
theorem o3_6_1 : run2 3 6 (.bad 10 false) = true := by kernel_rfl
theorem o3_6_3 : run2 3 6 (.bad 9 false) = true := by kernel_rfl
theorem o3_6_6 : run2 3 6 (.bad 8 true) = true := by kernel_rfl
theorem o3_6_14 : run2 3 6 (.bad 4 true) = true := by kernel_rfl
theorem o3_6_22 : run2 3 6 (.bad 0 true) = true := by kernel_rfl
theorem d0_6_3 : gB degs7 (run4 .nil (.is 4) 3) = true := by kernel_rfl
theorem d0_13_3 : gB degs7 (run4 .nil (.is 11) 3) = true := by kernel_rfl
theorem d1_7_3 : gB degs7 (run4 .zero (.is 5) 3) = true := by kernel_rfl
theorem d2_1_3 : gB degs7 (run4 .emp .long 3) = true := by kernel_rfl
theorem d2_9_3 : gB degs7 (run4 .emp (.is 7) 3) = true := by kernel_rfl
theorem d3_3_3 : gB degs7 (run4 .opq (.is 1) 3) = true := by kernel_rfl
theorem d3_11_3 : gB degs7 (run4 .opq (.is 9) 3) = true := by kernel_rfl
theorem o4_0 : gB (ocs (npS 0)) (run2 4 0) = true := by kernel_rfl
theorem c4_0 : gB mNo (fun c => gB fcs (run3 4 0 c)) = true := by kernel_rfl
theorem a4_2_0 : gB degs7 (run0 4 2 0) = true := by kernel_rfl
theorem a4_3_1 : gB degs7 (run0 4 3 1) = true := by kernel_rfl
theorem a4_4_2 : gB degs7 (run0 4 4 2) = true := by kernel_rfl
theorem a4_5_0 : gB degs7 (run0 4 5 0) = true := by kernel_rfl
theorem o4_5_7 : run2 4 5 (.bad 3 false) = true := by kernel_rfl
theorem c4_5 : gB mNo (fun c => gB fcs (run3 4 5 c)) = true := by kernel_rfl
theorem o4_6_4 : run2 4 6 (.bad 9 true) = true := by kernel_rfl
theorem o4_6_12 : run2 4 6 (.bad 5 true) = true := by kernel_rfl
theorem o4_6_20 : run2 4 6 (.bad 1 true) = true := by kernel_rfl
theorem d0_4_4 : gB degs7 (run4 .nil (.is 2) 4) = true := by kernel_rfl
theorem d0_11_4 : gB degs7 (run4 .nil (.is 9) 4) = true := by kernel_rfl
theorem d1_5_4 : gB degs7 (run4 .zero (.is 3) 4) = true := by kernel_rfl
theorem d1_13_4 : gB degs7 (run4 .zero (.is 11) 4) = true := by kernel_rfl
theorem d2_7_4 : gB degs7 (run4 .emp (.is 5) 4) = true := by kernel_rfl
theorem d3_1_4 : gB degs7 (run4 .opq .long 4) = true := by kernel_rfl
theorem d3_9_4 : gB degs7 (run4 .opq (.is 7) 4) = true := by kernel_rfl
theorem e0_3 : gB mNo (fun c => gB fcs (run5 .nil (.is 1) c)) = true := by kernel_rfl
theorem e0_10 : gB mNo (fun c => gB fcs (run5 .nil (.is 8) c)) = true := by kernel_rfl
theorem e1_4 : gB mNo (fun c => gB fcs (run5 .zero (.is 2) c)) = true := by kernel_rfl
theorem e1_12 : gB mNo (fun c => gB fcs (run5 .zero (.is 10) c)) = true := by kernel_rfl
theorem e2_6 : gB mNo (fun c => gB fcs (run5 .emp (.is 4) c)) = true := by kernel_rfl
theorem e3_0 : gB mNo (fun c => gB fcs (run5 .opq .wide c)) = true := by kernel_rfl
theorem e3_8 : gB mNo (fun c => gB fcs (run5 .opq (.is 6) c)) = true := by kernel_rfl
end Go.Proofs.Ytnobdifmnoehbaa.fnExactSumAddRuns
