/- Runs of the program at a seat. -/
import Derived.Test.YtnobdifmnoehbaaFnExactRootAtP
namespace Go.Proofs.Ytnobdifmnoehbaa.fnExactRootAtRuns
open Go Go.Eng
set_option linter.unusedVariables false
set_option linter.unusedSectionVars false
set_option linter.unusedSimpArgs false
set_option maxRecDepth 100000
theorem c0 : gB (zcs (-9) 18) (fun y => chkFT (run .nil y) .leaf []) = true := by kernel_rfl
theorem c2 : gB (zcs (-9) 18) (fun y => chkFT (run .emp y) .leaf []) = true := by kernel_rfl
theorem c4 : gB (zcs (-9) 18) (fun y => chkFT (run .long y) .leaf []) = true := by kernel_rfl
theorem o5_2 : FtOk (run (.ok 5) (.is (9))) := ⟨.leaf, by kernel_rfl⟩
theorem o5_4 : FtOk (run (.ok 5) (.is (7))) := ⟨.leaf, by kernel_rfl⟩
theorem o5_6 : FtOk (run (.ok 5) (.is (5))) := ⟨.leaf, by kernel_rfl⟩
theorem o5_8 : FtOk (run (.ok 5) (.is (3))) := ⟨.leaf, by kernel_rfl⟩
theorem o5_10 : FtOk (run (.ok 5) (.is (1))) := ⟨.leaf, by kernel_rfl⟩
theorem o5_12 : FtOk (run (.ok 5) (.is (-1))) := ⟨.leaf, by kernel_rfl⟩
theorem o5_14 : FtOk (run (.ok 5) (.is (-3))) := ⟨.leaf, by kernel_rfl⟩
theorem o5_16 : FtOk (run (.ok 5) (.is (-5))) := ⟨.leaf, by kernel_rfl⟩
theorem o5_18 : FtOk (run (.ok 5) (.is (-7))) := ⟨.leaf, by kernel_rfl⟩
theorem o5_20 : FtOk (run (.ok 5) (.is (-9))) := ⟨.leaf, by kernel_rfl⟩
theorem c7 : gB (zcs (-9) 18) (fun y => chkFT (run (.bad 5 4 true) y) .leaf []) = true := by kernel_rfl
theorem c9 : gB (zcs (-9) 18) (fun y => chkFT (run (.bad 5 3 true) y) .leaf []) = true := by kernel_rfl
theorem c11 : gB (zcs (-9) 18) (fun y => chkFT (run (.bad 5 2 true) y) .leaf []) = true := by kernel_rfl
theorem c13 : gB (zcs (-9) 18) (fun y => chkFT (run (.bad 5 1 true) y) .leaf []) = true := by kernel_rfl
theorem c15 : gB (zcs (-9) 18) (fun y => chkFT (run (.bad 5 0 true) y) .leaf []) = true := by kernel_rfl
theorem o16_1 : FtOk (run (.ok 4) (.up 9)) := ⟨.leaf, by kernel_rfl⟩
theorem o16_3 : FtOk (run (.ok 4) (.is (8))) := ⟨.leaf, by kernel_rfl⟩
theorem o16_5 : FtOk (run (.ok 4) (.is (6))) := ⟨.leaf, by kernel_rfl⟩
theorem o16_7 : FtOk (run (.ok 4) (.is (4))) := ⟨.leaf, by kernel_rfl⟩
theorem o16_9 : FtOk (run (.ok 4) (.is (2))) := ⟨.leaf, by kernel_rfl⟩
theorem o16_11 : FtOk (run (.ok 4) (.is (0))) := ⟨.leaf, by kernel_rfl⟩
theorem o16_13 : FtOk (run (.ok 4) (.is (-2))) := ⟨.leaf, by kernel_rfl⟩
theorem o16_15 : FtOk (run (.ok 4) (.is (-4))) := ⟨.leaf, by kernel_rfl⟩
theorem o16_17 : FtOk (run (.ok 4) (.is (-6))) := ⟨.leaf, by kernel_rfl⟩
theorem o16_19 : FtOk (run (.ok 4) (.is (-8))) := ⟨.leaf, by kernel_rfl⟩
theorem c17 : gB (zcs (-9) 18) (fun y => chkFT (run (.bad 4 3 false) y) .leaf []) = true := by kernel_rfl
theorem c19 : gB (zcs (-9) 18) (fun y => chkFT (run (.bad 4 2 false) y) .leaf []) = true := by kernel_rfl
theorem c21 : gB (zcs (-9) 18) (fun y => chkFT (run (.bad 4 1 false) y) .leaf []) = true := by kernel_rfl
theorem c23 : gB (zcs (-9) 18) (fun y => chkFT (run (.bad 4 0 false) y) .leaf []) = true := by kernel_rfl
theorem o25_0 : FtOk (run (.ok 3) (.low (-9))) := ⟨.leaf, by kernel_rfl⟩
theorem o25_2 : FtOk (run (.ok 3) (.is (9))) := ⟨.leaf, by kernel_rfl⟩
theorem o25_4 : FtOk (run (.ok 3) (.is (7))) := ⟨.leaf, by kernel_rfl⟩
theorem o25_6 : FtOk (run (.ok 3) (.is (5))) := ⟨.leaf, by kernel_rfl⟩
theorem o25_8 : FtOk (run (.ok 3) (.is (3))) := ⟨.leaf, by kernel_rfl⟩
theorem o25_10 : FtOk (run (.ok 3) (.is (1))) := ⟨.leaf, by kernel_rfl⟩
theorem o25_12 : FtOk (run (.ok 3) (.is (-1))) := ⟨.leaf, by kernel_rfl⟩
theorem o25_14 : FtOk (run (.ok 3) (.is (-3))) := ⟨.leaf, by kernel_rfl⟩
theorem o25_16 : FtOk (run (.ok 3) (.is (-5))) := ⟨.leaf, by kernel_rfl⟩
theorem o25_18 : FtOk (run (.ok 3) (.is (-7))) := ⟨.leaf, by kernel_rfl⟩
theorem o25_20 : FtOk (run (.ok 3) (.is (-9))) := ⟨.leaf, by kernel_rfl⟩
theorem c27 : gB (zcs (-9) 18) (fun y => chkFT (run (.bad 3 2 true) y) .leaf []) = true := by kernel_rfl
theorem c29 : gB (zcs (-9) 18) (fun y => chkFT (run (.bad 3 1 true) y) .leaf []) = true := by kernel_rfl
theorem c31 : gB (zcs (-9) 18) (fun y => chkFT (run (.bad 3 0 true) y) .leaf []) = true := by kernel_rfl
theorem o32_1 : FtOk (run (.ok 2) (.up 9)) := ⟨.leaf, by kernel_rfl⟩
theorem o32_3 : FtOk (run (.ok 2) (.is (8))) := ⟨.leaf, by kernel_rfl⟩
theorem o32_5 : FtOk (run (.ok 2) (.is (6))) := ⟨.leaf, by kernel_rfl⟩
theorem o32_7 : FtOk (run (.ok 2) (.is (4))) := ⟨.leaf, by kernel_rfl⟩
theorem o32_9 : FtOk (run (.ok 2) (.is (2))) := ⟨.leaf, by kernel_rfl⟩
theorem o32_11 : FtOk (run (.ok 2) (.is (0))) := ⟨.leaf, by kernel_rfl⟩
theorem o32_13 : FtOk (run (.ok 2) (.is (-2))) := ⟨.leaf, by kernel_rfl⟩
theorem o32_15 : FtOk (run (.ok 2) (.is (-4))) := ⟨.leaf, by kernel_rfl⟩
theorem o32_17 : FtOk (run (.ok 2) (.is (-6))) := ⟨.leaf, by kernel_rfl⟩
theorem o32_19 : FtOk (run (.ok 2) (.is (-8))) := ⟨.leaf, by kernel_rfl⟩
theorem c33 : gB (zcs (-9) 18) (fun y => chkFT (run (.bad 2 1 false) y) .leaf []) = true := by kernel_rfl
theorem c35 : gB (zcs (-9) 18) (fun y => chkFT (run (.bad 2 0 false) y) .leaf []) = true := by kernel_rfl
theorem o37_0 : FtOk (run (.ok 1) (.low (-9))) := ⟨.leaf, by kernel_rfl⟩
theorem o37_2 : FtOk (run (.ok 1) (.is (9))) := ⟨.leaf, by kernel_rfl⟩
theorem o37_4 : FtOk (run (.ok 1) (.is (7))) := ⟨.leaf, by kernel_rfl⟩
theorem o37_6 : FtOk (run (.ok 1) (.is (5))) := ⟨.leaf, by kernel_rfl⟩
theorem o37_8 : FtOk (run (.ok 1) (.is (3))) := ⟨.leaf, by kernel_rfl⟩
theorem o37_10 : FtOk (run (.ok 1) (.is (1))) := ⟨.leaf, by kernel_rfl⟩
theorem o37_12 : FtOk (run (.ok 1) (.is (-1))) := ⟨.leaf, by kernel_rfl⟩
theorem o37_14 : FtOk (run (.ok 1) (.is (-3))) := ⟨.leaf, by kernel_rfl⟩
theorem o37_16 : FtOk (run (.ok 1) (.is (-5))) := ⟨.leaf, by kernel_rfl⟩
theorem o37_18 : FtOk (run (.ok 1) (.is (-7))) := ⟨.leaf, by kernel_rfl⟩
theorem o37_20 : FtOk (run (.ok 1) (.is (-9))) := ⟨.leaf, by kernel_rfl⟩
theorem c39 : gB (zcs (-9) 18) (fun y => chkFT (run (.bad 1 0 true) y) .leaf []) = true := by kernel_rfl
end Go.Proofs.Ytnobdifmnoehbaa.fnExactRootAtRuns
