/- Runs of the program at a seat. -/
import Derived.Test.YtnobdifmnoehbaaFnExactRootAtP
namespace Go.Proofs.Ytnobdifmnoehbaa.fnExactRootAtRuns
open Go Go.Eng
set_option linter.unusedVariables false
set_option linter.unusedSectionVars false
set_option linter.unusedSimpArgs false
set_option maxRecDepth 100000
theorem c1 : gB (zcs (-9) 18) (fun y => chkFT (run .zero y) .leaf []) = true := by kernel_rfl
theorem c3 : gB (zcs (-9) 18) (fun y => chkFT (run .more y) .leaf []) = true := by kernel_rfl
theorem o5_0 : FtOk (run (.ok 5) (.low (-9))) := ⟨.leaf, by kernel_rfl⟩
theorem o5_1 : FtOk (run (.ok 5) (.up 9)) := ⟨.leaf, by kernel_rfl⟩
theorem o5_3 : FtOk (run (.ok 5) (.is (8))) := ⟨.leaf, by kernel_rfl⟩
theorem o5_5 : FtOk (run (.ok 5) (.is (6))) := ⟨.leaf, by kernel_rfl⟩
theorem o5_7 : FtOk (run (.ok 5) (.is (4))) := ⟨.leaf, by kernel_rfl⟩
theorem o5_9 : FtOk (run (.ok 5) (.is (2))) := ⟨.leaf, by kernel_rfl⟩
theorem o5_11 : FtOk (run (.ok 5) (.is (0))) := ⟨.leaf, by kernel_rfl⟩
theorem o5_13 : FtOk (run (.ok 5) (.is (-2))) := ⟨.leaf, by kernel_rfl⟩
theorem o5_15 : FtOk (run (.ok 5) (.is (-4))) := ⟨.leaf, by kernel_rfl⟩
theorem o5_17 : FtOk (run (.ok 5) (.is (-6))) := ⟨.leaf, by kernel_rfl⟩
theorem o5_19 : FtOk (run (.ok 5) (.is (-8))) := ⟨.leaf, by kernel_rfl⟩
theorem c6 : gB (zcs (-9) 18) (fun y => chkFT (run (.bad 5 4 false) y) .leaf []) = true := by kernel_rfl
theorem c8 : gB (zcs (-9) 18) (fun y => chkFT (run (.bad 5 3 false) y) .leaf []) = true := by kernel_rfl
theorem c10 : gB (zcs (-9) 18) (fun y => chkFT (run (.bad 5 2 false) y) .leaf []) = true := by kernel_rfl
theorem c12 : gB (zcs (-9) 18) (fun y => chkFT (run (.bad 5 1 false) y) .leaf []) = true := by kernel_rfl
theorem c14 : gB (zcs (-9) 18) (fun y => chkFT (run (.bad 5 0 false) y) .leaf []) = true := by kernel_rfl
theorem o16_0 : FtOk (run (.ok 4) (.low (-9))) := ⟨.leaf, by kernel_rfl⟩
theorem o16_2 : FtOk (run (.ok 4) (.is (9))) := ⟨.leaf, by kernel_rfl⟩
theorem o16_4 : FtOk (run (.ok 4) (.is (7))) := ⟨.leaf, by kernel_rfl⟩
theorem o16_6 : FtOk (run (.ok 4) (.is (5))) := ⟨.leaf, by kernel_rfl⟩
theorem o16_8 : FtOk (run (.ok 4) (.is (3))) := ⟨.leaf, by kernel_rfl⟩
theorem o16_10 : FtOk (run (.ok 4) (.is (1))) := ⟨.leaf, by kernel_rfl⟩
theorem o16_12 : FtOk (run (.ok 4) (.is (-1))) := ⟨.leaf, by kernel_rfl⟩
theorem o16_14 : FtOk (run (.ok 4) (.is (-3))) := ⟨.leaf, by kernel_rfl⟩
theorem o16_16 : FtOk (run (.ok 4) (.is (-5))) := ⟨.leaf, by kernel_rfl⟩
theorem o16_18 : FtOk (run (.ok 4) (.is (-7))) := ⟨.leaf, by kernel_rfl⟩
theorem o16_20 : FtOk (run (.ok 4) (.is (-9))) := ⟨.leaf, by kernel_rfl⟩
theorem c18 : gB (zcs (-9) 18) (fun y => chkFT (run (.bad 4 3 true) y) .leaf []) = true := by kernel_rfl
theorem c20 : gB (zcs (-9) 18) (fun y => chkFT (run (.bad 4 2 true) y) .leaf []) = true := by kernel_rfl
theorem c22 : gB (zcs (-9) 18) (fun y => chkFT (run (.bad 4 1 true) y) .leaf []) = true := by kernel_rfl
theorem c24 : gB (zcs (-9) 18) (fun y => chkFT (run (.bad 4 0 true) y) .leaf []) = true := by kernel_rfl
theorem o25_1 : FtOk (run (.ok 3) (.up 9)) := ⟨.leaf, by kernel_rfl⟩
theorem o25_3 : FtOk (run (.ok 3) (.is (8))) := ⟨.leaf, by kernel_rfl⟩
theorem o25_5 : FtOk (run (.ok 3) (.is (6))) := ⟨.leaf, by kernel_rfl⟩
theorem o25_7 : FtOk (run (.ok 3) (.is (4))) := ⟨.leaf, by kernel_rfl⟩
theorem o25_9 : FtOk (run (.ok 3) (.is (2))) := ⟨.leaf, by kernel_rfl⟩
theorem o25_11 : FtOk (run (.ok 3) (.is (0))) := ⟨.leaf, by kernel_rfl⟩
theorem o25_13 : FtOk (run (.ok 3) (.is (-2))) := ⟨.leaf, by kernel_rfl⟩
theorem o25_15 : FtOk (run (.ok 3) (.is (-4))) := ⟨.leaf, by kernel_rfl⟩
theorem o25_17 : FtOk (run (.ok 3) (.is (-6))) := ⟨.leaf, by kernel_rfl⟩
theorem o25_19 : FtOk (run (.ok 3) (.is (-8))) := ⟨.leaf, by kernel_rfl⟩
theorem c26 : gB (zcs (-9) 18) (fun y => chkFT (run (.bad 3 2 false) y) .leaf []) = true := by kernel_rfl
theorem c28 : gB (zcs (-9) 18) (fun y => chkFT (run (.bad 3 1 false) y) .leaf []) = true := by kernel_rfl
theorem c30 : gB (zcs (-9) 18) (fun y => chkFT (run (.bad 3 0 false) y) .leaf []) = true := by kernel_rfl
theorem o32_0 : FtOk (run (.ok 2) (.low (-9))) := ⟨.leaf, by kernel_rfl⟩
theorem o32_2 : FtOk (run (.ok 2) (.is (9))) := ⟨.leaf, by kernel_rfl⟩
theorem o32_4 : FtOk (run (.ok 2) (.is (7))) := ⟨.leaf, by kernel_rfl⟩
theorem o32_6 : FtOk (run (.ok 2) (.is (5))) := ⟨.leaf, by kernel_rfl⟩
theorem o32_8 : FtOk (run (.ok 2) (.is (3))) := ⟨.leaf, by kernel_rfl⟩
theorem o32_10 : FtOk (run (.ok 2) (.is (1))) := ⟨.leaf, by kernel_rfl⟩
theorem o32_12 : FtOk (run (.ok 2) (.is (-1))) := ⟨.leaf, by kernel_rfl⟩
theorem o32_14 : FtOk (run (.ok 2) (.is (-3))) := ⟨.leaf, by kernel_rfl⟩
theorem o32_16 : FtOk (run (.ok 2) (.is (-5))) := ⟨.leaf, by kernel_rfl⟩
theorem o32_18 : FtOk (run (.ok 2) (.is (-7))) := ⟨.leaf, by kernel_rfl⟩
theorem o32_20 : FtOk (run (.ok 2) (.is (-9))) := ⟨.leaf, by kernel_rfl⟩
theorem c34 : gB (zcs (-9) 18) (fun y => chkFT (run (.bad 2 1 true) y) .leaf []) = true := by kernel_rfl
theorem c36 : gB (zcs (-9) 18) (fun y => chkFT (run (.bad 2 0 true) y) .leaf []) = true := by kernel_rfl
theorem o37_1 : FtOk (run (.ok 1) (.up 9)) := ⟨.leaf, by kernel_rfl⟩
theorem o37_3 : FtOk (run (.ok 1) (.is (8))) := ⟨.leaf, by kernel_rfl⟩
theorem o37_5 : FtOk (run (.ok 1) (.is (6))) := ⟨.leaf, by kernel_rfl⟩
theorem o37_7 : FtOk (run (.ok 1) (.is (4))) := ⟨.leaf, by kernel_rfl⟩
theorem o37_9 : FtOk (run (.ok 1) (.is (2))) := ⟨.leaf, by kernel_rfl⟩
theorem o37_11 : FtOk (run (.ok 1) (.is (0))) := ⟨.leaf, by kernel_rfl⟩
theorem o37_13 : FtOk (run (.ok 1) (.is (-2))) := ⟨.leaf, by kernel_rfl⟩
theorem o37_15 : FtOk (run (.ok 1) (.is (-4))) := ⟨.leaf, by kernel_rfl⟩
theorem o37_17 : FtOk (run (.ok 1) (.is (-6))) := ⟨.leaf, by kernel_rfl⟩
theorem o37_19 : FtOk (run (.ok 1) (.is (-8))) := ⟨.leaf, by kernel_rfl⟩
theorem c38 : gB (zcs (-9) 18) (fun y => chkFT (run (.bad 1 0 false) y) .leaf []) = true := by kernel_rfl
end Go.Proofs.Ytnobdifmnoehbaa.fnExactRootAtRuns
