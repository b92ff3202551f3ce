/- Runs of the program at a seat. -/
import Derived.Test.YtnobdifmnoehbaaFnExactRootPowersP
namespace Go.Proofs.Ytnobdifmnoehbaa.fnExactRootPowersRuns
open Go Go.Eng
set_option linter.unusedVariables false
set_option linter.unusedSectionVars false
set_option linter.unusedSimpArgs false
set_option maxRecDepth 100000
theorem c0 : gB (zcs 1 5) (fun y => chkFT (run .nil y) .leaf []) = true := by kernel_rfl
theorem c2 : gB (zcs 1 5) (fun y => chkFT (run .emp y) .leaf []) = true := by kernel_rfl
theorem c4 : gB (zcs 1 5) (fun y => chkFT (run .long y) .leaf []) = true := by kernel_rfl
theorem o5_1 : FtOk (run (.ok 5) (.up 6)) := ⟨.leaf, by kernel_rfl⟩
theorem o5_3 : FtOk (run (.ok 5) (.is (5))) := ⟨.leaf, by kernel_rfl⟩
theorem o5_5 : FtOk (run (.ok 5) (.is (3))) := ⟨.leaf, by kernel_rfl⟩
theorem o5_7 : FtOk (run (.ok 5) (.is (1))) := ⟨.leaf, by kernel_rfl⟩
theorem c7 : gB (zcs 1 5) (fun y => chkFT (run (.bad 5 4 true) y) .leaf []) = true := by kernel_rfl
theorem c9 : gB (zcs 1 5) (fun y => chkFT (run (.bad 5 3 true) y) .leaf []) = true := by kernel_rfl
theorem c11 : gB (zcs 1 5) (fun y => chkFT (run (.bad 5 2 true) y) .leaf []) = true := by kernel_rfl
theorem c13 : gB (zcs 1 5) (fun y => chkFT (run (.bad 5 1 true) y) .leaf []) = true := by kernel_rfl
theorem c15 : gB (zcs 1 5) (fun y => chkFT (run (.bad 5 0 true) y) .leaf []) = true := by kernel_rfl
theorem o16_1 : FtOk (run (.ok 4) (.up 6)) := ⟨.leaf, by kernel_rfl⟩
theorem o16_3 : FtOk (run (.ok 4) (.is (5))) := ⟨.leaf, by kernel_rfl⟩
theorem o16_5 : FtOk (run (.ok 4) (.is (3))) := ⟨.leaf, by kernel_rfl⟩
theorem o16_7 : FtOk (run (.ok 4) (.is (1))) := ⟨.leaf, by kernel_rfl⟩
theorem c18 : gB (zcs 1 5) (fun y => chkFT (run (.bad 4 3 true) y) .leaf []) = true := by kernel_rfl
theorem c20 : gB (zcs 1 5) (fun y => chkFT (run (.bad 4 2 true) y) .leaf []) = true := by kernel_rfl
theorem c22 : gB (zcs 1 5) (fun y => chkFT (run (.bad 4 1 true) y) .leaf []) = true := by kernel_rfl
theorem c24 : gB (zcs 1 5) (fun y => chkFT (run (.bad 4 0 true) y) .leaf []) = true := by kernel_rfl
theorem o25_1 : FtOk (run (.ok 3) (.up 6)) := ⟨.leaf, by kernel_rfl⟩
theorem o25_3 : FtOk (run (.ok 3) (.is (5))) := ⟨.leaf, by kernel_rfl⟩
theorem o25_5 : FtOk (run (.ok 3) (.is (3))) := ⟨.leaf, by kernel_rfl⟩
theorem o25_7 : FtOk (run (.ok 3) (.is (1))) := ⟨.leaf, by kernel_rfl⟩
theorem c27 : gB (zcs 1 5) (fun y => chkFT (run (.bad 3 2 true) y) .leaf []) = true := by kernel_rfl
theorem c29 : gB (zcs 1 5) (fun y => chkFT (run (.bad 3 1 true) y) .leaf []) = true := by kernel_rfl
theorem c31 : gB (zcs 1 5) (fun y => chkFT (run (.bad 3 0 true) y) .leaf []) = true := by kernel_rfl
theorem o32_1 : FtOk (run (.ok 2) (.up 6)) := ⟨.leaf, by kernel_rfl⟩
theorem o32_3 : FtOk (run (.ok 2) (.is (5))) := ⟨.leaf, by kernel_rfl⟩
theorem o32_5 : FtOk (run (.ok 2) (.is (3))) := ⟨.leaf, by kernel_rfl⟩
theorem o32_7 : FtOk (run (.ok 2) (.is (1))) := ⟨.leaf, by kernel_rfl⟩
theorem c34 : gB (zcs 1 5) (fun y => chkFT (run (.bad 2 1 true) y) .leaf []) = true := by kernel_rfl
theorem c36 : gB (zcs 1 5) (fun y => chkFT (run (.bad 2 0 true) y) .leaf []) = true := by kernel_rfl
theorem o37_2 : FtOk (run (.ok 1) (.is (6))) := ⟨.leaf, by kernel_rfl⟩
theorem o37_4 : FtOk (run (.ok 1) (.is (4))) := ⟨.leaf, by kernel_rfl⟩
theorem o37_6 : FtOk (run (.ok 1) (.is (2))) := ⟨.leaf, by kernel_rfl⟩
theorem c38 : gB (zcs 1 5) (fun y => chkFT (run (.bad 1 0 false) y) .leaf []) = true := by kernel_rfl
end Go.Proofs.Ytnobdifmnoehbaa.fnExactRootPowersRuns
