/- Runs of the program at a seat. -/
import Derived.Test.YtnobdifmnoehbaaFnExactRootFullsP
namespace Go.Proofs.Ytnobdifmnoehbaa.fnExactRootFullsRuns
open Go Go.Eng
set_option linter.unusedVariables false
set_option linter.unusedSectionVars false
set_option linter.unusedSimpArgs false
set_option maxRecDepth 100000
theorem c1 : gB (zcs 1 5) (fun y => chkFT (run .zero y) .leaf []) = true := by kernel_rfl
theorem c3 : gB (zcs 1 5) (fun y => chkFT (run .more y) .leaf []) = true := by kernel_rfl
theorem o5_0 : FtOk (run (.ok 5) (.low 1)) := ⟨.leaf, by kernel_rfl⟩
theorem o5_2 : FtOk (run (.ok 5) (.is (6))) := ⟨.leaf, by kernel_rfl⟩
theorem o5_4 : FtOk (run (.ok 5) (.is (4))) := ⟨.leaf, by kernel_rfl⟩
theorem o5_6 : FtOk (run (.ok 5) (.is (2))) := ⟨.leaf, by kernel_rfl⟩
theorem c6 : gB (zcs 1 5) (fun y => chkFT (run (.bad 5 4 false) y) .leaf []) = true := by kernel_rfl
theorem c8 : gB (zcs 1 5) (fun y => chkFT (run (.bad 5 3 false) y) .leaf []) = true := by kernel_rfl
theorem c10 : gB (zcs 1 5) (fun y => chkFT (run (.bad 5 2 false) y) .leaf []) = true := by kernel_rfl
theorem c12 : gB (zcs 1 5) (fun y => chkFT (run (.bad 5 1 false) y) .leaf []) = true := by kernel_rfl
theorem c14 : gB (zcs 1 5) (fun y => chkFT (run (.bad 5 0 false) y) .leaf []) = true := by kernel_rfl
theorem o16_0 : FtOk (run (.ok 4) (.low 1)) := ⟨.leaf, by kernel_rfl⟩
theorem o16_2 : FtOk (run (.ok 4) (.is (6))) := ⟨.leaf, by kernel_rfl⟩
theorem o16_4 : FtOk (run (.ok 4) (.is (4))) := ⟨.leaf, by kernel_rfl⟩
theorem o16_6 : FtOk (run (.ok 4) (.is (2))) := ⟨.leaf, by kernel_rfl⟩
theorem c17 : gB (zcs 1 5) (fun y => chkFT (run (.bad 4 3 false) y) .leaf []) = true := by kernel_rfl
theorem c19 : gB (zcs 1 5) (fun y => chkFT (run (.bad 4 2 false) y) .leaf []) = true := by kernel_rfl
theorem c21 : gB (zcs 1 5) (fun y => chkFT (run (.bad 4 1 false) y) .leaf []) = true := by kernel_rfl
theorem c23 : gB (zcs 1 5) (fun y => chkFT (run (.bad 4 0 false) y) .leaf []) = true := by kernel_rfl
theorem o25_0 : FtOk (run (.ok 3) (.low 1)) := ⟨.leaf, by kernel_rfl⟩
theorem o25_2 : FtOk (run (.ok 3) (.is (6))) := ⟨.leaf, by kernel_rfl⟩
theorem o25_4 : FtOk (run (.ok 3) (.is (4))) := ⟨.leaf, by kernel_rfl⟩
theorem o25_6 : FtOk (run (.ok 3) (.is (2))) := ⟨.leaf, by kernel_rfl⟩
theorem c26 : gB (zcs 1 5) (fun y => chkFT (run (.bad 3 2 false) y) .leaf []) = true := by kernel_rfl
theorem c28 : gB (zcs 1 5) (fun y => chkFT (run (.bad 3 1 false) y) .leaf []) = true := by kernel_rfl
theorem c30 : gB (zcs 1 5) (fun y => chkFT (run (.bad 3 0 false) y) .leaf []) = true := by kernel_rfl
theorem o32_0 : FtOk (run (.ok 2) (.low 1)) := ⟨.leaf, by kernel_rfl⟩
theorem o32_2 : FtOk (run (.ok 2) (.is (6))) := ⟨.leaf, by kernel_rfl⟩
theorem o32_4 : FtOk (run (.ok 2) (.is (4))) := ⟨.leaf, by kernel_rfl⟩
theorem o32_6 : FtOk (run (.ok 2) (.is (2))) := ⟨.leaf, by kernel_rfl⟩
theorem c33 : gB (zcs 1 5) (fun y => chkFT (run (.bad 2 1 false) y) .leaf []) = true := by kernel_rfl
theorem c35 : gB (zcs 1 5) (fun y => chkFT (run (.bad 2 0 false) y) .leaf []) = true := by kernel_rfl
theorem o37_0 : FtOk (run (.ok 1) (.low 1)) := ⟨.leaf, by kernel_rfl⟩
theorem o37_1 : FtOk (run (.ok 1) (.up 6)) := ⟨.leaf, by kernel_rfl⟩
theorem o37_3 : FtOk (run (.ok 1) (.is (5))) := ⟨.leaf, by kernel_rfl⟩
theorem o37_5 : FtOk (run (.ok 1) (.is (3))) := ⟨.leaf, by kernel_rfl⟩
theorem o37_7 : FtOk (run (.ok 1) (.is (1))) := ⟨.leaf, by kernel_rfl⟩
theorem c39 : gB (zcs 1 5) (fun y => chkFT (run (.bad 1 0 true) y) .leaf []) = true := by kernel_rfl
end Go.Proofs.Ytnobdifmnoehbaa.fnExactRootFullsRuns
