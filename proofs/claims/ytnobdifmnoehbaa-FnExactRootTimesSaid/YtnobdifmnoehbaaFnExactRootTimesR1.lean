/- Runs of the program at a seat. -/
import Derived.Test.YtnobdifmnoehbaaFnExactRootTimesP
namespace Go.Proofs.Ytnobdifmnoehbaa.fnExactRootTimesRuns
open Go Go.Eng
set_option linter.unusedVariables false
set_option linter.unusedSectionVars false
set_option linter.unusedSimpArgs false
set_option maxRecDepth 100000
theorem c1 : gB (zcs (-9) 18) (fun y => chkFT (run .zero y) .leaf []) = true := by kernel_rfl
theorem o5_0 : FtOk (run (.ok 5) (.low (-9))) := ⟨.leaf, by kernel_rfl⟩
theorem o5_3 : FtOk (run (.ok 5) (.is (8))) := ⟨(.tri (.mul (.c 8) (.v 0)) 9223372036854774808 9223372036854776808 .leaf (.tri (.mul (.c 64) (.v 1)) 9223372036854774808 9223372036854776808 .leaf (.tri (.mul (.c 512) (.v 2)) 9223372036854774808 9223372036854776808 .leaf (.tri (.mul (.c 4096) (.v 3)) 9223372036854774808 9223372036854776808 .leaf (.tri (.mul (.c 32768) (.v 4)) 9223372036854774808 9223372036854776808 .leaf .leaf .leaf) .leaf) .leaf) .leaf) .leaf), by kernel_rfl⟩
theorem o5_7 : FtOk (run (.ok 5) (.is (4))) := ⟨(.tri (.mul (.c 4) (.v 0)) 9223372036854774808 9223372036854776808 .leaf (.tri (.mul (.c 16) (.v 1)) 9223372036854774808 9223372036854776808 .leaf (.tri (.mul (.c 64) (.v 2)) 9223372036854774808 9223372036854776808 .leaf (.tri (.mul (.c 256) (.v 3)) 9223372036854774808 9223372036854776808 .leaf (.tri (.mul (.c 1024) (.v 4)) 9223372036854774808 9223372036854776808 .leaf .leaf .leaf) .leaf) .leaf) .leaf) .leaf), by kernel_rfl⟩
theorem o5_11 : FtOk (run (.ok 5) (.is (0))) := ⟨.leaf, by kernel_rfl⟩
theorem o5_15 : FtOk (run (.ok 5) (.is (-4))) := ⟨(.tri (.neg (.mul (.c 4) (.v 0))) 9223372036854774808 9223372036854776808 .leaf (.tri (.mul (.c 16) (.v 1)) 9223372036854774808 9223372036854776808 .leaf (.tri (.neg (.mul (.c 64) (.v 2))) 9223372036854774808 9223372036854776808 .leaf (.tri (.mul (.c 256) (.v 3)) 9223372036854774808 9223372036854776808 .leaf (.tri (.neg (.mul (.c 1024) (.v 4))) 9223372036854774808 9223372036854776808 .leaf .leaf .leaf) .leaf) .leaf) .leaf) .leaf), by kernel_rfl⟩
theorem o5_19 : FtOk (run (.ok 5) (.is (-8))) := ⟨(.tri (.neg (.mul (.c 8) (.v 0))) 9223372036854774808 9223372036854776808 .leaf (.tri (.mul (.c 64) (.v 1)) 9223372036854774808 9223372036854776808 .leaf (.tri (.neg (.mul (.c 512) (.v 2))) 9223372036854774808 9223372036854776808 .leaf (.tri (.mul (.c 4096) (.v 3)) 9223372036854774808 9223372036854776808 .leaf (.tri (.neg (.mul (.c 32768) (.v 4))) 9223372036854774808 9223372036854776808 .leaf .leaf .leaf) .leaf) .leaf) .leaf) .leaf), by kernel_rfl⟩
theorem c8 : gB (zcs (-9) 18) (fun y => chkFT (run (.bad 5 3 false) y) .leaf []) = true := by kernel_rfl
theorem c12 : gB (zcs (-9) 18) (fun y => chkFT (run (.bad 5 1 false) y) .leaf []) = true := by kernel_rfl
theorem o16_0 : FtOk (run (.ok 4) (.low (-9))) := ⟨.leaf, by kernel_rfl⟩
theorem o16_3 : FtOk (run (.ok 4) (.is (8))) := ⟨(.tri (.mul (.c 8) (.v 0)) 9223372036854774808 9223372036854776808 .leaf (.tri (.mul (.c 64) (.v 1)) 9223372036854774808 9223372036854776808 .leaf (.tri (.mul (.c 512) (.v 2)) 9223372036854774808 9223372036854776808 .leaf (.tri (.mul (.c 4096) (.v 3)) 9223372036854774808 9223372036854776808 .leaf .leaf .leaf) .leaf) .leaf) .leaf), by kernel_rfl⟩
theorem o16_7 : FtOk (run (.ok 4) (.is (4))) := ⟨(.tri (.mul (.c 4) (.v 0)) 9223372036854774808 9223372036854776808 .leaf (.tri (.mul (.c 16) (.v 1)) 9223372036854774808 9223372036854776808 .leaf (.tri (.mul (.c 64) (.v 2)) 9223372036854774808 9223372036854776808 .leaf (.tri (.mul (.c 256) (.v 3)) 9223372036854774808 9223372036854776808 .leaf .leaf .leaf) .leaf) .leaf) .leaf), by kernel_rfl⟩
theorem o16_11 : FtOk (run (.ok 4) (.is (0))) := ⟨.leaf, by kernel_rfl⟩
theorem o16_15 : FtOk (run (.ok 4) (.is (-4))) := ⟨(.tri (.neg (.mul (.c 4) (.v 0))) 9223372036854774808 9223372036854776808 .leaf (.tri (.mul (.c 16) (.v 1)) 9223372036854774808 9223372036854776808 .leaf (.tri (.neg (.mul (.c 64) (.v 2))) 9223372036854774808 9223372036854776808 .leaf (.tri (.mul (.c 256) (.v 3)) 9223372036854774808 9223372036854776808 .leaf .leaf .leaf) .leaf) .leaf) .leaf), by kernel_rfl⟩
theorem o16_19 : FtOk (run (.ok 4) (.is (-8))) := ⟨(.tri (.neg (.mul (.c 8) (.v 0))) 9223372036854774808 9223372036854776808 .leaf (.tri (.mul (.c 64) (.v 1)) 9223372036854774808 9223372036854776808 .leaf (.tri (.neg (.mul (.c 512) (.v 2))) 9223372036854774808 9223372036854776808 .leaf (.tri (.mul (.c 4096) (.v 3)) 9223372036854774808 9223372036854776808 .leaf .leaf .leaf) .leaf) .leaf) .leaf), by kernel_rfl⟩
theorem c19 : gB (zcs (-9) 18) (fun y => chkFT (run (.bad 4 2 false) y) .leaf []) = true := by kernel_rfl
theorem c23 : gB (zcs (-9) 18) (fun y => chkFT (run (.bad 4 0 false) y) .leaf []) = true := by kernel_rfl
theorem o25_3 : FtOk (run (.ok 3) (.is (8))) := ⟨(.tri (.mul (.c 8) (.v 0)) 9223372036854774808 9223372036854776808 .leaf (.tri (.mul (.c 64) (.v 1)) 9223372036854774808 9223372036854776808 .leaf (.tri (.mul (.c 512) (.v 2)) 9223372036854774808 9223372036854776808 .leaf .leaf .leaf) .leaf) .leaf), by kernel_rfl⟩
theorem o25_7 : FtOk (run (.ok 3) (.is (4))) := ⟨(.tri (.mul (.c 4) (.v 0)) 9223372036854774808 9223372036854776808 .leaf (.tri (.mul (.c 16) (.v 1)) 9223372036854774808 9223372036854776808 .leaf (.tri (.mul (.c 64) (.v 2)) 9223372036854774808 9223372036854776808 .leaf .leaf .leaf) .leaf) .leaf), by kernel_rfl⟩
theorem o25_11 : FtOk (run (.ok 3) (.is (0))) := ⟨.leaf, by kernel_rfl⟩
theorem o25_15 : FtOk (run (.ok 3) (.is (-4))) := ⟨(.tri (.neg (.mul (.c 4) (.v 0))) 9223372036854774808 9223372036854776808 .leaf (.tri (.mul (.c 16) (.v 1)) 9223372036854774808 9223372036854776808 .leaf (.tri (.neg (.mul (.c 64) (.v 2))) 9223372036854774808 9223372036854776808 .leaf .leaf .leaf) .leaf) .leaf), by kernel_rfl⟩
theorem o25_19 : FtOk (run (.ok 3) (.is (-8))) := ⟨(.tri (.neg (.mul (.c 8) (.v 0))) 9223372036854774808 9223372036854776808 .leaf (.tri (.mul (.c 64) (.v 1)) 9223372036854774808 9223372036854776808 .leaf (.tri (.neg (.mul (.c 512) (.v 2))) 9223372036854774808 9223372036854776808 .leaf .leaf .leaf) .leaf) .leaf), by kernel_rfl⟩
theorem c28 : gB (zcs (-9) 18) (fun y => chkFT (run (.bad 3 1 false) y) .leaf []) = true := by kernel_rfl
theorem o32_0 : FtOk (run (.ok 2) (.low (-9))) := ⟨.leaf, by kernel_rfl⟩
theorem o32_2 : FtOk (run (.ok 2) (.is (9))) := ⟨(.tri (.mul (.c 9) (.v 0)) 9223372036854774808 9223372036854776808 .leaf (.tri (.mul (.c 81) (.v 1)) 9223372036854774808 9223372036854776808 .leaf .leaf .leaf) .leaf), by kernel_rfl⟩
theorem o32_6 : FtOk (run (.ok 2) (.is (5))) := ⟨(.tri (.mul (.c 5) (.v 0)) 9223372036854774808 9223372036854776808 .leaf (.tri (.mul (.c 25) (.v 1)) 9223372036854774808 9223372036854776808 .leaf .leaf .leaf) .leaf), by kernel_rfl⟩
theorem o32_10 : FtOk (run (.ok 2) (.is (1))) := ⟨.leaf, by kernel_rfl⟩
theorem o32_12 : FtOk (run (.ok 2) (.is (-1))) := ⟨.leaf, by kernel_rfl⟩
theorem o32_16 : FtOk (run (.ok 2) (.is (-5))) := ⟨(.tri (.neg (.mul (.c 5) (.v 0))) 9223372036854774808 9223372036854776808 .leaf (.tri (.mul (.c 25) (.v 1)) 9223372036854774808 9223372036854776808 .leaf .leaf .leaf) .leaf), by kernel_rfl⟩
theorem o32_20 : FtOk (run (.ok 2) (.is (-9))) := ⟨(.tri (.neg (.mul (.c 9) (.v 0))) 9223372036854774808 9223372036854776808 .leaf (.tri (.mul (.c 81) (.v 1)) 9223372036854774808 9223372036854776808 .leaf .leaf .leaf) .leaf), by kernel_rfl⟩
theorem c36 : gB (zcs (-9) 18) (fun y => chkFT (run (.bad 2 0 true) y) .leaf []) = true := by kernel_rfl
theorem o37_5 : FtOk (run (.ok 1) (.is (6))) := ⟨(.tri (.mul (.c 6) (.v 0)) 9223372036854774808 9223372036854776808 .leaf .leaf .leaf), by kernel_rfl⟩
theorem o37_9 : FtOk (run (.ok 1) (.is (2))) := ⟨(.tri (.mul (.c 2) (.v 0)) 9223372036854774808 9223372036854776808 .leaf .leaf .leaf), by kernel_rfl⟩
theorem o37_13 : FtOk (run (.ok 1) (.is (-2))) := ⟨(.tri (.neg (.mul (.c 2) (.v 0))) 9223372036854774808 9223372036854776808 .leaf .leaf .leaf), by kernel_rfl⟩
theorem o37_17 : FtOk (run (.ok 1) (.is (-6))) := ⟨(.tri (.neg (.mul (.c 6) (.v 0))) 9223372036854774808 9223372036854776808 .leaf .leaf .leaf), by kernel_rfl⟩
theorem c38 : gB (zcs (-9) 18) (fun y => chkFT (run (.bad 1 0 false) y) .leaf []) = true := by kernel_rfl
end Go.Proofs.Ytnobdifmnoehbaa.fnExactRootTimesRuns
