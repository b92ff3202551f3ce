/- Runs of the program at a seat. -/
import Derived.Test.YtnobdifmnoehbaaFnExactRootTimesP
namespace Go.Proofs.Ytnobdifmnoehbaa.fnExactRootTimesRuns
open Go Go.Eng
set_option linter.unusedVariables false
set_option linter.unusedSectionVars false
set_option linter.unusedSimpArgs false
set_option maxRecDepth 100000
theorem c0 : gB (zcs (-9) 18) (fun y => chkFT (run .nil y) .leaf []) = true := by kernel_rfl
theorem c4 : gB (zcs (-9) 18) (fun y => chkFT (run .long y) .leaf []) = true := by kernel_rfl
theorem o5_5 : FtOk (run (.ok 5) (.is (6))) := ⟨(.tri (.mul (.c 6) (.v 0)) 9223372036854774808 9223372036854776808 .leaf (.tri (.mul (.c 36) (.v 1)) 9223372036854774808 9223372036854776808 .leaf (.tri (.mul (.c 216) (.v 2)) 9223372036854774808 9223372036854776808 .leaf (.tri (.mul (.c 1296) (.v 3)) 9223372036854774808 9223372036854776808 .leaf (.tri (.mul (.c 7776) (.v 4)) 9223372036854774808 9223372036854776808 .leaf .leaf .leaf) .leaf) .leaf) .leaf) .leaf), by kernel_rfl⟩
theorem o5_9 : FtOk (run (.ok 5) (.is (2))) := ⟨(.tri (.mul (.c 2) (.v 0)) 9223372036854774808 9223372036854776808 .leaf (.tri (.mul (.c 4) (.v 1)) 9223372036854774808 9223372036854776808 .leaf (.tri (.mul (.c 8) (.v 2)) 9223372036854774808 9223372036854776808 .leaf (.tri (.mul (.c 16) (.v 3)) 9223372036854774808 9223372036854776808 .leaf (.tri (.mul (.c 32) (.v 4)) 9223372036854774808 9223372036854776808 .leaf .leaf .leaf) .leaf) .leaf) .leaf) .leaf), by kernel_rfl⟩
theorem o5_14 : FtOk (run (.ok 5) (.is (-3))) := ⟨(.tri (.neg (.mul (.c 3) (.v 0))) 9223372036854774808 9223372036854776808 .leaf (.tri (.mul (.c 9) (.v 1)) 9223372036854774808 9223372036854776808 .leaf (.tri (.neg (.mul (.c 27) (.v 2))) 9223372036854774808 9223372036854776808 .leaf (.tri (.mul (.c 81) (.v 3)) 9223372036854774808 9223372036854776808 .leaf (.tri (.neg (.mul (.c 243) (.v 4))) 9223372036854774808 9223372036854776808 .leaf .leaf .leaf) .leaf) .leaf) .leaf) .leaf), by kernel_rfl⟩
theorem o5_18 : FtOk (run (.ok 5) (.is (-7))) := ⟨(.tri (.neg (.mul (.c 7) (.v 0))) 9223372036854774808 9223372036854776808 .leaf (.tri (.mul (.c 49) (.v 1)) 9223372036854774808 9223372036854776808 .leaf (.tri (.neg (.mul (.c 343) (.v 2))) 9223372036854774808 9223372036854776808 .leaf (.tri (.mul (.c 2401) (.v 3)) 9223372036854774808 9223372036854776808 .leaf (.tri (.neg (.mul (.c 16807) (.v 4))) 9223372036854774808 9223372036854776808 .leaf .leaf .leaf) .leaf) .leaf) .leaf) .leaf), by kernel_rfl⟩
theorem c7 : gB (zcs (-9) 18) (fun y => chkFT (run (.bad 5 4 true) y) .leaf []) = true := by kernel_rfl
theorem c11 : gB (zcs (-9) 18) (fun y => chkFT (run (.bad 5 2 true) y) .leaf []) = true := by kernel_rfl
theorem c15 : gB (zcs (-9) 18) (fun y => chkFT (run (.bad 5 0 true) y) .leaf []) = true := by kernel_rfl
theorem o16_5 : FtOk (run (.ok 4) (.is (6))) := ⟨(.tri (.mul (.c 6) (.v 0)) 9223372036854774808 9223372036854776808 .leaf (.tri (.mul (.c 36) (.v 1)) 9223372036854774808 9223372036854776808 .leaf (.tri (.mul (.c 216) (.v 2)) 9223372036854774808 9223372036854776808 .leaf (.tri (.mul (.c 1296) (.v 3)) 9223372036854774808 9223372036854776808 .leaf .leaf .leaf) .leaf) .leaf) .leaf), by kernel_rfl⟩
theorem o16_9 : FtOk (run (.ok 4) (.is (2))) := ⟨(.tri (.mul (.c 2) (.v 0)) 9223372036854774808 9223372036854776808 .leaf (.tri (.mul (.c 4) (.v 1)) 9223372036854774808 9223372036854776808 .leaf (.tri (.mul (.c 8) (.v 2)) 9223372036854774808 9223372036854776808 .leaf (.tri (.mul (.c 16) (.v 3)) 9223372036854774808 9223372036854776808 .leaf .leaf .leaf) .leaf) .leaf) .leaf), by kernel_rfl⟩
theorem o16_13 : FtOk (run (.ok 4) (.is (-2))) := ⟨(.tri (.neg (.mul (.c 2) (.v 0))) 9223372036854774808 9223372036854776808 .leaf (.tri (.mul (.c 4) (.v 1)) 9223372036854774808 9223372036854776808 .leaf (.tri (.neg (.mul (.c 8) (.v 2))) 9223372036854774808 9223372036854776808 .leaf (.tri (.mul (.c 16) (.v 3)) 9223372036854774808 9223372036854776808 .leaf .leaf .leaf) .leaf) .leaf) .leaf), by kernel_rfl⟩
theorem o16_17 : FtOk (run (.ok 4) (.is (-6))) := ⟨(.tri (.neg (.mul (.c 6) (.v 0))) 9223372036854774808 9223372036854776808 .leaf (.tri (.mul (.c 36) (.v 1)) 9223372036854774808 9223372036854776808 .leaf (.tri (.neg (.mul (.c 216) (.v 2))) 9223372036854774808 9223372036854776808 .leaf (.tri (.mul (.c 1296) (.v 3)) 9223372036854774808 9223372036854776808 .leaf .leaf .leaf) .leaf) .leaf) .leaf), by kernel_rfl⟩
theorem c17 : gB (zcs (-9) 18) (fun y => chkFT (run (.bad 4 3 false) y) .leaf []) = true := by kernel_rfl
theorem c21 : gB (zcs (-9) 18) (fun y => chkFT (run (.bad 4 1 false) y) .leaf []) = true := by kernel_rfl
theorem o25_0 : FtOk (run (.ok 3) (.low (-9))) := ⟨.leaf, by kernel_rfl⟩
theorem o25_2 : FtOk (run (.ok 3) (.is (9))) := ⟨(.tri (.mul (.c 9) (.v 0)) 9223372036854774808 9223372036854776808 .leaf (.tri (.mul (.c 81) (.v 1)) 9223372036854774808 9223372036854776808 .leaf (.tri (.mul (.c 729) (.v 2)) 9223372036854774808 9223372036854776808 .leaf .leaf .leaf) .leaf) .leaf), by kernel_rfl⟩
theorem o25_6 : FtOk (run (.ok 3) (.is (5))) := ⟨(.tri (.mul (.c 5) (.v 0)) 9223372036854774808 9223372036854776808 .leaf (.tri (.mul (.c 25) (.v 1)) 9223372036854774808 9223372036854776808 .leaf (.tri (.mul (.c 125) (.v 2)) 9223372036854774808 9223372036854776808 .leaf .leaf .leaf) .leaf) .leaf), by kernel_rfl⟩
theorem o25_10 : FtOk (run (.ok 3) (.is (1))) := ⟨.leaf, by kernel_rfl⟩
theorem o25_14 : FtOk (run (.ok 3) (.is (-3))) := ⟨(.tri (.neg (.mul (.c 3) (.v 0))) 9223372036854774808 9223372036854776808 .leaf (.tri (.mul (.c 9) (.v 1)) 9223372036854774808 9223372036854776808 .leaf (.tri (.neg (.mul (.c 27) (.v 2))) 9223372036854774808 9223372036854776808 .leaf .leaf .leaf) .leaf) .leaf), by kernel_rfl⟩
theorem o25_18 : FtOk (run (.ok 3) (.is (-7))) := ⟨(.tri (.neg (.mul (.c 7) (.v 0))) 9223372036854774808 9223372036854776808 .leaf (.tri (.mul (.c 49) (.v 1)) 9223372036854774808 9223372036854776808 .leaf (.tri (.neg (.mul (.c 343) (.v 2))) 9223372036854774808 9223372036854776808 .leaf .leaf .leaf) .leaf) .leaf), by kernel_rfl⟩
theorem c27 : gB (zcs (-9) 18) (fun y => chkFT (run (.bad 3 2 true) y) .leaf []) = true := by kernel_rfl
theorem c31 : gB (zcs (-9) 18) (fun y => chkFT (run (.bad 3 0 true) y) .leaf []) = true := by kernel_rfl
theorem o32_5 : FtOk (run (.ok 2) (.is (6))) := ⟨(.tri (.mul (.c 6) (.v 0)) 9223372036854774808 9223372036854776808 .leaf (.tri (.mul (.c 36) (.v 1)) 9223372036854774808 9223372036854776808 .leaf .leaf .leaf) .leaf), by kernel_rfl⟩
theorem o32_9 : FtOk (run (.ok 2) (.is (2))) := ⟨(.tri (.mul (.c 2) (.v 0)) 9223372036854774808 9223372036854776808 .leaf (.tri (.mul (.c 4) (.v 1)) 9223372036854774808 9223372036854776808 .leaf .leaf .leaf) .leaf), by kernel_rfl⟩
theorem o32_15 : FtOk (run (.ok 2) (.is (-4))) := ⟨(.tri (.neg (.mul (.c 4) (.v 0))) 9223372036854774808 9223372036854776808 .leaf (.tri (.mul (.c 16) (.v 1)) 9223372036854774808 9223372036854776808 .leaf .leaf .leaf) .leaf), by kernel_rfl⟩
theorem o32_19 : FtOk (run (.ok 2) (.is (-8))) := ⟨(.tri (.neg (.mul (.c 8) (.v 0))) 9223372036854774808 9223372036854776808 .leaf (.tri (.mul (.c 64) (.v 1)) 9223372036854774808 9223372036854776808 .leaf .leaf .leaf) .leaf), by kernel_rfl⟩
theorem c35 : gB (zcs (-9) 18) (fun y => chkFT (run (.bad 2 0 false) y) .leaf []) = true := by kernel_rfl
theorem o37_2 : FtOk (run (.ok 1) (.is (9))) := ⟨(.tri (.mul (.c 9) (.v 0)) 9223372036854774808 9223372036854776808 .leaf .leaf .leaf), by kernel_rfl⟩
theorem o37_6 : FtOk (run (.ok 1) (.is (5))) := ⟨(.tri (.mul (.c 5) (.v 0)) 9223372036854774808 9223372036854776808 .leaf .leaf .leaf), by kernel_rfl⟩
theorem o37_10 : FtOk (run (.ok 1) (.is (1))) := ⟨.leaf, by kernel_rfl⟩
theorem o37_14 : FtOk (run (.ok 1) (.is (-3))) := ⟨(.tri (.neg (.mul (.c 3) (.v 0))) 9223372036854774808 9223372036854776808 .leaf .leaf .leaf), by kernel_rfl⟩
theorem o37_18 : FtOk (run (.ok 1) (.is (-7))) := ⟨(.tri (.neg (.mul (.c 7) (.v 0))) 9223372036854774808 9223372036854776808 .leaf .leaf .leaf), by kernel_rfl⟩
theorem c39 : gB (zcs (-9) 18) (fun y => chkFT (run (.bad 1 0 true) y) .leaf []) = true := by kernel_rfl
end Go.Proofs.Ytnobdifmnoehbaa.fnExactRootTimesRuns
