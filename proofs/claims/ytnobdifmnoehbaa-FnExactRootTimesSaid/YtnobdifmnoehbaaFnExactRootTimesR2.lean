/- Runs of the program at a seat. -/
import Derived.Test.YtnobdifmnoehbaaFnExactRootTimesP
namespace Go.Proofs.Ytnobdifmnoehbaa.fnExactRootTimesRuns
open Go Go.Eng
set_option linter.unusedVariables false
set_option linter.unusedSectionVars false
set_option linter.unusedSimpArgs false
set_option maxRecDepth 100000
theorem c2 : gB (zcs (-9) 18) (fun y => chkFT (run .emp y) .leaf []) = true := by kernel_rfl
theorem o5_1 : FtOk (run (.ok 5) (.up 9)) := ⟨.leaf, by kernel_rfl⟩
theorem o5_4 : FtOk (run (.ok 5) (.is (7))) := ⟨(.tri (.mul (.c 7) (.v 0)) 9223372036854774808 9223372036854776808 .leaf (.tri (.mul (.c 49) (.v 1)) 9223372036854774808 9223372036854776808 .leaf (.tri (.mul (.c 343) (.v 2)) 9223372036854774808 9223372036854776808 .leaf (.tri (.mul (.c 2401) (.v 3)) 9223372036854774808 9223372036854776808 .leaf (.tri (.mul (.c 16807) (.v 4)) 9223372036854774808 9223372036854776808 .leaf .leaf .leaf) .leaf) .leaf) .leaf) .leaf), by kernel_rfl⟩
theorem o5_8 : FtOk (run (.ok 5) (.is (3))) := ⟨(.tri (.mul (.c 3) (.v 0)) 9223372036854774808 9223372036854776808 .leaf (.tri (.mul (.c 9) (.v 1)) 9223372036854774808 9223372036854776808 .leaf (.tri (.mul (.c 27) (.v 2)) 9223372036854774808 9223372036854776808 .leaf (.tri (.mul (.c 81) (.v 3)) 9223372036854774808 9223372036854776808 .leaf (.tri (.mul (.c 243) (.v 4)) 9223372036854774808 9223372036854776808 .leaf .leaf .leaf) .leaf) .leaf) .leaf) .leaf), by kernel_rfl⟩
theorem o5_12 : FtOk (run (.ok 5) (.is (-1))) := ⟨.leaf, by kernel_rfl⟩
theorem o5_16 : FtOk (run (.ok 5) (.is (-5))) := ⟨(.tri (.neg (.mul (.c 5) (.v 0))) 9223372036854774808 9223372036854776808 .leaf (.tri (.mul (.c 25) (.v 1)) 9223372036854774808 9223372036854776808 .leaf (.tri (.neg (.mul (.c 125) (.v 2))) 9223372036854774808 9223372036854776808 .leaf (.tri (.mul (.c 625) (.v 3)) 9223372036854774808 9223372036854776808 .leaf (.tri (.neg (.mul (.c 3125) (.v 4))) 9223372036854774808 9223372036854776808 .leaf .leaf .leaf) .leaf) .leaf) .leaf) .leaf), by kernel_rfl⟩
theorem o5_20 : FtOk (run (.ok 5) (.is (-9))) := ⟨(.tri (.neg (.mul (.c 9) (.v 0))) 9223372036854774808 9223372036854776808 .leaf (.tri (.mul (.c 81) (.v 1)) 9223372036854774808 9223372036854776808 .leaf (.tri (.neg (.mul (.c 729) (.v 2))) 9223372036854774808 9223372036854776808 .leaf (.tri (.mul (.c 6561) (.v 3)) 9223372036854774808 9223372036854776808 .leaf (.tri (.neg (.mul (.c 59049) (.v 4))) 9223372036854774808 9223372036854776808 .leaf .leaf .leaf) .leaf) .leaf) .leaf) .leaf), by kernel_rfl⟩
theorem c9 : gB (zcs (-9) 18) (fun y => chkFT (run (.bad 5 3 true) y) .leaf []) = true := by kernel_rfl
theorem c13 : gB (zcs (-9) 18) (fun y => chkFT (run (.bad 5 1 true) y) .leaf []) = true := by kernel_rfl
theorem o16_1 : FtOk (run (.ok 4) (.up 9)) := ⟨.leaf, by kernel_rfl⟩
theorem o16_4 : FtOk (run (.ok 4) (.is (7))) := ⟨(.tri (.mul (.c 7) (.v 0)) 9223372036854774808 9223372036854776808 .leaf (.tri (.mul (.c 49) (.v 1)) 9223372036854774808 9223372036854776808 .leaf (.tri (.mul (.c 343) (.v 2)) 9223372036854774808 9223372036854776808 .leaf (.tri (.mul (.c 2401) (.v 3)) 9223372036854774808 9223372036854776808 .leaf .leaf .leaf) .leaf) .leaf) .leaf), by kernel_rfl⟩
theorem o16_8 : FtOk (run (.ok 4) (.is (3))) := ⟨(.tri (.mul (.c 3) (.v 0)) 9223372036854774808 9223372036854776808 .leaf (.tri (.mul (.c 9) (.v 1)) 9223372036854774808 9223372036854776808 .leaf (.tri (.mul (.c 27) (.v 2)) 9223372036854774808 9223372036854776808 .leaf (.tri (.mul (.c 81) (.v 3)) 9223372036854774808 9223372036854776808 .leaf .leaf .leaf) .leaf) .leaf) .leaf), by kernel_rfl⟩
theorem o16_12 : FtOk (run (.ok 4) (.is (-1))) := ⟨.leaf, by kernel_rfl⟩
theorem o16_16 : FtOk (run (.ok 4) (.is (-5))) := ⟨(.tri (.neg (.mul (.c 5) (.v 0))) 9223372036854774808 9223372036854776808 .leaf (.tri (.mul (.c 25) (.v 1)) 9223372036854774808 9223372036854776808 .leaf (.tri (.neg (.mul (.c 125) (.v 2))) 9223372036854774808 9223372036854776808 .leaf (.tri (.mul (.c 625) (.v 3)) 9223372036854774808 9223372036854776808 .leaf .leaf .leaf) .leaf) .leaf) .leaf), by kernel_rfl⟩
theorem o16_20 : FtOk (run (.ok 4) (.is (-9))) := ⟨(.tri (.neg (.mul (.c 9) (.v 0))) 9223372036854774808 9223372036854776808 .leaf (.tri (.mul (.c 81) (.v 1)) 9223372036854774808 9223372036854776808 .leaf (.tri (.neg (.mul (.c 729) (.v 2))) 9223372036854774808 9223372036854776808 .leaf (.tri (.mul (.c 6561) (.v 3)) 9223372036854774808 9223372036854776808 .leaf .leaf .leaf) .leaf) .leaf) .leaf), by kernel_rfl⟩
theorem c20 : gB (zcs (-9) 18) (fun y => chkFT (run (.bad 4 2 true) y) .leaf []) = true := by kernel_rfl
theorem c24 : gB (zcs (-9) 18) (fun y => chkFT (run (.bad 4 0 true) y) .leaf []) = true := by kernel_rfl
theorem o25_4 : FtOk (run (.ok 3) (.is (7))) := ⟨(.tri (.mul (.c 7) (.v 0)) 9223372036854774808 9223372036854776808 .leaf (.tri (.mul (.c 49) (.v 1)) 9223372036854774808 9223372036854776808 .leaf (.tri (.mul (.c 343) (.v 2)) 9223372036854774808 9223372036854776808 .leaf .leaf .leaf) .leaf) .leaf), by kernel_rfl⟩
theorem o25_8 : FtOk (run (.ok 3) (.is (3))) := ⟨(.tri (.mul (.c 3) (.v 0)) 9223372036854774808 9223372036854776808 .leaf (.tri (.mul (.c 9) (.v 1)) 9223372036854774808 9223372036854776808 .leaf (.tri (.mul (.c 27) (.v 2)) 9223372036854774808 9223372036854776808 .leaf .leaf .leaf) .leaf) .leaf), by kernel_rfl⟩
theorem o25_12 : FtOk (run (.ok 3) (.is (-1))) := ⟨.leaf, by kernel_rfl⟩
theorem o25_16 : FtOk (run (.ok 3) (.is (-5))) := ⟨(.tri (.neg (.mul (.c 5) (.v 0))) 9223372036854774808 9223372036854776808 .leaf (.tri (.mul (.c 25) (.v 1)) 9223372036854774808 9223372036854776808 .leaf (.tri (.neg (.mul (.c 125) (.v 2))) 9223372036854774808 9223372036854776808 .leaf .leaf .leaf) .leaf) .leaf), by kernel_rfl⟩
theorem o25_20 : FtOk (run (.ok 3) (.is (-9))) := ⟨(.tri (.neg (.mul (.c 9) (.v 0))) 9223372036854774808 9223372036854776808 .leaf (.tri (.mul (.c 81) (.v 1)) 9223372036854774808 9223372036854776808 .leaf (.tri (.neg (.mul (.c 729) (.v 2))) 9223372036854774808 9223372036854776808 .leaf .leaf .leaf) .leaf) .leaf), by kernel_rfl⟩
theorem c29 : gB (zcs (-9) 18) (fun y => chkFT (run (.bad 3 1 true) y) .leaf []) = true := by kernel_rfl
theorem o32_1 : FtOk (run (.ok 2) (.up 9)) := ⟨.leaf, by kernel_rfl⟩
theorem o32_3 : FtOk (run (.ok 2) (.is (8))) := ⟨(.tri (.mul (.c 8) (.v 0)) 9223372036854774808 9223372036854776808 .leaf (.tri (.mul (.c 64) (.v 1)) 9223372036854774808 9223372036854776808 .leaf .leaf .leaf) .leaf), by kernel_rfl⟩
theorem o32_7 : FtOk (run (.ok 2) (.is (4))) := ⟨(.tri (.mul (.c 4) (.v 0)) 9223372036854774808 9223372036854776808 .leaf (.tri (.mul (.c 16) (.v 1)) 9223372036854774808 9223372036854776808 .leaf .leaf .leaf) .leaf), by kernel_rfl⟩
theorem o32_11 : FtOk (run (.ok 2) (.is (0))) := ⟨.leaf, by kernel_rfl⟩
theorem o32_13 : FtOk (run (.ok 2) (.is (-2))) := ⟨(.tri (.neg (.mul (.c 2) (.v 0))) 9223372036854774808 9223372036854776808 .leaf (.tri (.mul (.c 4) (.v 1)) 9223372036854774808 9223372036854776808 .leaf .leaf .leaf) .leaf), by kernel_rfl⟩
theorem o32_17 : FtOk (run (.ok 2) (.is (-6))) := ⟨(.tri (.neg (.mul (.c 6) (.v 0))) 9223372036854774808 9223372036854776808 .leaf (.tri (.mul (.c 36) (.v 1)) 9223372036854774808 9223372036854776808 .leaf .leaf .leaf) .leaf), by kernel_rfl⟩
theorem c33 : gB (zcs (-9) 18) (fun y => chkFT (run (.bad 2 1 false) y) .leaf []) = true := by kernel_rfl
theorem o37_0 : FtOk (run (.ok 1) (.low (-9))) := ⟨.leaf, by kernel_rfl⟩
theorem o37_3 : FtOk (run (.ok 1) (.is (8))) := ⟨(.tri (.mul (.c 8) (.v 0)) 9223372036854774808 9223372036854776808 .leaf .leaf .leaf), by kernel_rfl⟩
theorem o37_7 : FtOk (run (.ok 1) (.is (4))) := ⟨(.tri (.mul (.c 4) (.v 0)) 9223372036854774808 9223372036854776808 .leaf .leaf .leaf), by kernel_rfl⟩
theorem o37_11 : FtOk (run (.ok 1) (.is (0))) := ⟨.leaf, by kernel_rfl⟩
theorem o37_15 : FtOk (run (.ok 1) (.is (-4))) := ⟨(.tri (.neg (.mul (.c 4) (.v 0))) 9223372036854774808 9223372036854776808 .leaf .leaf .leaf), by kernel_rfl⟩
theorem o37_19 : FtOk (run (.ok 1) (.is (-8))) := ⟨(.tri (.neg (.mul (.c 8) (.v 0))) 9223372036854774808 9223372036854776808 .leaf .leaf .leaf), by kernel_rfl⟩
end Go.Proofs.Ytnobdifmnoehbaa.fnExactRootTimesRuns
