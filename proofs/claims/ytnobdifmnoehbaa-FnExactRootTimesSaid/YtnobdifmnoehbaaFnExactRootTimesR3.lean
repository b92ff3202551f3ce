/- Runs of the program at a seat. -/
import Derived.Test.YtnobdifmnoehbaaFnExactRootTimesP
namespace Go.Proofs.Ytnobdifmnoehbaa.fnExactRootTimesRuns
open Go Go.Eng
set_option linter.unusedVariables false
set_option linter.unusedSectionVars false
set_option linter.unusedSimpArgs false
set_option maxRecDepth 100000
theorem c3 : gB (zcs (-9) 18) (fun y => chkFT (run .more y) .leaf []) = true := by kernel_rfl
theorem o5_2 : FtOk (run (.ok 5) (.is (9))) := ⟨(.tri (.mul (.c 9) (.v 0)) 9223372036854774808 9223372036854776808 .leaf (.tri (.mul (.c 81) (.v 1)) 9223372036854774808 9223372036854776808 .leaf (.tri (.mul (.c 729) (.v 2)) 9223372036854774808 9223372036854776808 .leaf (.tri (.mul (.c 6561) (.v 3)) 9223372036854774808 9223372036854776808 .leaf (.tri (.mul (.c 59049) (.v 4)) 9223372036854774808 9223372036854776808 .leaf .leaf .leaf) .leaf) .leaf) .leaf) .leaf), by kernel_rfl⟩
theorem o5_6 : FtOk (run (.ok 5) (.is (5))) := ⟨(.tri (.mul (.c 5) (.v 0)) 9223372036854774808 9223372036854776808 .leaf (.tri (.mul (.c 25) (.v 1)) 9223372036854774808 9223372036854776808 .leaf (.tri (.mul (.c 125) (.v 2)) 9223372036854774808 9223372036854776808 .leaf (.tri (.mul (.c 625) (.v 3)) 9223372036854774808 9223372036854776808 .leaf (.tri (.mul (.c 3125) (.v 4)) 9223372036854774808 9223372036854776808 .leaf .leaf .leaf) .leaf) .leaf) .leaf) .leaf), by kernel_rfl⟩
theorem o5_10 : FtOk (run (.ok 5) (.is (1))) := ⟨.leaf, by kernel_rfl⟩
theorem o5_13 : FtOk (run (.ok 5) (.is (-2))) := ⟨(.tri (.neg (.mul (.c 2) (.v 0))) 9223372036854774808 9223372036854776808 .leaf (.tri (.mul (.c 4) (.v 1)) 9223372036854774808 9223372036854776808 .leaf (.tri (.neg (.mul (.c 8) (.v 2))) 9223372036854774808 9223372036854776808 .leaf (.tri (.mul (.c 16) (.v 3)) 9223372036854774808 9223372036854776808 .leaf (.tri (.neg (.mul (.c 32) (.v 4))) 9223372036854774808 9223372036854776808 .leaf .leaf .leaf) .leaf) .leaf) .leaf) .leaf), by kernel_rfl⟩
theorem o5_17 : FtOk (run (.ok 5) (.is (-6))) := ⟨(.tri (.neg (.mul (.c 6) (.v 0))) 9223372036854774808 9223372036854776808 .leaf (.tri (.mul (.c 36) (.v 1)) 9223372036854774808 9223372036854776808 .leaf (.tri (.neg (.mul (.c 216) (.v 2))) 9223372036854774808 9223372036854776808 .leaf (.tri (.mul (.c 1296) (.v 3)) 9223372036854774808 9223372036854776808 .leaf (.tri (.neg (.mul (.c 7776) (.v 4))) 9223372036854774808 9223372036854776808 .leaf .leaf .leaf) .leaf) .leaf) .leaf) .leaf), by kernel_rfl⟩
theorem c6 : gB (zcs (-9) 18) (fun y => chkFT (run (.bad 5 4 false) y) .leaf []) = true := by kernel_rfl
theorem c10 : gB (zcs (-9) 18) (fun y => chkFT (run (.bad 5 2 false) y) .leaf []) = true := by kernel_rfl
theorem c14 : gB (zcs (-9) 18) (fun y => chkFT (run (.bad 5 0 false) y) .leaf []) = true := by kernel_rfl
theorem o16_2 : FtOk (run (.ok 4) (.is (9))) := ⟨(.tri (.mul (.c 9) (.v 0)) 9223372036854774808 9223372036854776808 .leaf (.tri (.mul (.c 81) (.v 1)) 9223372036854774808 9223372036854776808 .leaf (.tri (.mul (.c 729) (.v 2)) 9223372036854774808 9223372036854776808 .leaf (.tri (.mul (.c 6561) (.v 3)) 9223372036854774808 9223372036854776808 .leaf .leaf .leaf) .leaf) .leaf) .leaf), by kernel_rfl⟩
theorem o16_6 : FtOk (run (.ok 4) (.is (5))) := ⟨(.tri (.mul (.c 5) (.v 0)) 9223372036854774808 9223372036854776808 .leaf (.tri (.mul (.c 25) (.v 1)) 9223372036854774808 9223372036854776808 .leaf (.tri (.mul (.c 125) (.v 2)) 9223372036854774808 9223372036854776808 .leaf (.tri (.mul (.c 625) (.v 3)) 9223372036854774808 9223372036854776808 .leaf .leaf .leaf) .leaf) .leaf) .leaf), by kernel_rfl⟩
theorem o16_10 : FtOk (run (.ok 4) (.is (1))) := ⟨.leaf, by kernel_rfl⟩
theorem o16_14 : FtOk (run (.ok 4) (.is (-3))) := ⟨(.tri (.neg (.mul (.c 3) (.v 0))) 9223372036854774808 9223372036854776808 .leaf (.tri (.mul (.c 9) (.v 1)) 9223372036854774808 9223372036854776808 .leaf (.tri (.neg (.mul (.c 27) (.v 2))) 9223372036854774808 9223372036854776808 .leaf (.tri (.mul (.c 81) (.v 3)) 9223372036854774808 9223372036854776808 .leaf .leaf .leaf) .leaf) .leaf) .leaf), by kernel_rfl⟩
theorem o16_18 : FtOk (run (.ok 4) (.is (-7))) := ⟨(.tri (.neg (.mul (.c 7) (.v 0))) 9223372036854774808 9223372036854776808 .leaf (.tri (.mul (.c 49) (.v 1)) 9223372036854774808 9223372036854776808 .leaf (.tri (.neg (.mul (.c 343) (.v 2))) 9223372036854774808 9223372036854776808 .leaf (.tri (.mul (.c 2401) (.v 3)) 9223372036854774808 9223372036854776808 .leaf .leaf .leaf) .leaf) .leaf) .leaf), by kernel_rfl⟩
theorem c18 : gB (zcs (-9) 18) (fun y => chkFT (run (.bad 4 3 true) y) .leaf []) = true := by kernel_rfl
theorem c22 : gB (zcs (-9) 18) (fun y => chkFT (run (.bad 4 1 true) y) .leaf []) = true := by kernel_rfl
theorem o25_1 : FtOk (run (.ok 3) (.up 9)) := ⟨.leaf, by kernel_rfl⟩
theorem o25_5 : FtOk (run (.ok 3) (.is (6))) := ⟨(.tri (.mul (.c 6) (.v 0)) 9223372036854774808 9223372036854776808 .leaf (.tri (.mul (.c 36) (.v 1)) 9223372036854774808 9223372036854776808 .leaf (.tri (.mul (.c 216) (.v 2)) 9223372036854774808 9223372036854776808 .leaf .leaf .leaf) .leaf) .leaf), by kernel_rfl⟩
theorem o25_9 : FtOk (run (.ok 3) (.is (2))) := ⟨(.tri (.mul (.c 2) (.v 0)) 9223372036854774808 9223372036854776808 .leaf (.tri (.mul (.c 4) (.v 1)) 9223372036854774808 9223372036854776808 .leaf (.tri (.mul (.c 8) (.v 2)) 9223372036854774808 9223372036854776808 .leaf .leaf .leaf) .leaf) .leaf), by kernel_rfl⟩
theorem o25_13 : FtOk (run (.ok 3) (.is (-2))) := ⟨(.tri (.neg (.mul (.c 2) (.v 0))) 9223372036854774808 9223372036854776808 .leaf (.tri (.mul (.c 4) (.v 1)) 9223372036854774808 9223372036854776808 .leaf (.tri (.neg (.mul (.c 8) (.v 2))) 9223372036854774808 9223372036854776808 .leaf .leaf .leaf) .leaf) .leaf), by kernel_rfl⟩
theorem o25_17 : FtOk (run (.ok 3) (.is (-6))) := ⟨(.tri (.neg (.mul (.c 6) (.v 0))) 9223372036854774808 9223372036854776808 .leaf (.tri (.mul (.c 36) (.v 1)) 9223372036854774808 9223372036854776808 .leaf (.tri (.neg (.mul (.c 216) (.v 2))) 9223372036854774808 9223372036854776808 .leaf .leaf .leaf) .leaf) .leaf), by kernel_rfl⟩
theorem c26 : gB (zcs (-9) 18) (fun y => chkFT (run (.bad 3 2 false) y) .leaf []) = true := by kernel_rfl
theorem c30 : gB (zcs (-9) 18) (fun y => chkFT (run (.bad 3 0 false) y) .leaf []) = true := by kernel_rfl
theorem o32_4 : FtOk (run (.ok 2) (.is (7))) := ⟨(.tri (.mul (.c 7) (.v 0)) 9223372036854774808 9223372036854776808 .leaf (.tri (.mul (.c 49) (.v 1)) 9223372036854774808 9223372036854776808 .leaf .leaf .leaf) .leaf), by kernel_rfl⟩
theorem o32_8 : FtOk (run (.ok 2) (.is (3))) := ⟨(.tri (.mul (.c 3) (.v 0)) 9223372036854774808 9223372036854776808 .leaf (.tri (.mul (.c 9) (.v 1)) 9223372036854774808 9223372036854776808 .leaf .leaf .leaf) .leaf), by kernel_rfl⟩
theorem o32_14 : FtOk (run (.ok 2) (.is (-3))) := ⟨(.tri (.neg (.mul (.c 3) (.v 0))) 9223372036854774808 9223372036854776808 .leaf (.tri (.mul (.c 9) (.v 1)) 9223372036854774808 9223372036854776808 .leaf .leaf .leaf) .leaf), by kernel_rfl⟩
theorem o32_18 : FtOk (run (.ok 2) (.is (-7))) := ⟨(.tri (.neg (.mul (.c 7) (.v 0))) 9223372036854774808 9223372036854776808 .leaf (.tri (.mul (.c 49) (.v 1)) 9223372036854774808 9223372036854776808 .leaf .leaf .leaf) .leaf), by kernel_rfl⟩
theorem c34 : gB (zcs (-9) 18) (fun y => chkFT (run (.bad 2 1 true) y) .leaf []) = true := by kernel_rfl
theorem o37_1 : FtOk (run (.ok 1) (.up 9)) := ⟨.leaf, by kernel_rfl⟩
theorem o37_4 : FtOk (run (.ok 1) (.is (7))) := ⟨(.tri (.mul (.c 7) (.v 0)) 9223372036854774808 9223372036854776808 .leaf .leaf .leaf), by kernel_rfl⟩
theorem o37_8 : FtOk (run (.ok 1) (.is (3))) := ⟨(.tri (.mul (.c 3) (.v 0)) 9223372036854774808 9223372036854776808 .leaf .leaf .leaf), by kernel_rfl⟩
theorem o37_12 : FtOk (run (.ok 1) (.is (-1))) := ⟨.leaf, by kernel_rfl⟩
theorem o37_16 : FtOk (run (.ok 1) (.is (-5))) := ⟨(.tri (.neg (.mul (.c 5) (.v 0))) 9223372036854774808 9223372036854776808 .leaf .leaf .leaf), by kernel_rfl⟩
theorem o37_20 : FtOk (run (.ok 1) (.is (-9))) := ⟨(.tri (.neg (.mul (.c 9) (.v 0))) 9223372036854774808 9223372036854776808 .leaf .leaf .leaf), by kernel_rfl⟩
end Go.Proofs.Ytnobdifmnoehbaa.fnExactRootTimesRuns
