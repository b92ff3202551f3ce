/- Runs of the program at a seat. -/
import Derived.Test.YtennigkljnfjmaaFnExactRootBackP
namespace Go.Proofs.Ytennigkljnfjmaa.fnExactRootBackRuns
open Go Go.Eng
set_option linter.unusedVariables false
set_option linter.unusedSectionVars false
set_option linter.unusedSimpArgs false
set_option maxRecDepth 100000
theorem p0 : FtOk (run .nil) := ⟨.leaf, by kernel_rfl⟩
theorem p2 : FtOk (run .emp) := ⟨.leaf, by kernel_rfl⟩
theorem p4 : FtOk (run .long) := ⟨.leaf, by kernel_rfl⟩
theorem p7 : FtOk (run (.bad 5 4 true)) := ⟨.leaf, by kernel_rfl⟩
theorem p9 : FtOk (run (.bad 5 3 true)) := ⟨.leaf, by kernel_rfl⟩
theorem p11 : FtOk (run (.bad 5 2 true)) := ⟨.leaf, by kernel_rfl⟩
theorem p13 : FtOk (run (.bad 5 1 true)) := ⟨.leaf, by kernel_rfl⟩
theorem p15 : FtOk (run (.bad 5 0 true)) := ⟨.leaf, by kernel_rfl⟩
theorem p18 : FtOk (run (.bad 4 3 true)) := ⟨.leaf, by kernel_rfl⟩
theorem p20 : FtOk (run (.bad 4 2 true)) := ⟨.leaf, by kernel_rfl⟩
theorem p22 : FtOk (run (.bad 4 1 true)) := ⟨.leaf, by kernel_rfl⟩
theorem p24 : FtOk (run (.bad 4 0 true)) := ⟨.leaf, by kernel_rfl⟩
theorem p27 : FtOk (run (.bad 3 2 true)) := ⟨.leaf, by kernel_rfl⟩
theorem p29 : FtOk (run (.bad 3 1 true)) := ⟨.leaf, by kernel_rfl⟩
theorem p31 : FtOk (run (.bad 3 0 true)) := ⟨.leaf, by kernel_rfl⟩
theorem p34 : FtOk (run (.bad 2 1 true)) := ⟨.leaf, by kernel_rfl⟩
theorem p36 : FtOk (run (.bad 2 0 true)) := ⟨.leaf, by kernel_rfl⟩
theorem p39 : FtOk (run (.bad 1 0 true)) := ⟨.leaf, by kernel_rfl⟩
theorem q1_1 : FtOk (runB 1 (549755813887, 549755813887)) := ⟨.leaf, by kernel_rfl⟩
theorem q1_3 : FtOk (runB 1 (549755813889, 549755813889)) := ⟨.leaf, by kernel_rfl⟩
theorem q2_0 : FtOk (runB 2 (549755812888, 549755813886)) := ⟨(.tri (.mul (.v 0) (.v 1)) 9223372036854774808 9223372036854776808 .leaf .leaf .leaf), by kernel_rfl⟩
theorem q2_2 : FtOk (runB 2 (549755813888, 549755813888)) := ⟨.leaf, by kernel_rfl⟩
theorem q2_4 : FtOk (runB 2 (549755813890, 549755814888)) := ⟨(.tri (.mul (.v 0) (.v 1)) 9223372036854774808 9223372036854776808 .leaf .leaf .leaf), by kernel_rfl⟩
theorem q3_1 : FtOk (runB 3 (549755813887, 549755813887)) := ⟨.leaf, by kernel_rfl⟩
theorem q3_3 : FtOk (runB 3 (549755813889, 549755813889)) := ⟨.leaf, by kernel_rfl⟩
theorem q4_0 : FtOk (runB 4 (549755812888, 549755813886)) := ⟨(.tri (.mul (.v 2) (.v 3)) 9223372036854774808 9223372036854776808 .leaf (.tri (.mul (.v 1) (.v 3)) 9223372036854774808 9223372036854776808 .leaf (.tri (.mul (.v 0) (.v 3)) 9223372036854774808 9223372036854776808 .leaf .leaf .leaf) .leaf) .leaf), by kernel_rfl⟩
theorem q4_2 : FtOk (runB 4 (549755813888, 549755813888)) := ⟨.leaf, by kernel_rfl⟩
theorem q4_4 : FtOk (runB 4 (549755813890, 549755814888)) := ⟨(.tri (.mul (.v 2) (.v 3)) 9223372036854774808 9223372036854776808 .leaf (.tri (.mul (.v 1) (.v 3)) 9223372036854774808 9223372036854776808 .leaf (.tri (.mul (.v 0) (.v 3)) 9223372036854774808 9223372036854776808 .leaf .leaf .leaf) .leaf) .leaf), by kernel_rfl⟩
theorem q5_1 : FtOk (runB 5 (549755813887, 549755813887)) := ⟨.leaf, by kernel_rfl⟩
theorem q5_3 : FtOk (runB 5 (549755813889, 549755813889)) := ⟨.leaf, by kernel_rfl⟩
end Go.Proofs.Ytennigkljnfjmaa.fnExactRootBackRuns
