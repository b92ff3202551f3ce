/- Runs of the program at a seat. -/
import Derived.Test.YtennigkljnfjmaaFnExactRootBackP
namespace Go.Proofs.Ytennigkljnfjmaa.fnExactRootBackRuns
open Go Go.Eng
set_option linter.unusedVariables false
set_option linter.unusedSectionVars false
set_option linter.unusedSimpArgs false
set_option maxRecDepth 100000
theorem p1 : FtOk (run .zero) := ⟨.leaf, by kernel_rfl⟩
theorem p3 : FtOk (run .more) := ⟨.leaf, by kernel_rfl⟩
theorem p6 : FtOk (run (.bad 5 4 false)) := ⟨.leaf, by kernel_rfl⟩
theorem p8 : FtOk (run (.bad 5 3 false)) := ⟨.leaf, by kernel_rfl⟩
theorem p10 : FtOk (run (.bad 5 2 false)) := ⟨.leaf, by kernel_rfl⟩
theorem p12 : FtOk (run (.bad 5 1 false)) := ⟨.leaf, by kernel_rfl⟩
theorem p14 : FtOk (run (.bad 5 0 false)) := ⟨.leaf, by kernel_rfl⟩
theorem p17 : FtOk (run (.bad 4 3 false)) := ⟨.leaf, by kernel_rfl⟩
theorem p19 : FtOk (run (.bad 4 2 false)) := ⟨.leaf, by kernel_rfl⟩
theorem p21 : FtOk (run (.bad 4 1 false)) := ⟨.leaf, by kernel_rfl⟩
theorem p23 : FtOk (run (.bad 4 0 false)) := ⟨.leaf, by kernel_rfl⟩
theorem p26 : FtOk (run (.bad 3 2 false)) := ⟨.leaf, by kernel_rfl⟩
theorem p28 : FtOk (run (.bad 3 1 false)) := ⟨.leaf, by kernel_rfl⟩
theorem p30 : FtOk (run (.bad 3 0 false)) := ⟨.leaf, by kernel_rfl⟩
theorem p33 : FtOk (run (.bad 2 1 false)) := ⟨.leaf, by kernel_rfl⟩
theorem p35 : FtOk (run (.bad 2 0 false)) := ⟨.leaf, by kernel_rfl⟩
theorem p38 : FtOk (run (.bad 1 0 false)) := ⟨.leaf, by kernel_rfl⟩
theorem q1_0 : FtOk (runB 1 (549755812888, 549755813886)) := ⟨.leaf, by kernel_rfl⟩
theorem q1_2 : FtOk (runB 1 (549755813888, 549755813888)) := ⟨.leaf, by kernel_rfl⟩
theorem q1_4 : FtOk (runB 1 (549755813890, 549755814888)) := ⟨.leaf, by kernel_rfl⟩
theorem q2_1 : FtOk (runB 2 (549755813887, 549755813887)) := ⟨.leaf, by kernel_rfl⟩
theorem q2_3 : FtOk (runB 2 (549755813889, 549755813889)) := ⟨.leaf, by kernel_rfl⟩
theorem q3_0 : FtOk (runB 3 (549755812888, 549755813886)) := ⟨(.tri (.mul (.v 1) (.v 2)) 9223372036854774808 9223372036854776808 .leaf (.tri (.mul (.v 0) (.v 2)) 9223372036854774808 9223372036854776808 .leaf .leaf .leaf) .leaf), by kernel_rfl⟩
theorem q3_2 : FtOk (runB 3 (549755813888, 549755813888)) := ⟨.leaf, by kernel_rfl⟩
theorem q3_4 : FtOk (runB 3 (549755813890, 549755814888)) := ⟨(.tri (.mul (.v 1) (.v 2)) 9223372036854774808 9223372036854776808 .leaf (.tri (.mul (.v 0) (.v 2)) 9223372036854774808 9223372036854776808 .leaf .leaf .leaf) .leaf), by kernel_rfl⟩
theorem q4_1 : FtOk (runB 4 (549755813887, 549755813887)) := ⟨.leaf, by kernel_rfl⟩
theorem q4_3 : FtOk (runB 4 (549755813889, 549755813889)) := ⟨.leaf, by kernel_rfl⟩
theorem q5_0 : FtOk (runB 5 (549755812888, 549755813886)) := ⟨(.tri (.mul (.v 3) (.v 4)) 9223372036854774808 9223372036854776808 .leaf (.tri (.mul (.v 2) (.v 4)) 9223372036854774808 9223372036854776808 .leaf (.tri (.mul (.v 1) (.v 4)) 9223372036854774808 9223372036854776808 .leaf (.tri (.mul (.v 0) (.v 4)) 9223372036854774808 9223372036854776808 .leaf .leaf .leaf) .leaf) .leaf) .leaf), by kernel_rfl⟩
theorem q5_2 : FtOk (runB 5 (549755813888, 549755813888)) := ⟨.leaf, by kernel_rfl⟩
theorem q5_4 : FtOk (runB 5 (549755813890, 549755814888)) := ⟨(.tri (.mul (.v 3) (.v 4)) 9223372036854774808 9223372036854776808 .leaf (.tri (.mul (.v 2) (.v 4)) 9223372036854774808 9223372036854776808 .leaf (.tri (.mul (.v 1) (.v 4)) 9223372036854774808 9223372036854776808 .leaf (.tri (.mul (.v 0) (.v 4)) 9223372036854774808 9223372036854776808 .leaf .leaf .leaf) .leaf) .leaf) .leaf), by kernel_rfl⟩
end Go.Proofs.Ytennigkljnfjmaa.fnExactRootBackRuns
