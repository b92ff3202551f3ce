/- Runs of the program at a seat. -/
import Derived.Test.YtnglbchhlpbgkabFnPureP
namespace Go.Proofs.Ytnglbchhlpbgkab.fnPureRuns
open Go Go.Eng
set_option linter.unusedVariables false
set_option linter.unusedSectionVars false
set_option linter.unusedSimpArgs false
set_option maxRecDepth 100000
open Go.Proofs.Ytnglbchhlpbgkab.pureDrawn
theorem r_d1 : GoodM Try.prog S0 34 true 0 1000 60 9 d1 := .part 0 549755813885 549755813891 [(549755813885, 549755813887), (549755813888, 549755813891)] (by decide) (by decide) (by kernel_rfl) (cm (.run ⟨.leaf, by kernel_rfl⟩) (cm (.run ⟨.leaf, by kernel_rfl⟩) nm))
theorem r_d4 : GoodM Try.prog S0 34 true 0 1000 60 9 d4 := .part 0 549755813885 549755813891 [(549755813885, 549755813887), (549755813888, 549755813891)] (by decide) (by decide) (by kernel_rfl) (cm (.run ⟨.leaf, by kernel_rfl⟩) (cm (.part 1 549755813885 549755813891 [(549755813885, 549755813887), (549755813888, 549755813891)] (by decide) (by decide) (by kernel_rfl) (cm (.run ⟨.leaf, by kernel_rfl⟩) (cm (.part 2 549755813885 549755813891 [(549755813885, 549755813887), (549755813888, 549755813891)] (by decide) (by decide) (by kernel_rfl) (cm (.run ⟨.leaf, by kernel_rfl⟩) (cm (.part 3 549755813885 549755813891 [(549755813885, 549755813887), (549755813888, 549755813891)] (by decide) (by decide) (by kernel_rfl) (cm (.run ⟨.leaf, by kernel_rfl⟩) (cm (.run ⟨.leaf, by kernel_rfl⟩) nm))) nm))) nm))) nm))
theorem r_d7 : GoodM Try.prog S0 34 true 0 1000 60 9 d7 := .part 0 549755813885 549755813891 [(549755813885, 549755813887), (549755813888, 549755813891)] (by decide) (by decide) (by kernel_rfl) (cm (.run ⟨.leaf, by kernel_rfl⟩) (cm (.run ⟨.leaf, by kernel_rfl⟩) nm))
theorem r_d10 : GoodM Try.prog S0 34 true 0 1000 60 9 d10 := .part 0 549755813885 549755813891 [(549755813885, 549755813887), (549755813888, 549755813891)] (by decide) (by decide) (by kernel_rfl) (cm (.run ⟨.leaf, by kernel_rfl⟩) (cm (.part 1 549755813885 549755813891 [(549755813885, 549755813887), (549755813888, 549755813891)] (by decide) (by decide) (by kernel_rfl) (cm (.run ⟨.leaf, by kernel_rfl⟩) (cm (.part 2 549755813885 549755813891 [(549755813885, 549755813887), (549755813888, 549755813891)] (by decide) (by decide) (by kernel_rfl) (cm (.run ⟨.leaf, by kernel_rfl⟩) (cm (.part 3 549755813885 549755813891 [(549755813885, 549755813887), (549755813888, 549755813891)] (by decide) (by decide) (by kernel_rfl) (cm (.run ⟨.leaf, by kernel_rfl⟩) (cm (.run ⟨.leaf, by kernel_rfl⟩) nm))) nm))) nm))) nm))
theorem r_d13 : GoodM Try.prog S0 34 true 0 1000 60 9 d13 := .run ⟨.leaf, by kernel_rfl⟩
theorem r_d16 : GoodM Try.prog S0 34 true 0 1000 60 9 d16 := .run ⟨.leaf, by kernel_rfl⟩
theorem r_d19 : GoodM Try.prog S0 34 true 0 1000 60 9 d19 := .run ⟨.leaf, by kernel_rfl⟩
theorem r_d22 : GoodM Try.prog S0 34 true 0 1000 60 9 d22 := .run ⟨.leaf, by kernel_rfl⟩
end Go.Proofs.Ytnglbchhlpbgkab.fnPureRuns
