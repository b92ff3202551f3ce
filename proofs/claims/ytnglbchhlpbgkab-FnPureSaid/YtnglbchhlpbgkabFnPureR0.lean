/- Runs of the program at a seat. -/
import Derived.Test.YtnglbchhlpbgkabFnPureP
namespace Go.Proofs.Ytnglbchhlpbgkab.fnPureRuns
open Go Go.Eng
set_option linter.unusedVariables false
set_option linter.unusedSectionVars false
set_option linter.unusedSimpArgs false
set_option maxRecDepth 100000
open Go.Proofs.Ytnglbchhlpbgkab.pureDrawn
theorem r_d0 : GoodM Try.prog S0 34 true 0 1000 60 9 d0 := .run ⟨.leaf, by kernel_rfl⟩
theorem r_d3 : GoodM Try.prog S0 34 true 0 1000 60 9 d3 := .part 0 549755813885 549755813891 [(549755813885, 549755813887), (549755813888, 549755813891)] (by decide) (by decide) (by kernel_rfl) (cm (.run ⟨.leaf, by kernel_rfl⟩) (cm (.part 1 549755813885 549755813891 [(549755813885, 549755813887), (549755813888, 549755813891)] (by decide) (by decide) (by kernel_rfl) (cm (.run ⟨.leaf, by kernel_rfl⟩) (cm (.part 2 549755813885 549755813891 [(549755813885, 549755813887), (549755813888, 549755813891)] (by decide) (by decide) (by kernel_rfl) (cm (.run ⟨.leaf, by kernel_rfl⟩) (cm (.run ⟨.leaf, by kernel_rfl⟩) nm))) nm))) nm))
theorem r_d6 : GoodM Try.prog S0 34 true 0 1000 60 9 d6 := .run ⟨.leaf, by kernel_rfl⟩
theorem r_d9 : GoodM Try.prog S0 34 true 0 1000 60 9 d9 := .part 0 549755813885 549755813891 [(549755813885, 549755813887), (549755813888, 549755813891)] (by decide) (by decide) (by kernel_rfl) (cm (.run ⟨.leaf, by kernel_rfl⟩) (cm (.part 1 549755813885 549755813891 [(549755813885, 549755813887), (549755813888, 549755813891)] (by decide) (by decide) (by kernel_rfl) (cm (.run ⟨.leaf, by kernel_rfl⟩) (cm (.part 2 549755813885 549755813891 [(549755813885, 549755813887), (549755813888, 549755813891)] (by decide) (by decide) (by kernel_rfl) (cm (.run ⟨.leaf, by kernel_rfl⟩) (cm (.run ⟨.leaf, by kernel_rfl⟩) nm))) nm))) nm))
theorem r_d12 : GoodM Try.prog S0 34 true 0 1000 60 9 d12 := .run ⟨.leaf, by kernel_rfl⟩
theorem r_d15 : GoodM Try.prog S0 34 true 0 1000 60 9 d15 := .run ⟨.leaf, by kernel_rfl⟩
theorem r_d18 : GoodM Try.prog S0 34 true 0 1000 60 9 d18 := .run ⟨.leaf, by kernel_rfl⟩
theorem r_d21 : GoodM Try.prog S0 34 true 0 1000 60 9 d21 := .run ⟨.leaf, by kernel_rfl⟩
end Go.Proofs.Ytnglbchhlpbgkab.fnPureRuns
