/- Runs of the program at a seat. -/
import Derived.Test.YtnglbchhlpbgkabFnLogP
namespace Go.Proofs.Ytnglbchhlpbgkab.fnLogRuns
open Go Go.Eng
set_option linter.unusedVariables false
set_option linter.unusedSectionVars false
set_option linter.unusedSimpArgs false
set_option maxRecDepth 100000
open Go.Proofs.Ytnglbchhlpbgkab.logDrawn
theorem r_d2 : GoodM Try.prog S0 28 false 0 1000 60 7 d2 := .run ⟨.leaf, by kernel_rfl⟩
theorem r_d6 : GoodM Try.prog S0 28 false 0 1000 60 7 d6 := .run ⟨.leaf, by kernel_rfl⟩
theorem r_d10 : GoodM Try.prog S0 28 false 0 1000 60 7 d10 := .run ⟨.leaf, by kernel_rfl⟩
theorem r_d14 : GoodM Try.prog S0 28 false 0 1000 60 7 d14 := .run ⟨.leaf, by kernel_rfl⟩
theorem r_d18 : GoodM Try.prog S0 28 false 0 1000 60 7 d18 := .run ⟨.leaf, by kernel_rfl⟩
theorem r_d22 : GoodM Try.prog S0 28 false 0 1000 60 7 d22 := .run ⟨.leaf, by kernel_rfl⟩
theorem r_d26 : GoodM Try.prog S0 28 false 0 1000 60 7 d26 := .run ⟨.leaf, by kernel_rfl⟩
theorem r_d30 : GoodM Try.prog S0 28 false 0 1000 60 7 d30 := .run ⟨.leaf, by kernel_rfl⟩
theorem r_d34 : GoodM Try.prog S0 28 false 0 1000 60 7 d34 := .run ⟨.leaf, by kernel_rfl⟩
theorem r_d38 : GoodM Try.prog S0 28 false 0 1000 60 7 d38 := .run ⟨.leaf, by kernel_rfl⟩
theorem r_d42 : GoodM Try.prog S0 28 false 0 1000 60 7 d42 := .run ⟨.leaf, by kernel_rfl⟩
theorem r_d46 : GoodM Try.prog S0 28 false 0 1000 60 7 d46 := .run ⟨.leaf, by kernel_rfl⟩
theorem r_d50 : GoodM Try.prog S0 28 false 0 1000 60 7 d50 := .run ⟨.leaf, by kernel_rfl⟩
theorem r_d54 : GoodM Try.prog S0 28 false 0 1000 60 7 d54 := .run ⟨.leaf, by kernel_rfl⟩
theorem r_d58 : GoodM Try.prog S0 28 false 0 1000 60 7 d58 := .run ⟨.leaf, by kernel_rfl⟩
theorem r_d62 : GoodM Try.prog S0 28 false 0 1000 60 7 d62 := .run ⟨.leaf, by kernel_rfl⟩
theorem r_d66 : GoodM Try.prog S0 28 false 0 1000 60 7 d66 := .run ⟨.leaf, by kernel_rfl⟩
theorem r_d70 : GoodM Try.prog S0 28 false 0 1000 60 7 d70 := .run ⟨.leaf, by kernel_rfl⟩
theorem r_d74 : GoodM Try.prog S0 28 false 0 1000 60 7 d74 := .run ⟨.leaf, by kernel_rfl⟩
end Go.Proofs.Ytnglbchhlpbgkab.fnLogRuns
