/- Runs of the program at a seat. -/
import Derived.Test.YtnglbchhlpbgkabFnLogP
namespace Go.Proofs.Ytnglbchhlpbgkab.fnLogRuns
open Go Go.Eng
set_option linter.unusedVariables false
set_option linter.unusedSectionVars false
set_option linter.unusedSimpArgs false
set_option maxRecDepth 100000
open Go.Proofs.Ytnglbchhlpbgkab.logDrawn
theorem r_d0 : GoodM Try.prog S0 28 false 0 1000 60 7 d0 := .run ⟨.leaf, by kernel_rfl⟩
theorem r_d4 : GoodM Try.prog S0 28 false 0 1000 60 7 d4 := .run ⟨.leaf, by kernel_rfl⟩
theorem r_d8 : GoodM Try.prog S0 28 false 0 1000 60 7 d8 := .run ⟨.leaf, by kernel_rfl⟩
theorem r_d12 : GoodM Try.prog S0 28 false 0 1000 60 7 d12 := .run ⟨.leaf, by kernel_rfl⟩
theorem r_d16 : GoodM Try.prog S0 28 false 0 1000 60 7 d16 := .run ⟨.leaf, by kernel_rfl⟩
theorem r_d20 : GoodM Try.prog S0 28 false 0 1000 60 7 d20 := .run ⟨.leaf, by kernel_rfl⟩
theorem r_d24 : GoodM Try.prog S0 28 false 0 1000 60 7 d24 := .run ⟨.leaf, by kernel_rfl⟩
theorem r_d28 : GoodM Try.prog S0 28 false 0 1000 60 7 d28 := .run ⟨.leaf, by kernel_rfl⟩
theorem r_d32 : GoodM Try.prog S0 28 false 0 1000 60 7 d32 := .run ⟨.leaf, by kernel_rfl⟩
theorem r_d36 : GoodM Try.prog S0 28 false 0 1000 60 7 d36 := .run ⟨.leaf, by kernel_rfl⟩
theorem r_d40 : GoodM Try.prog S0 28 false 0 1000 60 7 d40 := .run ⟨.leaf, by kernel_rfl⟩
theorem r_d44 : GoodM Try.prog S0 28 false 0 1000 60 7 d44 := .run ⟨.leaf, by kernel_rfl⟩
theorem r_d48 : GoodM Try.prog S0 28 false 0 1000 60 7 d48 := .run ⟨.leaf, by kernel_rfl⟩
theorem r_d52 : GoodM Try.prog S0 28 false 0 1000 60 7 d52 := .run ⟨.leaf, by kernel_rfl⟩
theorem r_d56 : GoodM Try.prog S0 28 false 0 1000 60 7 d56 := .run ⟨.leaf, by kernel_rfl⟩
theorem r_d60 : GoodM Try.prog S0 28 false 0 1000 60 7 d60 := .run ⟨.leaf, by kernel_rfl⟩
theorem r_d64 : GoodM Try.prog S0 28 false 0 1000 60 7 d64 := .run ⟨.leaf, by kernel_rfl⟩
theorem r_d68 : GoodM Try.prog S0 28 false 0 1000 60 7 d68 := .run ⟨.leaf, by kernel_rfl⟩
theorem r_d72 : GoodM Try.prog S0 28 false 0 1000 60 7 d72 := .run ⟨.leaf, by kernel_rfl⟩
theorem r_d76 : GoodM Try.prog S0 28 false 0 1000 60 7 d76 := .run ⟨.leaf, by kernel_rfl⟩
end Go.Proofs.Ytnglbchhlpbgkab.fnLogRuns
