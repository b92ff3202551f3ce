/- Runs of the program at a seat. -/
import Derived.Test.YtnglbchhlpbgkaaFnExactMeanSquareP
namespace Go.Proofs.Ytnglbchhlpbgkaa.fnExactMeanSquareRuns
open Go Go.Eng
set_option linter.unusedVariables false
set_option linter.unusedSectionVars false
set_option linter.unusedSimpArgs false
set_option maxRecDepth 100000
theorem o0 : FtOk (run .nil) := ⟨.leaf, by kernel_rfl⟩
theorem o1 : FtOk (run .zero) := ⟨.leaf, by kernel_rfl⟩
theorem o2 : FtOk (run .emp) := ⟨.leaf, by kernel_rfl⟩
theorem o3 : FtOk (run .more) := ⟨.leaf, by kernel_rfl⟩
theorem o4 : FtOk (run .long) := ⟨.leaf, by kernel_rfl⟩
theorem o5 : FtOk (run (.ok 5)) := ⟨.leaf, by kernel_rfl⟩
theorem o6 : FtOk (run (.bad 5 4 false)) := ⟨.leaf, by kernel_rfl⟩
theorem o7 : FtOk (run (.bad 5 4 true)) := ⟨.leaf, by kernel_rfl⟩
theorem o8 : FtOk (run (.bad 5 3 false)) := ⟨.leaf, by kernel_rfl⟩
theorem o9 : FtOk (run (.bad 5 3 true)) := ⟨.leaf, by kernel_rfl⟩
theorem o10 : FtOk (run (.bad 5 2 false)) := ⟨.leaf, by kernel_rfl⟩
theorem o11 : FtOk (run (.bad 5 2 true)) := ⟨.leaf, by kernel_rfl⟩
theorem o12 : FtOk (run (.bad 5 1 false)) := ⟨.leaf, by kernel_rfl⟩
theorem o13 : FtOk (run (.bad 5 1 true)) := ⟨.leaf, by kernel_rfl⟩
theorem o14 : FtOk (run (.bad 5 0 false)) := ⟨.leaf, by kernel_rfl⟩
theorem o15 : FtOk (run (.bad 5 0 true)) := ⟨.leaf, by kernel_rfl⟩
theorem o16 : FtOk (run (.ok 4)) := ⟨.leaf, by kernel_rfl⟩
theorem o17 : FtOk (run (.bad 4 3 false)) := ⟨.leaf, by kernel_rfl⟩
theorem o18 : FtOk (run (.bad 4 3 true)) := ⟨.leaf, by kernel_rfl⟩
theorem o19 : FtOk (run (.bad 4 2 false)) := ⟨.leaf, by kernel_rfl⟩
theorem o20 : FtOk (run (.bad 4 2 true)) := ⟨.leaf, by kernel_rfl⟩
theorem o21 : FtOk (run (.bad 4 1 false)) := ⟨.leaf, by kernel_rfl⟩
theorem o22 : FtOk (run (.bad 4 1 true)) := ⟨.leaf, by kernel_rfl⟩
theorem o23 : FtOk (run (.bad 4 0 false)) := ⟨.leaf, by kernel_rfl⟩
theorem o24 : FtOk (run (.bad 4 0 true)) := ⟨.leaf, by kernel_rfl⟩
theorem o25 : FtOk (run (.ok 3)) := ⟨.leaf, by kernel_rfl⟩
theorem o26 : FtOk (run (.bad 3 2 false)) := ⟨.leaf, by kernel_rfl⟩
theorem o27 : FtOk (run (.bad 3 2 true)) := ⟨.leaf, by kernel_rfl⟩
theorem o28 : FtOk (run (.bad 3 1 false)) := ⟨.leaf, by kernel_rfl⟩
theorem o29 : FtOk (run (.bad 3 1 true)) := ⟨.leaf, by kernel_rfl⟩
theorem o30 : FtOk (run (.bad 3 0 false)) := ⟨.leaf, by kernel_rfl⟩
theorem o31 : FtOk (run (.bad 3 0 true)) := ⟨.leaf, by kernel_rfl⟩
theorem o32 : FtOk (run (.ok 2)) := ⟨.leaf, by kernel_rfl⟩
theorem o33 : FtOk (run (.bad 2 1 false)) := ⟨.leaf, by kernel_rfl⟩
theorem o34 : FtOk (run (.bad 2 1 true)) := ⟨.leaf, by kernel_rfl⟩
theorem o35 : FtOk (run (.bad 2 0 false)) := ⟨.leaf, by kernel_rfl⟩
theorem o36 : FtOk (run (.bad 2 0 true)) := ⟨.leaf, by kernel_rfl⟩
theorem o37 : FtOk (run (.ok 1)) := ⟨.leaf, by kernel_rfl⟩
theorem o38 : FtOk (run (.bad 1 0 false)) := ⟨.leaf, by kernel_rfl⟩
theorem o39 : FtOk (run (.bad 1 0 true)) := ⟨.leaf, by kernel_rfl⟩
end Go.Proofs.Ytnglbchhlpbgkaa.fnExactMeanSquareRuns
