/- Runs of the program at a seat. -/
import Derived.Test.YtnglbchhlpbgkaaFnExactMeanSquareR0
namespace Go.Proofs.Ytnglbchhlpbgkaa.fnExactMeanSquareRuns
open Go Go.Eng
set_option linter.unusedVariables false
set_option linter.unusedSectionVars false
set_option linter.unusedSimpArgs false
set_option maxRecDepth 100000
theorem lcs_eq : lcs 5 = [.nil, .zero, .emp, .more, .long, (.ok 5), (.bad 5 4 false), (.bad 5 4 true), (.bad 5 3 false), (.bad 5 3 true), (.bad 5 2 false), (.bad 5 2 true), (.bad 5 1 false), (.bad 5 1 true), (.bad 5 0 false), (.bad 5 0 true), (.ok 4), (.bad 4 3 false), (.bad 4 3 true), (.bad 4 2 false), (.bad 4 2 true), (.bad 4 1 false), (.bad 4 1 true), (.bad 4 0 false), (.bad 4 0 true), (.ok 3), (.bad 3 2 false), (.bad 3 2 true), (.bad 3 1 false), (.bad 3 1 true), (.bad 3 0 false), (.bad 3 0 true), (.ok 2), (.bad 2 1 false), (.bad 2 1 true), (.bad 2 0 false), (.bad 2 0 true), (.ok 1), (.bad 1 0 false), (.bad 1 0 true)] := by kernel_rfl
theorem rows : ∀ c ∈ lcs 5, FtOk (run c) := by
  rw [lcs_eq]
  exact cm o0 (cm o1 (cm o2 (cm o3 (cm o4 (cm o5 (cm o6 (cm o7 (cm o8 (cm o9 (cm o10 (cm o11 (cm o12 (cm o13 (cm o14 (cm o15 (cm o16 (cm o17 (cm o18 (cm o19 (cm o20 (cm o21 (cm o22 (cm o23 (cm o24 (cm o25 (cm o26 (cm o27 (cm o28 (cm o29 (cm o30 (cm o31 (cm o32 (cm o33 (cm o34 (cm o35 (cm o36 (cm o37 (cm o38 (cm o39 (nm))))))))))))))))))))))))))))))))))))))))
end Go.Proofs.Ytnglbchhlpbgkaa.fnExactMeanSquareRuns
