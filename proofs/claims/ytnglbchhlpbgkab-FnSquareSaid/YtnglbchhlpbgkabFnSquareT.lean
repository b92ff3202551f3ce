/- Runs of the program at a seat. -/
import Derived.Test.YtnglbchhlpbgkabSquareD0
import Derived.Test.YtnglbchhlpbgkabSquareD1
import Derived.Test.YtnglbchhlpbgkabSquareD2
import Derived.Test.YtnglbchhlpbgkabFnSquareR0
import Derived.Test.YtnglbchhlpbgkabFnSquareR1
import Derived.Test.YtnglbchhlpbgkabFnSquareR2
namespace Go.Proofs.Ytnglbchhlpbgkab.fnSquareRuns
open Go Go.Eng
set_option linter.unusedVariables false
set_option linter.unusedSectionVars false
set_option linter.unusedSimpArgs false
open Go.Proofs.Ytnglbchhlpbgkab.squareDrawn
theorem a_ls0 : A ls0 := ⟨r_d0, r_d1, r_d2, r_d3, r_d4, r_d5, r_d6, r_d7, r_d8, r_d9, r_d10, r_d11, r_d12, trivial⟩
theorem n_top : G [] := .drew (.tree _ cp) a_ls0
end Go.Proofs.Ytnglbchhlpbgkab.fnSquareRuns
