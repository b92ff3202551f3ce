/- Runs of the program at a seat. -/
import Derived.Test.YtnglbchhlpbgkabSquareH
namespace Go.Proofs.Ytnglbchhlpbgkab.squareDrawn
open Go Go.Eng
set_option linter.unusedVariables false
set_option linter.unusedSectionVars false
set_option linter.unusedSimpArgs false
end Go.Proofs.Ytnglbchhlpbgkab.squareDrawn
