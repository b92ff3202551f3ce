/- Runs of the program at a seat. -/
import Derived.Test.YtnglbchhlpbgkabLogH
namespace Go.Proofs.Ytnglbchhlpbgkab.logDrawn
open Go Go.Eng
set_option linter.unusedVariables false
set_option linter.unusedSectionVars false
set_option linter.unusedSimpArgs false
end Go.Proofs.Ytnglbchhlpbgkab.logDrawn
