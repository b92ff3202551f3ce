/- Runs of the program at a seat. -/
import Derived.Test.YtnglbchhlpbgkabLogH
namespace Go.Proofs.Ytnglbchhlpbgkab.logDrawn
open Go Go.Eng
set_option linter.unusedVariables false
set_option linter.unusedSectionVars false
set_option linter.unusedSimpArgs false
set_option maxRecDepth 100000 in
theorem cp : chkR (anyDrew false ls0) (fun tab => askIn false (dR tab)) (.part 6 fun n => .pts (jsQ 1 1 n) (.two (Nat.add (Nat.mul (Nat.add 1 n) 4096) 12) (.of 4000) (.of 4000))) [] = true := by kernel_rfl
end Go.Proofs.Ytnglbchhlpbgkab.logDrawn
