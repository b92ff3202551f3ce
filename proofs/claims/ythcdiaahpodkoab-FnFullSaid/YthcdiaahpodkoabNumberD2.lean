/- Runs of the program at a seat. -/
import Derived.Test.YthcdiaahpodkoabNumberH
namespace Go.Proofs.Ythcdiaahpodkoab.numberDrawn
open Go Go.Eng
set_option linter.unusedVariables false
set_option linter.unusedSectionVars false
set_option linter.unusedSimpArgs false
set_option maxRecDepth 100000 in
theorem c4 : chkR (anyDrew false ls4) dR (pointQ 3 5) [(7, 4, 4)] = true := by kernel_rfl
set_option maxRecDepth 100000 in
theorem c0 : chkR (anyDrew false ls0) dR (pointQ 3 5) [(7, 0, 0)] = true := by kernel_rfl
end Go.Proofs.Ythcdiaahpodkoab.numberDrawn
