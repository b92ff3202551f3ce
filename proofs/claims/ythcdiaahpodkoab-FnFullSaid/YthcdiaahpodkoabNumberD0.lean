/- Runs of the program at a seat. -/
import Derived.Test.YthcdiaahpodkoabNumberH
namespace Go.Proofs.Ythcdiaahpodkoab.numberDrawn
open Go Go.Eng
set_option linter.unusedVariables false
set_option linter.unusedSectionVars false
set_option linter.unusedSimpArgs false
set_option maxRecDepth 100000 in
theorem c6 : chkR (anyDrew false ls6) dR (pointQ 3 5) [(7, 6, 6)] = true := by kernel_rfl
set_option maxRecDepth 100000 in
theorem c2 : chkR (anyDrew false ls2) dR (pointQ 3 5) [(7, 2, 2)] = true := by kernel_rfl
end Go.Proofs.Ythcdiaahpodkoab.numberDrawn
