/- Runs of the program at a seat. -/
import Derived.Test.YthcdiaahpodkoabNumberH
namespace Go.Proofs.Ythcdiaahpodkoab.numberDrawn
open Go Go.Eng
set_option linter.unusedVariables false
set_option linter.unusedSectionVars false
set_option linter.unusedSimpArgs false
set_option maxRecDepth 100000 in
theorem c5 : chkR (anyDrew false ls5) dR (pointQ 3 5) [(7, 5, 5)] = true := by kernel_rfl
set_option maxRecDepth 100000 in
theorem c1 : chkR (anyDrew false ls1) dR (pointQ 3 5) [(7, 1, 1)] = true := by kernel_rfl
end Go.Proofs.Ythcdiaahpodkoab.numberDrawn
