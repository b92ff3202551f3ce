/- Runs of the program at a seat. -/
import Derived.Test.YthcdiaahpodkoacFnSumOfP
namespace Go.Proofs.Ythcdiaahpodkoac.fnSumOfRuns
open Go Go.Eng
set_option linter.unusedVariables false
set_option linter.unusedSectionVars false
set_option linter.unusedSimpArgs false
set_option maxRecDepth 100000 in
theorem r_d0 : run Go.Proofs.Ythcdiaahpodkoac.sumofDrawn.d0 = true := by kernel_rfl
set_option maxRecDepth 100000 in
theorem r_d4 : run Go.Proofs.Ythcdiaahpodkoac.sumofDrawn.d4 = true := by kernel_rfl
set_option maxRecDepth 100000 in
theorem r_d8 : run Go.Proofs.Ythcdiaahpodkoac.sumofDrawn.d8 = true := by kernel_rfl
set_option maxRecDepth 100000 in
theorem r_d12 : run Go.Proofs.Ythcdiaahpodkoac.sumofDrawn.d12 = true := by kernel_rfl
set_option maxRecDepth 100000 in
theorem r_d16 : run Go.Proofs.Ythcdiaahpodkoac.sumofDrawn.d16 = true := by kernel_rfl
set_option maxRecDepth 100000 in
theorem r_d20 : run Go.Proofs.Ythcdiaahpodkoac.sumofDrawn.d20 = true := by kernel_rfl
set_option maxRecDepth 100000 in
theorem r_d24 : run Go.Proofs.Ythcdiaahpodkoac.sumofDrawn.d24 = true := by kernel_rfl
set_option maxRecDepth 100000 in
theorem r_d28 : run Go.Proofs.Ythcdiaahpodkoac.sumofDrawn.d28 = true := by kernel_rfl
set_option maxRecDepth 100000 in
theorem r_d32 : run Go.Proofs.Ythcdiaahpodkoac.sumofDrawn.d32 = true := by kernel_rfl
set_option maxRecDepth 100000 in
theorem r_d36 : run Go.Proofs.Ythcdiaahpodkoac.sumofDrawn.d36 = true := by kernel_rfl
set_option maxRecDepth 100000 in
theorem r_d40 : run Go.Proofs.Ythcdiaahpodkoac.sumofDrawn.d40 = true := by kernel_rfl
set_option maxRecDepth 100000 in
theorem r_d44 : run Go.Proofs.Ythcdiaahpodkoac.sumofDrawn.d44 = true := by kernel_rfl
set_option maxRecDepth 100000 in
theorem r_d48 : run Go.Proofs.Ythcdiaahpodkoac.sumofDrawn.d48 = true := by kernel_rfl
set_option maxRecDepth 100000 in
theorem r_d52 : run Go.Proofs.Ythcdiaahpodkoac.sumofDrawn.d52 = true := by kernel_rfl
set_option maxRecDepth 100000 in
theorem r_d56 : run Go.Proofs.Ythcdiaahpodkoac.sumofDrawn.d56 = true := by kernel_rfl
set_option maxRecDepth 100000 in
theorem r_d60 : run Go.Proofs.Ythcdiaahpodkoac.sumofDrawn.d60 = true := by kernel_rfl
set_option maxRecDepth 100000 in
theorem r_d64 : run Go.Proofs.Ythcdiaahpodkoac.sumofDrawn.d64 = true := by kernel_rfl
set_option maxRecDepth 100000 in
theorem r_d68 : run Go.Proofs.Ythcdiaahpodkoac.sumofDrawn.d68 = true := by kernel_rfl
set_option maxRecDepth 100000 in
theorem r_d72 : run Go.Proofs.Ythcdiaahpodkoac.sumofDrawn.d72 = true := by kernel_rfl
set_option maxRecDepth 100000 in
theorem r_d76 : run Go.Proofs.Ythcdiaahpodkoac.sumofDrawn.d76 = true := by kernel_rfl
set_option maxRecDepth 100000 in
theorem r_d80 : run Go.Proofs.Ythcdiaahpodkoac.sumofDrawn.d80 = true := by kernel_rfl
set_option maxRecDepth 100000 in
theorem r_d84 : run Go.Proofs.Ythcdiaahpodkoac.sumofDrawn.d84 = true := by kernel_rfl
set_option maxRecDepth 100000 in
theorem r_d88 : run Go.Proofs.Ythcdiaahpodkoac.sumofDrawn.d88 = true := by kernel_rfl
set_option maxRecDepth 100000 in
theorem r_d92 : run Go.Proofs.Ythcdiaahpodkoac.sumofDrawn.d92 = true := by kernel_rfl
set_option maxRecDepth 100000 in
theorem r_d96 : run Go.Proofs.Ythcdiaahpodkoac.sumofDrawn.d96 = true := by kernel_rfl
set_option maxRecDepth 100000 in
theorem r_d100 : run Go.Proofs.Ythcdiaahpodkoac.sumofDrawn.d100 = true := by kernel_rfl
set_option maxRecDepth 100000 in
theorem r_d104 : run Go.Proofs.Ythcdiaahpodkoac.sumofDrawn.d104 = true := by kernel_rfl
set_option maxRecDepth 100000 in
theorem r_d108 : run Go.Proofs.Ythcdiaahpodkoac.sumofDrawn.d108 = true := by kernel_rfl
set_option maxRecDepth 100000 in
theorem r_d112 : run Go.Proofs.Ythcdiaahpodkoac.sumofDrawn.d112 = true := by kernel_rfl
set_option maxRecDepth 100000 in
theorem r_d116 : run Go.Proofs.Ythcdiaahpodkoac.sumofDrawn.d116 = true := by kernel_rfl
set_option maxRecDepth 100000 in
theorem r_d120 : run Go.Proofs.Ythcdiaahpodkoac.sumofDrawn.d120 = true := by kernel_rfl
set_option maxRecDepth 100000 in
theorem r_d124 : run Go.Proofs.Ythcdiaahpodkoac.sumofDrawn.d124 = true := by kernel_rfl
set_option maxRecDepth 100000 in
theorem r_d128 : run Go.Proofs.Ythcdiaahpodkoac.sumofDrawn.d128 = true := by kernel_rfl
set_option maxRecDepth 100000 in
theorem r_d132 : run Go.Proofs.Ythcdiaahpodkoac.sumofDrawn.d132 = true := by kernel_rfl
set_option maxRecDepth 100000 in
theorem r_d136 : run Go.Proofs.Ythcdiaahpodkoac.sumofDrawn.d136 = true := by kernel_rfl
set_option maxRecDepth 100000 in
theorem r_d140 : run Go.Proofs.Ythcdiaahpodkoac.sumofDrawn.d140 = true := by kernel_rfl
set_option maxRecDepth 100000 in
theorem r_d144 : run Go.Proofs.Ythcdiaahpodkoac.sumofDrawn.d144 = true := by kernel_rfl
set_option maxRecDepth 100000 in
theorem r_d148 : run Go.Proofs.Ythcdiaahpodkoac.sumofDrawn.d148 = true := by kernel_rfl
set_option maxRecDepth 100000 in
theorem r_d152 : run Go.Proofs.Ythcdiaahpodkoac.sumofDrawn.d152 = true := by kernel_rfl
set_option maxRecDepth 100000 in
theorem r_d156 : run Go.Proofs.Ythcdiaahpodkoac.sumofDrawn.d156 = true := by kernel_rfl
set_option maxRecDepth 100000 in
theorem r_d160 : run Go.Proofs.Ythcdiaahpodkoac.sumofDrawn.d160 = true := by kernel_rfl
set_option maxRecDepth 100000 in
theorem r_d164 : run Go.Proofs.Ythcdiaahpodkoac.sumofDrawn.d164 = true := by kernel_rfl
set_option maxRecDepth 100000 in
theorem r_d168 : run Go.Proofs.Ythcdiaahpodkoac.sumofDrawn.d168 = true := by kernel_rfl
set_option maxRecDepth 100000 in
theorem r_d172 : run Go.Proofs.Ythcdiaahpodkoac.sumofDrawn.d172 = true := by kernel_rfl
set_option maxRecDepth 100000 in
theorem r_d176 : run Go.Proofs.Ythcdiaahpodkoac.sumofDrawn.d176 = true := by kernel_rfl
set_option maxRecDepth 100000 in
theorem r_d180 : run Go.Proofs.Ythcdiaahpodkoac.sumofDrawn.d180 = true := by kernel_rfl
set_option maxRecDepth 100000 in
theorem r_d184 : run Go.Proofs.Ythcdiaahpodkoac.sumofDrawn.d184 = true := by kernel_rfl
set_option maxRecDepth 100000 in
theorem r_d188 : run Go.Proofs.Ythcdiaahpodkoac.sumofDrawn.d188 = true := by kernel_rfl
end Go.Proofs.Ythcdiaahpodkoac.fnSumOfRuns
