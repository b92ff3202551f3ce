/- Runs of the program at a seat. -/
import Derived.Test.YthcdiaahpodkoacFnSumOfP
namespace Go.Proofs.Ythcdiaahpodkoac.fnSumOfRuns
open Go Go.Eng
set_option linter.unusedVariables false
set_option linter.unusedSectionVars false
set_option linter.unusedSimpArgs false
set_option maxRecDepth 100000 in
theorem r_d3 : run Go.Proofs.Ythcdiaahpodkoac.sumofDrawn.d3 = true := by kernel_rfl
set_option maxRecDepth 100000 in
theorem r_d7 : run Go.Proofs.Ythcdiaahpodkoac.sumofDrawn.d7 = true := by kernel_rfl
set_option maxRecDepth 100000 in
theorem r_d11 : run Go.Proofs.Ythcdiaahpodkoac.sumofDrawn.d11 = true := by kernel_rfl
set_option maxRecDepth 100000 in
theorem r_d15 : run Go.Proofs.Ythcdiaahpodkoac.sumofDrawn.d15 = true := by kernel_rfl
set_option maxRecDepth 100000 in
theorem r_d19 : run Go.Proofs.Ythcdiaahpodkoac.sumofDrawn.d19 = true := by kernel_rfl
set_option maxRecDepth 100000 in
theorem r_d23 : run Go.Proofs.Ythcdiaahpodkoac.sumofDrawn.d23 = true := by kernel_rfl
set_option maxRecDepth 100000 in
theorem r_d27 : run Go.Proofs.Ythcdiaahpodkoac.sumofDrawn.d27 = true := by kernel_rfl
set_option maxRecDepth 100000 in
theorem r_d31 : run Go.Proofs.Ythcdiaahpodkoac.sumofDrawn.d31 = true := by kernel_rfl
set_option maxRecDepth 100000 in
theorem r_d35 : run Go.Proofs.Ythcdiaahpodkoac.sumofDrawn.d35 = true := by kernel_rfl
set_option maxRecDepth 100000 in
theorem r_d39 : run Go.Proofs.Ythcdiaahpodkoac.sumofDrawn.d39 = true := by kernel_rfl
set_option maxRecDepth 100000 in
theorem r_d43 : run Go.Proofs.Ythcdiaahpodkoac.sumofDrawn.d43 = true := by kernel_rfl
set_option maxRecDepth 100000 in
theorem r_d47 : run Go.Proofs.Ythcdiaahpodkoac.sumofDrawn.d47 = true := by kernel_rfl
set_option maxRecDepth 100000 in
theorem r_d51 : run Go.Proofs.Ythcdiaahpodkoac.sumofDrawn.d51 = true := by kernel_rfl
set_option maxRecDepth 100000 in
theorem r_d55 : run Go.Proofs.Ythcdiaahpodkoac.sumofDrawn.d55 = true := by kernel_rfl
set_option maxRecDepth 100000 in
theorem r_d59 : run Go.Proofs.Ythcdiaahpodkoac.sumofDrawn.d59 = true := by kernel_rfl
set_option maxRecDepth 100000 in
theorem r_d63 : run Go.Proofs.Ythcdiaahpodkoac.sumofDrawn.d63 = true := by kernel_rfl
set_option maxRecDepth 100000 in
theorem r_d67 : run Go.Proofs.Ythcdiaahpodkoac.sumofDrawn.d67 = true := by kernel_rfl
set_option maxRecDepth 100000 in
theorem r_d71 : run Go.Proofs.Ythcdiaahpodkoac.sumofDrawn.d71 = true := by kernel_rfl
set_option maxRecDepth 100000 in
theorem r_d75 : run Go.Proofs.Ythcdiaahpodkoac.sumofDrawn.d75 = true := by kernel_rfl
set_option maxRecDepth 100000 in
theorem r_d79 : run Go.Proofs.Ythcdiaahpodkoac.sumofDrawn.d79 = true := by kernel_rfl
set_option maxRecDepth 100000 in
theorem r_d83 : run Go.Proofs.Ythcdiaahpodkoac.sumofDrawn.d83 = true := by kernel_rfl
set_option maxRecDepth 100000 in
theorem r_d87 : run Go.Proofs.Ythcdiaahpodkoac.sumofDrawn.d87 = true := by kernel_rfl
set_option maxRecDepth 100000 in
theorem r_d91 : run Go.Proofs.Ythcdiaahpodkoac.sumofDrawn.d91 = true := by kernel_rfl
set_option maxRecDepth 100000 in
theorem r_d95 : run Go.Proofs.Ythcdiaahpodkoac.sumofDrawn.d95 = true := by kernel_rfl
set_option maxRecDepth 100000 in
theorem r_d99 : run Go.Proofs.Ythcdiaahpodkoac.sumofDrawn.d99 = true := by kernel_rfl
set_option maxRecDepth 100000 in
theorem r_d103 : run Go.Proofs.Ythcdiaahpodkoac.sumofDrawn.d103 = true := by kernel_rfl
set_option maxRecDepth 100000 in
theorem r_d107 : run Go.Proofs.Ythcdiaahpodkoac.sumofDrawn.d107 = true := by kernel_rfl
set_option maxRecDepth 100000 in
theorem r_d111 : run Go.Proofs.Ythcdiaahpodkoac.sumofDrawn.d111 = true := by kernel_rfl
set_option maxRecDepth 100000 in
theorem r_d115 : run Go.Proofs.Ythcdiaahpodkoac.sumofDrawn.d115 = true := by kernel_rfl
set_option maxRecDepth 100000 in
theorem r_d119 : run Go.Proofs.Ythcdiaahpodkoac.sumofDrawn.d119 = true := by kernel_rfl
set_option maxRecDepth 100000 in
theorem r_d123 : run Go.Proofs.Ythcdiaahpodkoac.sumofDrawn.d123 = true := by kernel_rfl
set_option maxRecDepth 100000 in
theorem r_d127 : run Go.Proofs.Ythcdiaahpodkoac.sumofDrawn.d127 = true := by kernel_rfl
set_option maxRecDepth 100000 in
theorem r_d131 : run Go.Proofs.Ythcdiaahpodkoac.sumofDrawn.d131 = true := by kernel_rfl
set_option maxRecDepth 100000 in
theorem r_d135 : run Go.Proofs.Ythcdiaahpodkoac.sumofDrawn.d135 = true := by kernel_rfl
set_option maxRecDepth 100000 in
theorem r_d139 : run Go.Proofs.Ythcdiaahpodkoac.sumofDrawn.d139 = true := by kernel_rfl
set_option maxRecDepth 100000 in
theorem r_d143 : run Go.Proofs.Ythcdiaahpodkoac.sumofDrawn.d143 = true := by kernel_rfl
set_option maxRecDepth 100000 in
theorem r_d147 : run Go.Proofs.Ythcdiaahpodkoac.sumofDrawn.d147 = true := by kernel_rfl
set_option maxRecDepth 100000 in
theorem r_d151 : run Go.Proofs.Ythcdiaahpodkoac.sumofDrawn.d151 = true := by kernel_rfl
set_option maxRecDepth 100000 in
theorem r_d155 : run Go.Proofs.Ythcdiaahpodkoac.sumofDrawn.d155 = true := by kernel_rfl
set_option maxRecDepth 100000 in
theorem r_d159 : run Go.Proofs.Ythcdiaahpodkoac.sumofDrawn.d159 = true := by kernel_rfl
set_option maxRecDepth 100000 in
theorem r_d163 : run Go.Proofs.Ythcdiaahpodkoac.sumofDrawn.d163 = true := by kernel_rfl
set_option maxRecDepth 100000 in
theorem r_d167 : run Go.Proofs.Ythcdiaahpodkoac.sumofDrawn.d167 = true := by kernel_rfl
set_option maxRecDepth 100000 in
theorem r_d171 : run Go.Proofs.Ythcdiaahpodkoac.sumofDrawn.d171 = true := by kernel_rfl
set_option maxRecDepth 100000 in
theorem r_d175 : run Go.Proofs.Ythcdiaahpodkoac.sumofDrawn.d175 = true := by kernel_rfl
set_option maxRecDepth 100000 in
theorem r_d179 : run Go.Proofs.Ythcdiaahpodkoac.sumofDrawn.d179 = true := by kernel_rfl
set_option maxRecDepth 100000 in
theorem r_d183 : run Go.Proofs.Ythcdiaahpodkoac.sumofDrawn.d183 = true := by kernel_rfl
set_option maxRecDepth 100000 in
theorem r_d187 : run Go.Proofs.Ythcdiaahpodkoac.sumofDrawn.d187 = true := by kernel_rfl
set_option maxRecDepth 100000 in
theorem r_d191 : run Go.Proofs.Ythcdiaahpodkoac.sumofDrawn.d191 = true := by kernel_rfl
end Go.Proofs.Ythcdiaahpodkoac.fnSumOfRuns
