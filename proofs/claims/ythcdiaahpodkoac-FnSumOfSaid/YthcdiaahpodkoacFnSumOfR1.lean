/- Runs of the program at a seat. -/
import Derived.Test.YthcdiaahpodkoacFnSumOfP
namespace Go.Proofs.Ythcdiaahpodkoac.fnSumOfRuns
open Go Go.Eng
set_option linter.unusedVariables false
set_option linter.unusedSectionVars false
set_option linter.unusedSimpArgs false
set_option maxRecDepth 100000 in
theorem r_d1 : run Go.Proofs.Ythcdiaahpodkoac.sumofDrawn.d1 = true := by kernel_rfl
set_option maxRecDepth 100000 in
theorem r_d5 : run Go.Proofs.Ythcdiaahpodkoac.sumofDrawn.d5 = true := by kernel_rfl
set_option maxRecDepth 100000 in
theorem r_d9 : run Go.Proofs.Ythcdiaahpodkoac.sumofDrawn.d9 = true := by kernel_rfl
set_option maxRecDepth 100000 in
theorem r_d13 : run Go.Proofs.Ythcdiaahpodkoac.sumofDrawn.d13 = true := by kernel_rfl
set_option maxRecDepth 100000 in
theorem r_d17 : run Go.Proofs.Ythcdiaahpodkoac.sumofDrawn.d17 = true := by kernel_rfl
set_option maxRecDepth 100000 in
theorem r_d21 : run Go.Proofs.Ythcdiaahpodkoac.sumofDrawn.d21 = true := by kernel_rfl
set_option maxRecDepth 100000 in
theorem r_d25 : run Go.Proofs.Ythcdiaahpodkoac.sumofDrawn.d25 = true := by kernel_rfl
set_option maxRecDepth 100000 in
theorem r_d29 : run Go.Proofs.Ythcdiaahpodkoac.sumofDrawn.d29 = true := by kernel_rfl
set_option maxRecDepth 100000 in
theorem r_d33 : run Go.Proofs.Ythcdiaahpodkoac.sumofDrawn.d33 = true := by kernel_rfl
set_option maxRecDepth 100000 in
theorem r_d37 : run Go.Proofs.Ythcdiaahpodkoac.sumofDrawn.d37 = true := by kernel_rfl
set_option maxRecDepth 100000 in
theorem r_d41 : run Go.Proofs.Ythcdiaahpodkoac.sumofDrawn.d41 = true := by kernel_rfl
set_option maxRecDepth 100000 in
theorem r_d45 : run Go.Proofs.Ythcdiaahpodkoac.sumofDrawn.d45 = true := by kernel_rfl
set_option maxRecDepth 100000 in
theorem r_d49 : run Go.Proofs.Ythcdiaahpodkoac.sumofDrawn.d49 = true := by kernel_rfl
set_option maxRecDepth 100000 in
theorem r_d53 : run Go.Proofs.Ythcdiaahpodkoac.sumofDrawn.d53 = true := by kernel_rfl
set_option maxRecDepth 100000 in
theorem r_d57 : run Go.Proofs.Ythcdiaahpodkoac.sumofDrawn.d57 = true := by kernel_rfl
set_option maxRecDepth 100000 in
theorem r_d61 : run Go.Proofs.Ythcdiaahpodkoac.sumofDrawn.d61 = true := by kernel_rfl
set_option maxRecDepth 100000 in
theorem r_d65 : run Go.Proofs.Ythcdiaahpodkoac.sumofDrawn.d65 = true := by kernel_rfl
set_option maxRecDepth 100000 in
theorem r_d69 : run Go.Proofs.Ythcdiaahpodkoac.sumofDrawn.d69 = true := by kernel_rfl
set_option maxRecDepth 100000 in
theorem r_d73 : run Go.Proofs.Ythcdiaahpodkoac.sumofDrawn.d73 = true := by kernel_rfl
set_option maxRecDepth 100000 in
theorem r_d77 : run Go.Proofs.Ythcdiaahpodkoac.sumofDrawn.d77 = true := by kernel_rfl
set_option maxRecDepth 100000 in
theorem r_d81 : run Go.Proofs.Ythcdiaahpodkoac.sumofDrawn.d81 = true := by kernel_rfl
set_option maxRecDepth 100000 in
theorem r_d85 : run Go.Proofs.Ythcdiaahpodkoac.sumofDrawn.d85 = true := by kernel_rfl
set_option maxRecDepth 100000 in
theorem r_d89 : run Go.Proofs.Ythcdiaahpodkoac.sumofDrawn.d89 = true := by kernel_rfl
set_option maxRecDepth 100000 in
theorem r_d93 : run Go.Proofs.Ythcdiaahpodkoac.sumofDrawn.d93 = true := by kernel_rfl
set_option maxRecDepth 100000 in
theorem r_d97 : run Go.Proofs.Ythcdiaahpodkoac.sumofDrawn.d97 = true := by kernel_rfl
set_option maxRecDepth 100000 in
theorem r_d101 : run Go.Proofs.Ythcdiaahpodkoac.sumofDrawn.d101 = true := by kernel_rfl
set_option maxRecDepth 100000 in
theorem r_d105 : run Go.Proofs.Ythcdiaahpodkoac.sumofDrawn.d105 = true := by kernel_rfl
set_option maxRecDepth 100000 in
theorem r_d109 : run Go.Proofs.Ythcdiaahpodkoac.sumofDrawn.d109 = true := by kernel_rfl
set_option maxRecDepth 100000 in
theorem r_d113 : run Go.Proofs.Ythcdiaahpodkoac.sumofDrawn.d113 = true := by kernel_rfl
set_option maxRecDepth 100000 in
theorem r_d117 : run Go.Proofs.Ythcdiaahpodkoac.sumofDrawn.d117 = true := by kernel_rfl
set_option maxRecDepth 100000 in
theorem r_d121 : run Go.Proofs.Ythcdiaahpodkoac.sumofDrawn.d121 = true := by kernel_rfl
set_option maxRecDepth 100000 in
theorem r_d125 : run Go.Proofs.Ythcdiaahpodkoac.sumofDrawn.d125 = true := by kernel_rfl
set_option maxRecDepth 100000 in
theorem r_d129 : run Go.Proofs.Ythcdiaahpodkoac.sumofDrawn.d129 = true := by kernel_rfl
set_option maxRecDepth 100000 in
theorem r_d133 : run Go.Proofs.Ythcdiaahpodkoac.sumofDrawn.d133 = true := by kernel_rfl
set_option maxRecDepth 100000 in
theorem r_d137 : run Go.Proofs.Ythcdiaahpodkoac.sumofDrawn.d137 = true := by kernel_rfl
set_option maxRecDepth 100000 in
theorem r_d141 : run Go.Proofs.Ythcdiaahpodkoac.sumofDrawn.d141 = true := by kernel_rfl
set_option maxRecDepth 100000 in
theorem r_d145 : run Go.Proofs.Ythcdiaahpodkoac.sumofDrawn.d145 = true := by kernel_rfl
set_option maxRecDepth 100000 in
theorem r_d149 : run Go.Proofs.Ythcdiaahpodkoac.sumofDrawn.d149 = true := by kernel_rfl
set_option maxRecDepth 100000 in
theorem r_d153 : run Go.Proofs.Ythcdiaahpodkoac.sumofDrawn.d153 = true := by kernel_rfl
set_option maxRecDepth 100000 in
theorem r_d157 : run Go.Proofs.Ythcdiaahpodkoac.sumofDrawn.d157 = true := by kernel_rfl
set_option maxRecDepth 100000 in
theorem r_d161 : run Go.Proofs.Ythcdiaahpodkoac.sumofDrawn.d161 = true := by kernel_rfl
set_option maxRecDepth 100000 in
theorem r_d165 : run Go.Proofs.Ythcdiaahpodkoac.sumofDrawn.d165 = true := by kernel_rfl
set_option maxRecDepth 100000 in
theorem r_d169 : run Go.Proofs.Ythcdiaahpodkoac.sumofDrawn.d169 = true := by kernel_rfl
set_option maxRecDepth 100000 in
theorem r_d173 : run Go.Proofs.Ythcdiaahpodkoac.sumofDrawn.d173 = true := by kernel_rfl
set_option maxRecDepth 100000 in
theorem r_d177 : run Go.Proofs.Ythcdiaahpodkoac.sumofDrawn.d177 = true := by kernel_rfl
set_option maxRecDepth 100000 in
theorem r_d181 : run Go.Proofs.Ythcdiaahpodkoac.sumofDrawn.d181 = true := by kernel_rfl
set_option maxRecDepth 100000 in
theorem r_d185 : run Go.Proofs.Ythcdiaahpodkoac.sumofDrawn.d185 = true := by kernel_rfl
set_option maxRecDepth 100000 in
theorem r_d189 : run Go.Proofs.Ythcdiaahpodkoac.sumofDrawn.d189 = true := by kernel_rfl
end Go.Proofs.Ythcdiaahpodkoac.fnSumOfRuns
