/- Runs of the program at a seat. -/
import Derived.Test.YthcdiaahpodkoacFnSumOfP
namespace Go.Proofs.Ythcdiaahpodkoac.fnSumOfRuns
open Go Go.Eng
set_option linter.unusedVariables false
set_option linter.unusedSectionVars false
set_option linter.unusedSimpArgs false
set_option maxRecDepth 100000 in
theorem r_d2 : run Go.Proofs.Ythcdiaahpodkoac.sumofDrawn.d2 = true := by kernel_rfl
set_option maxRecDepth 100000 in
theorem r_d6 : run Go.Proofs.Ythcdiaahpodkoac.sumofDrawn.d6 = true := by kernel_rfl
set_option maxRecDepth 100000 in
theorem r_d10 : run Go.Proofs.Ythcdiaahpodkoac.sumofDrawn.d10 = true := by kernel_rfl
set_option maxRecDepth 100000 in
theorem r_d14 : run Go.Proofs.Ythcdiaahpodkoac.sumofDrawn.d14 = true := by kernel_rfl
set_option maxRecDepth 100000 in
theorem r_d18 : run Go.Proofs.Ythcdiaahpodkoac.sumofDrawn.d18 = true := by kernel_rfl
set_option maxRecDepth 100000 in
theorem r_d22 : run Go.Proofs.Ythcdiaahpodkoac.sumofDrawn.d22 = true := by kernel_rfl
set_option maxRecDepth 100000 in
theorem r_d26 : run Go.Proofs.Ythcdiaahpodkoac.sumofDrawn.d26 = true := by kernel_rfl
set_option maxRecDepth 100000 in
theorem r_d30 : run Go.Proofs.Ythcdiaahpodkoac.sumofDrawn.d30 = true := by kernel_rfl
set_option maxRecDepth 100000 in
theorem r_d34 : run Go.Proofs.Ythcdiaahpodkoac.sumofDrawn.d34 = true := by kernel_rfl
set_option maxRecDepth 100000 in
theorem r_d38 : run Go.Proofs.Ythcdiaahpodkoac.sumofDrawn.d38 = true := by kernel_rfl
set_option maxRecDepth 100000 in
theorem r_d42 : run Go.Proofs.Ythcdiaahpodkoac.sumofDrawn.d42 = true := by kernel_rfl
set_option maxRecDepth 100000 in
theorem r_d46 : run Go.Proofs.Ythcdiaahpodkoac.sumofDrawn.d46 = true := by kernel_rfl
set_option maxRecDepth 100000 in
theorem r_d50 : run Go.Proofs.Ythcdiaahpodkoac.sumofDrawn.d50 = true := by kernel_rfl
set_option maxRecDepth 100000 in
theorem r_d54 : run Go.Proofs.Ythcdiaahpodkoac.sumofDrawn.d54 = true := by kernel_rfl
set_option maxRecDepth 100000 in
theorem r_d58 : run Go.Proofs.Ythcdiaahpodkoac.sumofDrawn.d58 = true := by kernel_rfl
set_option maxRecDepth 100000 in
theorem r_d62 : run Go.Proofs.Ythcdiaahpodkoac.sumofDrawn.d62 = true := by kernel_rfl
set_option maxRecDepth 100000 in
theorem r_d66 : run Go.Proofs.Ythcdiaahpodkoac.sumofDrawn.d66 = true := by kernel_rfl
set_option maxRecDepth 100000 in
theorem r_d70 : run Go.Proofs.Ythcdiaahpodkoac.sumofDrawn.d70 = true := by kernel_rfl
set_option maxRecDepth 100000 in
theorem r_d74 : run Go.Proofs.Ythcdiaahpodkoac.sumofDrawn.d74 = true := by kernel_rfl
set_option maxRecDepth 100000 in
theorem r_d78 : run Go.Proofs.Ythcdiaahpodkoac.sumofDrawn.d78 = true := by kernel_rfl
set_option maxRecDepth 100000 in
theorem r_d82 : run Go.Proofs.Ythcdiaahpodkoac.sumofDrawn.d82 = true := by kernel_rfl
set_option maxRecDepth 100000 in
theorem r_d86 : run Go.Proofs.Ythcdiaahpodkoac.sumofDrawn.d86 = true := by kernel_rfl
set_option maxRecDepth 100000 in
theorem r_d90 : run Go.Proofs.Ythcdiaahpodkoac.sumofDrawn.d90 = true := by kernel_rfl
set_option maxRecDepth 100000 in
theorem r_d94 : run Go.Proofs.Ythcdiaahpodkoac.sumofDrawn.d94 = true := by kernel_rfl
set_option maxRecDepth 100000 in
theorem r_d98 : run Go.Proofs.Ythcdiaahpodkoac.sumofDrawn.d98 = true := by kernel_rfl
set_option maxRecDepth 100000 in
theorem r_d102 : run Go.Proofs.Ythcdiaahpodkoac.sumofDrawn.d102 = true := by kernel_rfl
set_option maxRecDepth 100000 in
theorem r_d106 : run Go.Proofs.Ythcdiaahpodkoac.sumofDrawn.d106 = true := by kernel_rfl
set_option maxRecDepth 100000 in
theorem r_d110 : run Go.Proofs.Ythcdiaahpodkoac.sumofDrawn.d110 = true := by kernel_rfl
set_option maxRecDepth 100000 in
theorem r_d114 : run Go.Proofs.Ythcdiaahpodkoac.sumofDrawn.d114 = true := by kernel_rfl
set_option maxRecDepth 100000 in
theorem r_d118 : run Go.Proofs.Ythcdiaahpodkoac.sumofDrawn.d118 = true := by kernel_rfl
set_option maxRecDepth 100000 in
theorem r_d122 : run Go.Proofs.Ythcdiaahpodkoac.sumofDrawn.d122 = true := by kernel_rfl
set_option maxRecDepth 100000 in
theorem r_d126 : run Go.Proofs.Ythcdiaahpodkoac.sumofDrawn.d126 = true := by kernel_rfl
set_option maxRecDepth 100000 in
theorem r_d130 : run Go.Proofs.Ythcdiaahpodkoac.sumofDrawn.d130 = true := by kernel_rfl
set_option maxRecDepth 100000 in
theorem r_d134 : run Go.Proofs.Ythcdiaahpodkoac.sumofDrawn.d134 = true := by kernel_rfl
set_option maxRecDepth 100000 in
theorem r_d138 : run Go.Proofs.Ythcdiaahpodkoac.sumofDrawn.d138 = true := by kernel_rfl
set_option maxRecDepth 100000 in
theorem r_d142 : run Go.Proofs.Ythcdiaahpodkoac.sumofDrawn.d142 = true := by kernel_rfl
set_option maxRecDepth 100000 in
theorem r_d146 : run Go.Proofs.Ythcdiaahpodkoac.sumofDrawn.d146 = true := by kernel_rfl
set_option maxRecDepth 100000 in
theorem r_d150 : run Go.Proofs.Ythcdiaahpodkoac.sumofDrawn.d150 = true := by kernel_rfl
set_option maxRecDepth 100000 in
theorem r_d154 : run Go.Proofs.Ythcdiaahpodkoac.sumofDrawn.d154 = true := by kernel_rfl
set_option maxRecDepth 100000 in
theorem r_d158 : run Go.Proofs.Ythcdiaahpodkoac.sumofDrawn.d158 = true := by kernel_rfl
set_option maxRecDepth 100000 in
theorem r_d162 : run Go.Proofs.Ythcdiaahpodkoac.sumofDrawn.d162 = true := by kernel_rfl
set_option maxRecDepth 100000 in
theorem r_d166 : run Go.Proofs.Ythcdiaahpodkoac.sumofDrawn.d166 = true := by kernel_rfl
set_option maxRecDepth 100000 in
theorem r_d170 : run Go.Proofs.Ythcdiaahpodkoac.sumofDrawn.d170 = true := by kernel_rfl
set_option maxRecDepth 100000 in
theorem r_d174 : run Go.Proofs.Ythcdiaahpodkoac.sumofDrawn.d174 = true := by kernel_rfl
set_option maxRecDepth 100000 in
theorem r_d178 : run Go.Proofs.Ythcdiaahpodkoac.sumofDrawn.d178 = true := by kernel_rfl
set_option maxRecDepth 100000 in
theorem r_d182 : run Go.Proofs.Ythcdiaahpodkoac.sumofDrawn.d182 = true := by kernel_rfl
set_option maxRecDepth 100000 in
theorem r_d186 : run Go.Proofs.Ythcdiaahpodkoac.sumofDrawn.d186 = true := by kernel_rfl
set_option maxRecDepth 100000 in
theorem r_d190 : run Go.Proofs.Ythcdiaahpodkoac.sumofDrawn.d190 = true := by kernel_rfl
end Go.Proofs.Ythcdiaahpodkoac.fnSumOfRuns
