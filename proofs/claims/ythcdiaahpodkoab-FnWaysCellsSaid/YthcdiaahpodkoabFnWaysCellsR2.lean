/- Runs of the program at a seat. -/
import Derived.Test.YthcdiaahpodkoabFnWaysCellsP
namespace Go.Proofs.Ythcdiaahpodkoab.fnWaysCellsRuns
open Go Go.Eng
set_option linter.unusedVariables false
set_option linter.unusedSectionVars false
set_option linter.unusedSimpArgs false
set_option maxRecDepth 100000 in
theorem r_d2 : run Go.Proofs.Ythcdiaahpodkoab.waysDrawn.d2 = true := by kernel_rfl
set_option maxRecDepth 100000 in
theorem r_d6 : run Go.Proofs.Ythcdiaahpodkoab.waysDrawn.d6 = true := by kernel_rfl
set_option maxRecDepth 100000 in
theorem r_d10 : run Go.Proofs.Ythcdiaahpodkoab.waysDrawn.d10 = true := by kernel_rfl
set_option maxRecDepth 100000 in
theorem r_d14 : run Go.Proofs.Ythcdiaahpodkoab.waysDrawn.d14 = true := by kernel_rfl
set_option maxRecDepth 100000 in
theorem r_d18 : run Go.Proofs.Ythcdiaahpodkoab.waysDrawn.d18 = true := by kernel_rfl
set_option maxRecDepth 100000 in
theorem r_d22 : run Go.Proofs.Ythcdiaahpodkoab.waysDrawn.d22 = true := by kernel_rfl
set_option maxRecDepth 100000 in
theorem r_d26 : run Go.Proofs.Ythcdiaahpodkoab.waysDrawn.d26 = true := by kernel_rfl
set_option maxRecDepth 100000 in
theorem r_d30 : run Go.Proofs.Ythcdiaahpodkoab.waysDrawn.d30 = true := by kernel_rfl
set_option maxRecDepth 100000 in
theorem r_d34 : run Go.Proofs.Ythcdiaahpodkoab.waysDrawn.d34 = true := by kernel_rfl
set_option maxRecDepth 100000 in
theorem r_d38 : run Go.Proofs.Ythcdiaahpodkoab.waysDrawn.d38 = true := by kernel_rfl
set_option maxRecDepth 100000 in
theorem r_d42 : run Go.Proofs.Ythcdiaahpodkoab.waysDrawn.d42 = true := by kernel_rfl
set_option maxRecDepth 100000 in
theorem r_d46 : run Go.Proofs.Ythcdiaahpodkoab.waysDrawn.d46 = true := by kernel_rfl
set_option maxRecDepth 100000 in
theorem r_d50 : run Go.Proofs.Ythcdiaahpodkoab.waysDrawn.d50 = true := by kernel_rfl
set_option maxRecDepth 100000 in
theorem r_d54 : run Go.Proofs.Ythcdiaahpodkoab.waysDrawn.d54 = true := by kernel_rfl
set_option maxRecDepth 100000 in
theorem r_d58 : run Go.Proofs.Ythcdiaahpodkoab.waysDrawn.d58 = true := by kernel_rfl
set_option maxRecDepth 100000 in
theorem r_d62 : run Go.Proofs.Ythcdiaahpodkoab.waysDrawn.d62 = true := by kernel_rfl
set_option maxRecDepth 100000 in
theorem r_d66 : run Go.Proofs.Ythcdiaahpodkoab.waysDrawn.d66 = true := by kernel_rfl
set_option maxRecDepth 100000 in
theorem r_d70 : run Go.Proofs.Ythcdiaahpodkoab.waysDrawn.d70 = true := by kernel_rfl
set_option maxRecDepth 100000 in
theorem r_d74 : run Go.Proofs.Ythcdiaahpodkoab.waysDrawn.d74 = true := by kernel_rfl
set_option maxRecDepth 100000 in
theorem r_d78 : run Go.Proofs.Ythcdiaahpodkoab.waysDrawn.d78 = true := by kernel_rfl
set_option maxRecDepth 100000 in
theorem r_d82 : run Go.Proofs.Ythcdiaahpodkoab.waysDrawn.d82 = true := by kernel_rfl
set_option maxRecDepth 100000 in
theorem r_d86 : run Go.Proofs.Ythcdiaahpodkoab.waysDrawn.d86 = true := by kernel_rfl
set_option maxRecDepth 100000 in
theorem r_d90 : run Go.Proofs.Ythcdiaahpodkoab.waysDrawn.d90 = true := by kernel_rfl
set_option maxRecDepth 100000 in
theorem r_d94 : run Go.Proofs.Ythcdiaahpodkoab.waysDrawn.d94 = true := by kernel_rfl
set_option maxRecDepth 100000 in
theorem r_d98 : run Go.Proofs.Ythcdiaahpodkoab.waysDrawn.d98 = true := by kernel_rfl
set_option maxRecDepth 100000 in
theorem r_d102 : run Go.Proofs.Ythcdiaahpodkoab.waysDrawn.d102 = true := by kernel_rfl
set_option maxRecDepth 100000 in
theorem r_d106 : run Go.Proofs.Ythcdiaahpodkoab.waysDrawn.d106 = true := by kernel_rfl
set_option maxRecDepth 100000 in
theorem r_d110 : run Go.Proofs.Ythcdiaahpodkoab.waysDrawn.d110 = true := by kernel_rfl
set_option maxRecDepth 100000 in
theorem r_d114 : run Go.Proofs.Ythcdiaahpodkoab.waysDrawn.d114 = true := by kernel_rfl
set_option maxRecDepth 100000 in
theorem r_d118 : run Go.Proofs.Ythcdiaahpodkoab.waysDrawn.d118 = true := by kernel_rfl
set_option maxRecDepth 100000 in
theorem r_d122 : run Go.Proofs.Ythcdiaahpodkoab.waysDrawn.d122 = true := by kernel_rfl
set_option maxRecDepth 100000 in
theorem r_d126 : run Go.Proofs.Ythcdiaahpodkoab.waysDrawn.d126 = true := by kernel_rfl
set_option maxRecDepth 100000 in
theorem r_d130 : run Go.Proofs.Ythcdiaahpodkoab.waysDrawn.d130 = true := by kernel_rfl
set_option maxRecDepth 100000 in
theorem r_d134 : run Go.Proofs.Ythcdiaahpodkoab.waysDrawn.d134 = true := by kernel_rfl
set_option maxRecDepth 100000 in
theorem r_d138 : run Go.Proofs.Ythcdiaahpodkoab.waysDrawn.d138 = true := by kernel_rfl
set_option maxRecDepth 100000 in
theorem r_d142 : run Go.Proofs.Ythcdiaahpodkoab.waysDrawn.d142 = true := by kernel_rfl
set_option maxRecDepth 100000 in
theorem r_d146 : run Go.Proofs.Ythcdiaahpodkoab.waysDrawn.d146 = true := by kernel_rfl
set_option maxRecDepth 100000 in
theorem r_d150 : run Go.Proofs.Ythcdiaahpodkoab.waysDrawn.d150 = true := by kernel_rfl
set_option maxRecDepth 100000 in
theorem r_d154 : run Go.Proofs.Ythcdiaahpodkoab.waysDrawn.d154 = true := by kernel_rfl
set_option maxRecDepth 100000 in
theorem r_d158 : run Go.Proofs.Ythcdiaahpodkoab.waysDrawn.d158 = true := by kernel_rfl
set_option maxRecDepth 100000 in
theorem r_d162 : run Go.Proofs.Ythcdiaahpodkoab.waysDrawn.d162 = true := by kernel_rfl
set_option maxRecDepth 100000 in
theorem r_d166 : run Go.Proofs.Ythcdiaahpodkoab.waysDrawn.d166 = true := by kernel_rfl
set_option maxRecDepth 100000 in
theorem r_d170 : run Go.Proofs.Ythcdiaahpodkoab.waysDrawn.d170 = true := by kernel_rfl
set_option maxRecDepth 100000 in
theorem r_d174 : run Go.Proofs.Ythcdiaahpodkoab.waysDrawn.d174 = true := by kernel_rfl
set_option maxRecDepth 100000 in
theorem r_d178 : run Go.Proofs.Ythcdiaahpodkoab.waysDrawn.d178 = true := by kernel_rfl
set_option maxRecDepth 100000 in
theorem r_d182 : run Go.Proofs.Ythcdiaahpodkoab.waysDrawn.d182 = true := by kernel_rfl
set_option maxRecDepth 100000 in
theorem r_d186 : run Go.Proofs.Ythcdiaahpodkoab.waysDrawn.d186 = true := by kernel_rfl
set_option maxRecDepth 100000 in
theorem r_d190 : run Go.Proofs.Ythcdiaahpodkoab.waysDrawn.d190 = true := by kernel_rfl
set_option maxRecDepth 100000 in
theorem r_d194 : run Go.Proofs.Ythcdiaahpodkoab.waysDrawn.d194 = true := by kernel_rfl
set_option maxRecDepth 100000 in
theorem r_d198 : run Go.Proofs.Ythcdiaahpodkoab.waysDrawn.d198 = true := by kernel_rfl
set_option maxRecDepth 100000 in
theorem r_d202 : run Go.Proofs.Ythcdiaahpodkoab.waysDrawn.d202 = true := by kernel_rfl
set_option maxRecDepth 100000 in
theorem r_d206 : run Go.Proofs.Ythcdiaahpodkoab.waysDrawn.d206 = true := by kernel_rfl
set_option maxRecDepth 100000 in
theorem r_d210 : run Go.Proofs.Ythcdiaahpodkoab.waysDrawn.d210 = true := by kernel_rfl
set_option maxRecDepth 100000 in
theorem r_d214 : run Go.Proofs.Ythcdiaahpodkoab.waysDrawn.d214 = true := by kernel_rfl
set_option maxRecDepth 100000 in
theorem r_d218 : run Go.Proofs.Ythcdiaahpodkoab.waysDrawn.d218 = true := by kernel_rfl
set_option maxRecDepth 100000 in
theorem r_d222 : run Go.Proofs.Ythcdiaahpodkoab.waysDrawn.d222 = true := by kernel_rfl
set_option maxRecDepth 100000 in
theorem r_d226 : run Go.Proofs.Ythcdiaahpodkoab.waysDrawn.d226 = true := by kernel_rfl
set_option maxRecDepth 100000 in
theorem r_d230 : run Go.Proofs.Ythcdiaahpodkoab.waysDrawn.d230 = true := by kernel_rfl
set_option maxRecDepth 100000 in
theorem r_d234 : run Go.Proofs.Ythcdiaahpodkoab.waysDrawn.d234 = true := by kernel_rfl
set_option maxRecDepth 100000 in
theorem r_d238 : run Go.Proofs.Ythcdiaahpodkoab.waysDrawn.d238 = true := by kernel_rfl
set_option maxRecDepth 100000 in
theorem r_d242 : run Go.Proofs.Ythcdiaahpodkoab.waysDrawn.d242 = true := by kernel_rfl
set_option maxRecDepth 100000 in
theorem r_d246 : run Go.Proofs.Ythcdiaahpodkoab.waysDrawn.d246 = true := by kernel_rfl
set_option maxRecDepth 100000 in
theorem r_d250 : run Go.Proofs.Ythcdiaahpodkoab.waysDrawn.d250 = true := by kernel_rfl
set_option maxRecDepth 100000 in
theorem r_d254 : run Go.Proofs.Ythcdiaahpodkoab.waysDrawn.d254 = true := by kernel_rfl
end Go.Proofs.Ythcdiaahpodkoab.fnWaysCellsRuns
