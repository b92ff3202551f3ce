/- Runs of the program at a seat. -/
import Derived.Test.YthcdiaahpodkoabFnPlainP
namespace Go.Proofs.Ythcdiaahpodkoab.fnPlainRuns
open Go Go.Eng
set_option linter.unusedVariables false
set_option linter.unusedSectionVars false
set_option linter.unusedSimpArgs false
set_option maxRecDepth 100000 in
theorem r_d2 : run Go.Proofs.Ythcdiaahpodkoab.atDrawn.d2 = true := by kernel_rfl
set_option maxRecDepth 100000 in
theorem r_d6 : run Go.Proofs.Ythcdiaahpodkoab.atDrawn.d6 = true := by kernel_rfl
set_option maxRecDepth 100000 in
theorem r_d10 : run Go.Proofs.Ythcdiaahpodkoab.atDrawn.d10 = true := by kernel_rfl
set_option maxRecDepth 100000 in
theorem r_d14 : run Go.Proofs.Ythcdiaahpodkoab.atDrawn.d14 = true := by kernel_rfl
set_option maxRecDepth 100000 in
theorem r_d18 : run Go.Proofs.Ythcdiaahpodkoab.atDrawn.d18 = true := by kernel_rfl
set_option maxRecDepth 100000 in
theorem r_d22 : run Go.Proofs.Ythcdiaahpodkoab.atDrawn.d22 = true := by kernel_rfl
set_option maxRecDepth 100000 in
theorem r_d26 : run Go.Proofs.Ythcdiaahpodkoab.atDrawn.d26 = true := by kernel_rfl
set_option maxRecDepth 100000 in
theorem r_d30 : run Go.Proofs.Ythcdiaahpodkoab.atDrawn.d30 = true := by kernel_rfl
set_option maxRecDepth 100000 in
theorem r_d34 : run Go.Proofs.Ythcdiaahpodkoab.atDrawn.d34 = true := by kernel_rfl
set_option maxRecDepth 100000 in
theorem r_d38 : run Go.Proofs.Ythcdiaahpodkoab.atDrawn.d38 = true := by kernel_rfl
set_option maxRecDepth 100000 in
theorem r_d42 : run Go.Proofs.Ythcdiaahpodkoab.atDrawn.d42 = true := by kernel_rfl
set_option maxRecDepth 100000 in
theorem r_d46 : run Go.Proofs.Ythcdiaahpodkoab.atDrawn.d46 = true := by kernel_rfl
set_option maxRecDepth 100000 in
theorem r_d50 : run Go.Proofs.Ythcdiaahpodkoab.atDrawn.d50 = true := by kernel_rfl
set_option maxRecDepth 100000 in
theorem r_d54 : run Go.Proofs.Ythcdiaahpodkoab.atDrawn.d54 = true := by kernel_rfl
set_option maxRecDepth 100000 in
theorem r_d58 : run Go.Proofs.Ythcdiaahpodkoab.atDrawn.d58 = true := by kernel_rfl
set_option maxRecDepth 100000 in
theorem r_d62 : run Go.Proofs.Ythcdiaahpodkoab.atDrawn.d62 = true := by kernel_rfl
set_option maxRecDepth 100000 in
theorem r_d66 : run Go.Proofs.Ythcdiaahpodkoab.atDrawn.d66 = true := by kernel_rfl
set_option maxRecDepth 100000 in
theorem r_d70 : run Go.Proofs.Ythcdiaahpodkoab.atDrawn.d70 = true := by kernel_rfl
set_option maxRecDepth 100000 in
theorem r_d74 : run Go.Proofs.Ythcdiaahpodkoab.atDrawn.d74 = true := by kernel_rfl
set_option maxRecDepth 100000 in
theorem r_d78 : run Go.Proofs.Ythcdiaahpodkoab.atDrawn.d78 = true := by kernel_rfl
set_option maxRecDepth 100000 in
theorem r_d82 : run Go.Proofs.Ythcdiaahpodkoab.atDrawn.d82 = true := by kernel_rfl
set_option maxRecDepth 100000 in
theorem r_d86 : run Go.Proofs.Ythcdiaahpodkoab.atDrawn.d86 = true := by kernel_rfl
set_option maxRecDepth 100000 in
theorem r_d90 : run Go.Proofs.Ythcdiaahpodkoab.atDrawn.d90 = true := by kernel_rfl
set_option maxRecDepth 100000 in
theorem r_d94 : run Go.Proofs.Ythcdiaahpodkoab.atDrawn.d94 = true := by kernel_rfl
set_option maxRecDepth 100000 in
theorem r_d98 : run Go.Proofs.Ythcdiaahpodkoab.atDrawn.d98 = true := by kernel_rfl
set_option maxRecDepth 100000 in
theorem r_d102 : run Go.Proofs.Ythcdiaahpodkoab.atDrawn.d102 = true := by kernel_rfl
set_option maxRecDepth 100000 in
theorem r_d106 : run Go.Proofs.Ythcdiaahpodkoab.atDrawn.d106 = true := by kernel_rfl
set_option maxRecDepth 100000 in
theorem r_d110 : run Go.Proofs.Ythcdiaahpodkoab.atDrawn.d110 = true := by kernel_rfl
set_option maxRecDepth 100000 in
theorem r_d114 : run Go.Proofs.Ythcdiaahpodkoab.atDrawn.d114 = true := by kernel_rfl
set_option maxRecDepth 100000 in
theorem r_d118 : run Go.Proofs.Ythcdiaahpodkoab.atDrawn.d118 = true := by kernel_rfl
set_option maxRecDepth 100000 in
theorem r_d122 : run Go.Proofs.Ythcdiaahpodkoab.atDrawn.d122 = true := by kernel_rfl
set_option maxRecDepth 100000 in
theorem r_d126 : run Go.Proofs.Ythcdiaahpodkoab.atDrawn.d126 = true := by kernel_rfl
set_option maxRecDepth 100000 in
theorem r_d130 : run Go.Proofs.Ythcdiaahpodkoab.atDrawn.d130 = true := by kernel_rfl
set_option maxRecDepth 100000 in
theorem r_d134 : run Go.Proofs.Ythcdiaahpodkoab.atDrawn.d134 = true := by kernel_rfl
set_option maxRecDepth 100000 in
theorem r_d138 : run Go.Proofs.Ythcdiaahpodkoab.atDrawn.d138 = true := by kernel_rfl
set_option maxRecDepth 100000 in
theorem r_d142 : run Go.Proofs.Ythcdiaahpodkoab.atDrawn.d142 = true := by kernel_rfl
set_option maxRecDepth 100000 in
theorem r_d146 : run Go.Proofs.Ythcdiaahpodkoab.atDrawn.d146 = true := by kernel_rfl
set_option maxRecDepth 100000 in
theorem r_d150 : run Go.Proofs.Ythcdiaahpodkoab.atDrawn.d150 = true := by kernel_rfl
set_option maxRecDepth 100000 in
theorem r_d154 : run Go.Proofs.Ythcdiaahpodkoab.atDrawn.d154 = true := by kernel_rfl
set_option maxRecDepth 100000 in
theorem r_d158 : run Go.Proofs.Ythcdiaahpodkoab.atDrawn.d158 = true := by kernel_rfl
set_option maxRecDepth 100000 in
theorem r_d162 : run Go.Proofs.Ythcdiaahpodkoab.atDrawn.d162 = true := by kernel_rfl
set_option maxRecDepth 100000 in
theorem r_d166 : run Go.Proofs.Ythcdiaahpodkoab.atDrawn.d166 = true := by kernel_rfl
set_option maxRecDepth 100000 in
theorem r_d170 : run Go.Proofs.Ythcdiaahpodkoab.atDrawn.d170 = true := by kernel_rfl
set_option maxRecDepth 100000 in
theorem r_d174 : run Go.Proofs.Ythcdiaahpodkoab.atDrawn.d174 = true := by kernel_rfl
set_option maxRecDepth 100000 in
theorem r_d178 : run Go.Proofs.Ythcdiaahpodkoab.atDrawn.d178 = true := by kernel_rfl
set_option maxRecDepth 100000 in
theorem r_d182 : run Go.Proofs.Ythcdiaahpodkoab.atDrawn.d182 = true := by kernel_rfl
set_option maxRecDepth 100000 in
theorem r_d186 : run Go.Proofs.Ythcdiaahpodkoab.atDrawn.d186 = true := by kernel_rfl
set_option maxRecDepth 100000 in
theorem r_d190 : run Go.Proofs.Ythcdiaahpodkoab.atDrawn.d190 = true := by kernel_rfl
set_option maxRecDepth 100000 in
theorem r_d194 : run Go.Proofs.Ythcdiaahpodkoab.atDrawn.d194 = true := by kernel_rfl
set_option maxRecDepth 100000 in
theorem r_d198 : run Go.Proofs.Ythcdiaahpodkoab.atDrawn.d198 = true := by kernel_rfl
set_option maxRecDepth 100000 in
theorem r_d202 : run Go.Proofs.Ythcdiaahpodkoab.atDrawn.d202 = true := by kernel_rfl
set_option maxRecDepth 100000 in
theorem r_d206 : run Go.Proofs.Ythcdiaahpodkoab.atDrawn.d206 = true := by kernel_rfl
set_option maxRecDepth 100000 in
theorem r_d210 : run Go.Proofs.Ythcdiaahpodkoab.atDrawn.d210 = true := by kernel_rfl
set_option maxRecDepth 100000 in
theorem r_d214 : run Go.Proofs.Ythcdiaahpodkoab.atDrawn.d214 = true := by kernel_rfl
set_option maxRecDepth 100000 in
theorem r_d218 : run Go.Proofs.Ythcdiaahpodkoab.atDrawn.d218 = true := by kernel_rfl
set_option maxRecDepth 100000 in
theorem r_d222 : run Go.Proofs.Ythcdiaahpodkoab.atDrawn.d222 = true := by kernel_rfl
set_option maxRecDepth 100000 in
theorem r_d226 : run Go.Proofs.Ythcdiaahpodkoab.atDrawn.d226 = true := by kernel_rfl
set_option maxRecDepth 100000 in
theorem r_d230 : run Go.Proofs.Ythcdiaahpodkoab.atDrawn.d230 = true := by kernel_rfl
set_option maxRecDepth 100000 in
theorem r_d234 : run Go.Proofs.Ythcdiaahpodkoab.atDrawn.d234 = true := by kernel_rfl
set_option maxRecDepth 100000 in
theorem r_d238 : run Go.Proofs.Ythcdiaahpodkoab.atDrawn.d238 = true := by kernel_rfl
set_option maxRecDepth 100000 in
theorem r_d242 : run Go.Proofs.Ythcdiaahpodkoab.atDrawn.d242 = true := by kernel_rfl
set_option maxRecDepth 100000 in
theorem r_d246 : run Go.Proofs.Ythcdiaahpodkoab.atDrawn.d246 = true := by kernel_rfl
set_option maxRecDepth 100000 in
theorem r_d250 : run Go.Proofs.Ythcdiaahpodkoab.atDrawn.d250 = true := by kernel_rfl
set_option maxRecDepth 100000 in
theorem r_d254 : run Go.Proofs.Ythcdiaahpodkoab.atDrawn.d254 = true := by kernel_rfl
set_option maxRecDepth 100000 in
theorem r_d258 : run Go.Proofs.Ythcdiaahpodkoab.atDrawn.d258 = true := by kernel_rfl
set_option maxRecDepth 100000 in
theorem r_d262 : run Go.Proofs.Ythcdiaahpodkoab.atDrawn.d262 = true := by kernel_rfl
set_option maxRecDepth 100000 in
theorem r_d266 : run Go.Proofs.Ythcdiaahpodkoab.atDrawn.d266 = true := by kernel_rfl
set_option maxRecDepth 100000 in
theorem r_d270 : run Go.Proofs.Ythcdiaahpodkoab.atDrawn.d270 = true := by kernel_rfl
set_option maxRecDepth 100000 in
theorem r_d274 : run Go.Proofs.Ythcdiaahpodkoab.atDrawn.d274 = true := by kernel_rfl
set_option maxRecDepth 100000 in
theorem r_d278 : run Go.Proofs.Ythcdiaahpodkoab.atDrawn.d278 = true := by kernel_rfl
set_option maxRecDepth 100000 in
theorem r_d282 : run Go.Proofs.Ythcdiaahpodkoab.atDrawn.d282 = true := by kernel_rfl
set_option maxRecDepth 100000 in
theorem r_d286 : run Go.Proofs.Ythcdiaahpodkoab.atDrawn.d286 = true := by kernel_rfl
set_option maxRecDepth 100000 in
theorem r_d290 : run Go.Proofs.Ythcdiaahpodkoab.atDrawn.d290 = true := by kernel_rfl
set_option maxRecDepth 100000 in
theorem r_d294 : run Go.Proofs.Ythcdiaahpodkoab.atDrawn.d294 = true := by kernel_rfl
set_option maxRecDepth 100000 in
theorem r_d298 : run Go.Proofs.Ythcdiaahpodkoab.atDrawn.d298 = true := by kernel_rfl
set_option maxRecDepth 100000 in
theorem r_d302 : run Go.Proofs.Ythcdiaahpodkoab.atDrawn.d302 = true := by kernel_rfl
set_option maxRecDepth 100000 in
theorem r_d306 : run Go.Proofs.Ythcdiaahpodkoab.atDrawn.d306 = true := by kernel_rfl
set_option maxRecDepth 100000 in
theorem r_d310 : run Go.Proofs.Ythcdiaahpodkoab.atDrawn.d310 = true := by kernel_rfl
set_option maxRecDepth 100000 in
theorem r_d314 : run Go.Proofs.Ythcdiaahpodkoab.atDrawn.d314 = true := by kernel_rfl
set_option maxRecDepth 100000 in
theorem r_d318 : run Go.Proofs.Ythcdiaahpodkoab.atDrawn.d318 = true := by kernel_rfl
set_option maxRecDepth 100000 in
theorem r_d322 : run Go.Proofs.Ythcdiaahpodkoab.atDrawn.d322 = true := by kernel_rfl
set_option maxRecDepth 100000 in
theorem r_d326 : run Go.Proofs.Ythcdiaahpodkoab.atDrawn.d326 = true := by kernel_rfl
set_option maxRecDepth 100000 in
theorem r_d330 : run Go.Proofs.Ythcdiaahpodkoab.atDrawn.d330 = true := by kernel_rfl
set_option maxRecDepth 100000 in
theorem r_d334 : run Go.Proofs.Ythcdiaahpodkoab.atDrawn.d334 = true := by kernel_rfl
set_option maxRecDepth 100000 in
theorem r_d338 : run Go.Proofs.Ythcdiaahpodkoab.atDrawn.d338 = true := by kernel_rfl
set_option maxRecDepth 100000 in
theorem r_d342 : run Go.Proofs.Ythcdiaahpodkoab.atDrawn.d342 = true := by kernel_rfl
set_option maxRecDepth 100000 in
theorem r_d346 : run Go.Proofs.Ythcdiaahpodkoab.atDrawn.d346 = true := by kernel_rfl
set_option maxRecDepth 100000 in
theorem r_d350 : run Go.Proofs.Ythcdiaahpodkoab.atDrawn.d350 = true := by kernel_rfl
end Go.Proofs.Ythcdiaahpodkoab.fnPlainRuns
