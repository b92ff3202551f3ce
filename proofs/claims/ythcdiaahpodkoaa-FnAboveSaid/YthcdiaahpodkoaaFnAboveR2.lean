/- Runs of the program at a seat. -/
import Derived.Test.YthcdiaahpodkoaaFnAboveP
namespace Go.Proofs.Ythcdiaahpodkoaa.fnAboveRuns
open Go Go.Eng
set_option linter.unusedVariables false
set_option linter.unusedSectionVars false
set_option linter.unusedSimpArgs false
set_option maxRecDepth 100000 in
theorem r1000_d2 : run1000 Go.Proofs.Ythcdiaahpodkoaa.pair3Drawn.d2 = true := by kernel_rfl
set_option maxRecDepth 100000 in
theorem r1001_d2 : run1001 Go.Proofs.Ythcdiaahpodkoaa.pair3Drawn.d2 = true := by kernel_rfl
set_option maxRecDepth 100000 in
theorem r1000_d6 : run1000 Go.Proofs.Ythcdiaahpodkoaa.pair3Drawn.d6 = true := by kernel_rfl
set_option maxRecDepth 100000 in
theorem r1001_d6 : run1001 Go.Proofs.Ythcdiaahpodkoaa.pair3Drawn.d6 = true := by kernel_rfl
set_option maxRecDepth 100000 in
theorem r1000_d10 : run1000 Go.Proofs.Ythcdiaahpodkoaa.pair3Drawn.d10 = true := by kernel_rfl
set_option maxRecDepth 100000 in
theorem r1001_d10 : run1001 Go.Proofs.Ythcdiaahpodkoaa.pair3Drawn.d10 = true := by kernel_rfl
set_option maxRecDepth 100000 in
theorem r1000_d14 : run1000 Go.Proofs.Ythcdiaahpodkoaa.pair3Drawn.d14 = true := by kernel_rfl
set_option maxRecDepth 100000 in
theorem r1001_d14 : run1001 Go.Proofs.Ythcdiaahpodkoaa.pair3Drawn.d14 = true := by kernel_rfl
set_option maxRecDepth 100000 in
theorem r1000_d18 : run1000 Go.Proofs.Ythcdiaahpodkoaa.pair3Drawn.d18 = true := by kernel_rfl
set_option maxRecDepth 100000 in
theorem r1001_d18 : run1001 Go.Proofs.Ythcdiaahpodkoaa.pair3Drawn.d18 = true := by kernel_rfl
set_option maxRecDepth 100000 in
theorem r1000_d22 : run1000 Go.Proofs.Ythcdiaahpodkoaa.pair3Drawn.d22 = true := by kernel_rfl
set_option maxRecDepth 100000 in
theorem r1001_d22 : run1001 Go.Proofs.Ythcdiaahpodkoaa.pair3Drawn.d22 = true := by kernel_rfl
set_option maxRecDepth 100000 in
theorem r1000_d26 : run1000 Go.Proofs.Ythcdiaahpodkoaa.pair3Drawn.d26 = true := by kernel_rfl
set_option maxRecDepth 100000 in
theorem r1001_d26 : run1001 Go.Proofs.Ythcdiaahpodkoaa.pair3Drawn.d26 = true := by kernel_rfl
set_option maxRecDepth 100000 in
theorem r1000_d30 : run1000 Go.Proofs.Ythcdiaahpodkoaa.pair3Drawn.d30 = true := by kernel_rfl
set_option maxRecDepth 100000 in
theorem r1001_d30 : run1001 Go.Proofs.Ythcdiaahpodkoaa.pair3Drawn.d30 = true := by kernel_rfl
set_option maxRecDepth 100000 in
theorem r1000_d34 : run1000 Go.Proofs.Ythcdiaahpodkoaa.pair3Drawn.d34 = true := by kernel_rfl
set_option maxRecDepth 100000 in
theorem r1001_d34 : run1001 Go.Proofs.Ythcdiaahpodkoaa.pair3Drawn.d34 = true := by kernel_rfl
set_option maxRecDepth 100000 in
theorem r1000_d38 : run1000 Go.Proofs.Ythcdiaahpodkoaa.pair3Drawn.d38 = true := by kernel_rfl
set_option maxRecDepth 100000 in
theorem r1001_d38 : run1001 Go.Proofs.Ythcdiaahpodkoaa.pair3Drawn.d38 = true := by kernel_rfl
set_option maxRecDepth 100000 in
theorem r1000_d42 : run1000 Go.Proofs.Ythcdiaahpodkoaa.pair3Drawn.d42 = true := by kernel_rfl
set_option maxRecDepth 100000 in
theorem r1001_d42 : run1001 Go.Proofs.Ythcdiaahpodkoaa.pair3Drawn.d42 = true := by kernel_rfl
set_option maxRecDepth 100000 in
theorem r1000_d46 : run1000 Go.Proofs.Ythcdiaahpodkoaa.pair3Drawn.d46 = true := by kernel_rfl
set_option maxRecDepth 100000 in
theorem r1001_d46 : run1001 Go.Proofs.Ythcdiaahpodkoaa.pair3Drawn.d46 = true := by kernel_rfl
set_option maxRecDepth 100000 in
theorem r1000_d50 : run1000 Go.Proofs.Ythcdiaahpodkoaa.pair3Drawn.d50 = true := by kernel_rfl
set_option maxRecDepth 100000 in
theorem r1001_d50 : run1001 Go.Proofs.Ythcdiaahpodkoaa.pair3Drawn.d50 = true := by kernel_rfl
set_option maxRecDepth 100000 in
theorem r1000_d54 : run1000 Go.Proofs.Ythcdiaahpodkoaa.pair3Drawn.d54 = true := by kernel_rfl
set_option maxRecDepth 100000 in
theorem r1001_d54 : run1001 Go.Proofs.Ythcdiaahpodkoaa.pair3Drawn.d54 = true := by kernel_rfl
set_option maxRecDepth 100000 in
theorem r1000_d58 : run1000 Go.Proofs.Ythcdiaahpodkoaa.pair3Drawn.d58 = true := by kernel_rfl
set_option maxRecDepth 100000 in
theorem r1001_d58 : run1001 Go.Proofs.Ythcdiaahpodkoaa.pair3Drawn.d58 = true := by kernel_rfl
set_option maxRecDepth 100000 in
theorem r1000_d62 : run1000 Go.Proofs.Ythcdiaahpodkoaa.pair3Drawn.d62 = true := by kernel_rfl
set_option maxRecDepth 100000 in
theorem r1001_d62 : run1001 Go.Proofs.Ythcdiaahpodkoaa.pair3Drawn.d62 = true := by kernel_rfl
set_option maxRecDepth 100000 in
theorem r1000_d66 : run1000 Go.Proofs.Ythcdiaahpodkoaa.pair3Drawn.d66 = true := by kernel_rfl
set_option maxRecDepth 100000 in
theorem r1001_d66 : run1001 Go.Proofs.Ythcdiaahpodkoaa.pair3Drawn.d66 = true := by kernel_rfl
set_option maxRecDepth 100000 in
theorem r1000_d70 : run1000 Go.Proofs.Ythcdiaahpodkoaa.pair3Drawn.d70 = true := by kernel_rfl
set_option maxRecDepth 100000 in
theorem r1001_d70 : run1001 Go.Proofs.Ythcdiaahpodkoaa.pair3Drawn.d70 = true := by kernel_rfl
set_option maxRecDepth 100000 in
theorem r1000_d74 : run1000 Go.Proofs.Ythcdiaahpodkoaa.pair3Drawn.d74 = true := by kernel_rfl
set_option maxRecDepth 100000 in
theorem r1001_d74 : run1001 Go.Proofs.Ythcdiaahpodkoaa.pair3Drawn.d74 = true := by kernel_rfl
set_option maxRecDepth 100000 in
theorem r1000_d78 : run1000 Go.Proofs.Ythcdiaahpodkoaa.pair3Drawn.d78 = true := by kernel_rfl
set_option maxRecDepth 100000 in
theorem r1001_d78 : run1001 Go.Proofs.Ythcdiaahpodkoaa.pair3Drawn.d78 = true := by kernel_rfl
set_option maxRecDepth 100000 in
theorem r1000_d82 : run1000 Go.Proofs.Ythcdiaahpodkoaa.pair3Drawn.d82 = true := by kernel_rfl
set_option maxRecDepth 100000 in
theorem r1001_d82 : run1001 Go.Proofs.Ythcdiaahpodkoaa.pair3Drawn.d82 = true := by kernel_rfl
set_option maxRecDepth 100000 in
theorem r1000_d86 : run1000 Go.Proofs.Ythcdiaahpodkoaa.pair3Drawn.d86 = true := by kernel_rfl
set_option maxRecDepth 100000 in
theorem r1001_d86 : run1001 Go.Proofs.Ythcdiaahpodkoaa.pair3Drawn.d86 = true := by kernel_rfl
set_option maxRecDepth 100000 in
theorem r1000_d90 : run1000 Go.Proofs.Ythcdiaahpodkoaa.pair3Drawn.d90 = true := by kernel_rfl
set_option maxRecDepth 100000 in
theorem r1001_d90 : run1001 Go.Proofs.Ythcdiaahpodkoaa.pair3Drawn.d90 = true := by kernel_rfl
set_option maxRecDepth 100000 in
theorem r1000_d94 : run1000 Go.Proofs.Ythcdiaahpodkoaa.pair3Drawn.d94 = true := by kernel_rfl
set_option maxRecDepth 100000 in
theorem r1001_d94 : run1001 Go.Proofs.Ythcdiaahpodkoaa.pair3Drawn.d94 = true := by kernel_rfl
set_option maxRecDepth 100000 in
theorem r1000_d98 : run1000 Go.Proofs.Ythcdiaahpodkoaa.pair3Drawn.d98 = true := by kernel_rfl
set_option maxRecDepth 100000 in
theorem r1001_d98 : run1001 Go.Proofs.Ythcdiaahpodkoaa.pair3Drawn.d98 = true := by kernel_rfl
set_option maxRecDepth 100000 in
theorem r1000_d102 : run1000 Go.Proofs.Ythcdiaahpodkoaa.pair3Drawn.d102 = true := by kernel_rfl
set_option maxRecDepth 100000 in
theorem r1001_d102 : run1001 Go.Proofs.Ythcdiaahpodkoaa.pair3Drawn.d102 = true := by kernel_rfl
set_option maxRecDepth 100000 in
theorem r1000_d106 : run1000 Go.Proofs.Ythcdiaahpodkoaa.pair3Drawn.d106 = true := by kernel_rfl
set_option maxRecDepth 100000 in
theorem r1001_d106 : run1001 Go.Proofs.Ythcdiaahpodkoaa.pair3Drawn.d106 = true := by kernel_rfl
set_option maxRecDepth 100000 in
theorem r1000_d110 : run1000 Go.Proofs.Ythcdiaahpodkoaa.pair3Drawn.d110 = true := by kernel_rfl
set_option maxRecDepth 100000 in
theorem r1001_d110 : run1001 Go.Proofs.Ythcdiaahpodkoaa.pair3Drawn.d110 = true := by kernel_rfl
set_option maxRecDepth 100000 in
theorem r1000_d114 : run1000 Go.Proofs.Ythcdiaahpodkoaa.pair3Drawn.d114 = true := by kernel_rfl
set_option maxRecDepth 100000 in
theorem r1001_d114 : run1001 Go.Proofs.Ythcdiaahpodkoaa.pair3Drawn.d114 = true := by kernel_rfl
set_option maxRecDepth 100000 in
theorem r1000_d118 : run1000 Go.Proofs.Ythcdiaahpodkoaa.pair3Drawn.d118 = true := by kernel_rfl
set_option maxRecDepth 100000 in
theorem r1001_d118 : run1001 Go.Proofs.Ythcdiaahpodkoaa.pair3Drawn.d118 = true := by kernel_rfl
set_option maxRecDepth 100000 in
theorem r1000_d122 : run1000 Go.Proofs.Ythcdiaahpodkoaa.pair3Drawn.d122 = true := by kernel_rfl
set_option maxRecDepth 100000 in
theorem r1001_d122 : run1001 Go.Proofs.Ythcdiaahpodkoaa.pair3Drawn.d122 = true := by kernel_rfl
set_option maxRecDepth 100000 in
theorem r1000_d126 : run1000 Go.Proofs.Ythcdiaahpodkoaa.pair3Drawn.d126 = true := by kernel_rfl
set_option maxRecDepth 100000 in
theorem r1001_d126 : run1001 Go.Proofs.Ythcdiaahpodkoaa.pair3Drawn.d126 = true := by kernel_rfl
set_option maxRecDepth 100000 in
theorem r1000_d130 : run1000 Go.Proofs.Ythcdiaahpodkoaa.pair3Drawn.d130 = true := by kernel_rfl
set_option maxRecDepth 100000 in
theorem r1001_d130 : run1001 Go.Proofs.Ythcdiaahpodkoaa.pair3Drawn.d130 = true := by kernel_rfl
set_option maxRecDepth 100000 in
theorem r1000_d134 : run1000 Go.Proofs.Ythcdiaahpodkoaa.pair3Drawn.d134 = true := by kernel_rfl
set_option maxRecDepth 100000 in
theorem r1001_d134 : run1001 Go.Proofs.Ythcdiaahpodkoaa.pair3Drawn.d134 = true := by kernel_rfl
set_option maxRecDepth 100000 in
theorem r1000_d138 : run1000 Go.Proofs.Ythcdiaahpodkoaa.pair3Drawn.d138 = true := by kernel_rfl
set_option maxRecDepth 100000 in
theorem r1001_d138 : run1001 Go.Proofs.Ythcdiaahpodkoaa.pair3Drawn.d138 = true := by kernel_rfl
set_option maxRecDepth 100000 in
theorem r1000_d142 : run1000 Go.Proofs.Ythcdiaahpodkoaa.pair3Drawn.d142 = true := by kernel_rfl
set_option maxRecDepth 100000 in
theorem r1001_d142 : run1001 Go.Proofs.Ythcdiaahpodkoaa.pair3Drawn.d142 = true := by kernel_rfl
set_option maxRecDepth 100000 in
theorem r1000_d146 : run1000 Go.Proofs.Ythcdiaahpodkoaa.pair3Drawn.d146 = true := by kernel_rfl
set_option maxRecDepth 100000 in
theorem r1001_d146 : run1001 Go.Proofs.Ythcdiaahpodkoaa.pair3Drawn.d146 = true := by kernel_rfl
set_option maxRecDepth 100000 in
theorem r1000_d150 : run1000 Go.Proofs.Ythcdiaahpodkoaa.pair3Drawn.d150 = true := by kernel_rfl
set_option maxRecDepth 100000 in
theorem r1001_d150 : run1001 Go.Proofs.Ythcdiaahpodkoaa.pair3Drawn.d150 = true := by kernel_rfl
set_option maxRecDepth 100000 in
theorem r1000_d154 : run1000 Go.Proofs.Ythcdiaahpodkoaa.pair3Drawn.d154 = true := by kernel_rfl
set_option maxRecDepth 100000 in
theorem r1001_d154 : run1001 Go.Proofs.Ythcdiaahpodkoaa.pair3Drawn.d154 = true := by kernel_rfl
set_option maxRecDepth 100000 in
theorem r1000_d158 : run1000 Go.Proofs.Ythcdiaahpodkoaa.pair3Drawn.d158 = true := by kernel_rfl
set_option maxRecDepth 100000 in
theorem r1001_d158 : run1001 Go.Proofs.Ythcdiaahpodkoaa.pair3Drawn.d158 = true := by kernel_rfl
set_option maxRecDepth 100000 in
theorem r1000_d162 : run1000 Go.Proofs.Ythcdiaahpodkoaa.pair3Drawn.d162 = true := by kernel_rfl
set_option maxRecDepth 100000 in
theorem r1001_d162 : run1001 Go.Proofs.Ythcdiaahpodkoaa.pair3Drawn.d162 = true := by kernel_rfl
set_option maxRecDepth 100000 in
theorem r1000_d166 : run1000 Go.Proofs.Ythcdiaahpodkoaa.pair3Drawn.d166 = true := by kernel_rfl
set_option maxRecDepth 100000 in
theorem r1001_d166 : run1001 Go.Proofs.Ythcdiaahpodkoaa.pair3Drawn.d166 = true := by kernel_rfl
set_option maxRecDepth 100000 in
theorem r1000_d170 : run1000 Go.Proofs.Ythcdiaahpodkoaa.pair3Drawn.d170 = true := by kernel_rfl
set_option maxRecDepth 100000 in
theorem r1001_d170 : run1001 Go.Proofs.Ythcdiaahpodkoaa.pair3Drawn.d170 = true := by kernel_rfl
set_option maxRecDepth 100000 in
theorem r1000_d174 : run1000 Go.Proofs.Ythcdiaahpodkoaa.pair3Drawn.d174 = true := by kernel_rfl
set_option maxRecDepth 100000 in
theorem r1001_d174 : run1001 Go.Proofs.Ythcdiaahpodkoaa.pair3Drawn.d174 = true := by kernel_rfl
set_option maxRecDepth 100000 in
theorem r1000_d178 : run1000 Go.Proofs.Ythcdiaahpodkoaa.pair3Drawn.d178 = true := by kernel_rfl
set_option maxRecDepth 100000 in
theorem r1001_d178 : run1001 Go.Proofs.Ythcdiaahpodkoaa.pair3Drawn.d178 = true := by kernel_rfl
set_option maxRecDepth 100000 in
theorem r1000_d182 : run1000 Go.Proofs.Ythcdiaahpodkoaa.pair3Drawn.d182 = true := by kernel_rfl
set_option maxRecDepth 100000 in
theorem r1001_d182 : run1001 Go.Proofs.Ythcdiaahpodkoaa.pair3Drawn.d182 = true := by kernel_rfl
set_option maxRecDepth 100000 in
theorem r1000_d186 : run1000 Go.Proofs.Ythcdiaahpodkoaa.pair3Drawn.d186 = true := by kernel_rfl
set_option maxRecDepth 100000 in
theorem r1001_d186 : run1001 Go.Proofs.Ythcdiaahpodkoaa.pair3Drawn.d186 = true := by kernel_rfl
set_option maxRecDepth 100000 in
theorem r1000_d190 : run1000 Go.Proofs.Ythcdiaahpodkoaa.pair3Drawn.d190 = true := by kernel_rfl
set_option maxRecDepth 100000 in
theorem r1001_d190 : run1001 Go.Proofs.Ythcdiaahpodkoaa.pair3Drawn.d190 = true := by kernel_rfl
set_option maxRecDepth 100000 in
theorem r1000_d194 : run1000 Go.Proofs.Ythcdiaahpodkoaa.pair3Drawn.d194 = true := by kernel_rfl
set_option maxRecDepth 100000 in
theorem r1001_d194 : run1001 Go.Proofs.Ythcdiaahpodkoaa.pair3Drawn.d194 = true := by kernel_rfl
set_option maxRecDepth 100000 in
theorem r1000_d198 : run1000 Go.Proofs.Ythcdiaahpodkoaa.pair3Drawn.d198 = true := by kernel_rfl
set_option maxRecDepth 100000 in
theorem r1001_d198 : run1001 Go.Proofs.Ythcdiaahpodkoaa.pair3Drawn.d198 = true := by kernel_rfl
set_option maxRecDepth 100000 in
theorem r1000_d202 : run1000 Go.Proofs.Ythcdiaahpodkoaa.pair3Drawn.d202 = true := by kernel_rfl
set_option maxRecDepth 100000 in
theorem r1001_d202 : run1001 Go.Proofs.Ythcdiaahpodkoaa.pair3Drawn.d202 = true := by kernel_rfl
set_option maxRecDepth 100000 in
theorem r1000_d206 : run1000 Go.Proofs.Ythcdiaahpodkoaa.pair3Drawn.d206 = true := by kernel_rfl
set_option maxRecDepth 100000 in
theorem r1001_d206 : run1001 Go.Proofs.Ythcdiaahpodkoaa.pair3Drawn.d206 = true := by kernel_rfl
set_option maxRecDepth 100000 in
theorem r1000_d210 : run1000 Go.Proofs.Ythcdiaahpodkoaa.pair3Drawn.d210 = true := by kernel_rfl
set_option maxRecDepth 100000 in
theorem r1001_d210 : run1001 Go.Proofs.Ythcdiaahpodkoaa.pair3Drawn.d210 = true := by kernel_rfl
set_option maxRecDepth 100000 in
theorem r1000_d214 : run1000 Go.Proofs.Ythcdiaahpodkoaa.pair3Drawn.d214 = true := by kernel_rfl
set_option maxRecDepth 100000 in
theorem r1001_d214 : run1001 Go.Proofs.Ythcdiaahpodkoaa.pair3Drawn.d214 = true := by kernel_rfl
set_option maxRecDepth 100000 in
theorem r1000_d218 : run1000 Go.Proofs.Ythcdiaahpodkoaa.pair3Drawn.d218 = true := by kernel_rfl
set_option maxRecDepth 100000 in
theorem r1001_d218 : run1001 Go.Proofs.Ythcdiaahpodkoaa.pair3Drawn.d218 = true := by kernel_rfl
set_option maxRecDepth 100000 in
theorem r1000_d222 : run1000 Go.Proofs.Ythcdiaahpodkoaa.pair3Drawn.d222 = true := by kernel_rfl
set_option maxRecDepth 100000 in
theorem r1001_d222 : run1001 Go.Proofs.Ythcdiaahpodkoaa.pair3Drawn.d222 = true := by kernel_rfl
set_option maxRecDepth 100000 in
theorem r1000_d226 : run1000 Go.Proofs.Ythcdiaahpodkoaa.pair3Drawn.d226 = true := by kernel_rfl
set_option maxRecDepth 100000 in
theorem r1001_d226 : run1001 Go.Proofs.Ythcdiaahpodkoaa.pair3Drawn.d226 = true := by kernel_rfl
set_option maxRecDepth 100000 in
theorem r1000_d230 : run1000 Go.Proofs.Ythcdiaahpodkoaa.pair3Drawn.d230 = true := by kernel_rfl
set_option maxRecDepth 100000 in
theorem r1001_d230 : run1001 Go.Proofs.Ythcdiaahpodkoaa.pair3Drawn.d230 = true := by kernel_rfl
set_option maxRecDepth 100000 in
theorem r1000_d234 : run1000 Go.Proofs.Ythcdiaahpodkoaa.pair3Drawn.d234 = true := by kernel_rfl
set_option maxRecDepth 100000 in
theorem r1001_d234 : run1001 Go.Proofs.Ythcdiaahpodkoaa.pair3Drawn.d234 = true := by kernel_rfl
set_option maxRecDepth 100000 in
theorem r1000_d238 : run1000 Go.Proofs.Ythcdiaahpodkoaa.pair3Drawn.d238 = true := by kernel_rfl
set_option maxRecDepth 100000 in
theorem r1001_d238 : run1001 Go.Proofs.Ythcdiaahpodkoaa.pair3Drawn.d238 = true := by kernel_rfl
set_option maxRecDepth 100000 in
theorem r1000_d242 : run1000 Go.Proofs.Ythcdiaahpodkoaa.pair3Drawn.d242 = true := by kernel_rfl
set_option maxRecDepth 100000 in
theorem r1001_d242 : run1001 Go.Proofs.Ythcdiaahpodkoaa.pair3Drawn.d242 = true := by kernel_rfl
set_option maxRecDepth 100000 in
theorem r1000_d246 : run1000 Go.Proofs.Ythcdiaahpodkoaa.pair3Drawn.d246 = true := by kernel_rfl
set_option maxRecDepth 100000 in
theorem r1001_d246 : run1001 Go.Proofs.Ythcdiaahpodkoaa.pair3Drawn.d246 = true := by kernel_rfl
set_option maxRecDepth 100000 in
theorem r1000_d250 : run1000 Go.Proofs.Ythcdiaahpodkoaa.pair3Drawn.d250 = true := by kernel_rfl
set_option maxRecDepth 100000 in
theorem r1001_d250 : run1001 Go.Proofs.Ythcdiaahpodkoaa.pair3Drawn.d250 = true := by kernel_rfl
set_option maxRecDepth 100000 in
theorem r1000_d254 : run1000 Go.Proofs.Ythcdiaahpodkoaa.pair3Drawn.d254 = true := by kernel_rfl
set_option maxRecDepth 100000 in
theorem r1001_d254 : run1001 Go.Proofs.Ythcdiaahpodkoaa.pair3Drawn.d254 = true := by kernel_rfl
set_option maxRecDepth 100000 in
theorem r1000_d258 : run1000 Go.Proofs.Ythcdiaahpodkoaa.pair3Drawn.d258 = true := by kernel_rfl
set_option maxRecDepth 100000 in
theorem r1001_d258 : run1001 Go.Proofs.Ythcdiaahpodkoaa.pair3Drawn.d258 = true := by kernel_rfl
set_option maxRecDepth 100000 in
theorem r1000_d262 : run1000 Go.Proofs.Ythcdiaahpodkoaa.pair3Drawn.d262 = true := by kernel_rfl
set_option maxRecDepth 100000 in
theorem r1001_d262 : run1001 Go.Proofs.Ythcdiaahpodkoaa.pair3Drawn.d262 = true := by kernel_rfl
set_option maxRecDepth 100000 in
theorem r1000_d266 : run1000 Go.Proofs.Ythcdiaahpodkoaa.pair3Drawn.d266 = true := by kernel_rfl
set_option maxRecDepth 100000 in
theorem r1001_d266 : run1001 Go.Proofs.Ythcdiaahpodkoaa.pair3Drawn.d266 = true := by kernel_rfl
set_option maxRecDepth 100000 in
theorem r1000_d270 : run1000 Go.Proofs.Ythcdiaahpodkoaa.pair3Drawn.d270 = true := by kernel_rfl
set_option maxRecDepth 100000 in
theorem r1001_d270 : run1001 Go.Proofs.Ythcdiaahpodkoaa.pair3Drawn.d270 = true := by kernel_rfl
set_option maxRecDepth 100000 in
theorem r1000_d274 : run1000 Go.Proofs.Ythcdiaahpodkoaa.pair3Drawn.d274 = true := by kernel_rfl
set_option maxRecDepth 100000 in
theorem r1001_d274 : run1001 Go.Proofs.Ythcdiaahpodkoaa.pair3Drawn.d274 = true := by kernel_rfl
set_option maxRecDepth 100000 in
theorem r1000_d278 : run1000 Go.Proofs.Ythcdiaahpodkoaa.pair3Drawn.d278 = true := by kernel_rfl
set_option maxRecDepth 100000 in
theorem r1001_d278 : run1001 Go.Proofs.Ythcdiaahpodkoaa.pair3Drawn.d278 = true := by kernel_rfl
set_option maxRecDepth 100000 in
theorem r1000_d282 : run1000 Go.Proofs.Ythcdiaahpodkoaa.pair3Drawn.d282 = true := by kernel_rfl
set_option maxRecDepth 100000 in
theorem r1001_d282 : run1001 Go.Proofs.Ythcdiaahpodkoaa.pair3Drawn.d282 = true := by kernel_rfl
set_option maxRecDepth 100000 in
theorem r1000_d286 : run1000 Go.Proofs.Ythcdiaahpodkoaa.pair3Drawn.d286 = true := by kernel_rfl
set_option maxRecDepth 100000 in
theorem r1001_d286 : run1001 Go.Proofs.Ythcdiaahpodkoaa.pair3Drawn.d286 = true := by kernel_rfl
set_option maxRecDepth 100000 in
theorem r1000_d290 : run1000 Go.Proofs.Ythcdiaahpodkoaa.pair3Drawn.d290 = true := by kernel_rfl
set_option maxRecDepth 100000 in
theorem r1001_d290 : run1001 Go.Proofs.Ythcdiaahpodkoaa.pair3Drawn.d290 = true := by kernel_rfl
set_option maxRecDepth 100000 in
theorem r1000_d294 : run1000 Go.Proofs.Ythcdiaahpodkoaa.pair3Drawn.d294 = true := by kernel_rfl
set_option maxRecDepth 100000 in
theorem r1001_d294 : run1001 Go.Proofs.Ythcdiaahpodkoaa.pair3Drawn.d294 = true := by kernel_rfl
set_option maxRecDepth 100000 in
theorem r1000_d298 : run1000 Go.Proofs.Ythcdiaahpodkoaa.pair3Drawn.d298 = true := by kernel_rfl
set_option maxRecDepth 100000 in
theorem r1001_d298 : run1001 Go.Proofs.Ythcdiaahpodkoaa.pair3Drawn.d298 = true := by kernel_rfl
set_option maxRecDepth 100000 in
theorem r1000_d302 : run1000 Go.Proofs.Ythcdiaahpodkoaa.pair3Drawn.d302 = true := by kernel_rfl
set_option maxRecDepth 100000 in
theorem r1001_d302 : run1001 Go.Proofs.Ythcdiaahpodkoaa.pair3Drawn.d302 = true := by kernel_rfl
set_option maxRecDepth 100000 in
theorem r1000_d306 : run1000 Go.Proofs.Ythcdiaahpodkoaa.pair3Drawn.d306 = true := by kernel_rfl
set_option maxRecDepth 100000 in
theorem r1001_d306 : run1001 Go.Proofs.Ythcdiaahpodkoaa.pair3Drawn.d306 = true := by kernel_rfl
set_option maxRecDepth 100000 in
theorem r1000_d310 : run1000 Go.Proofs.Ythcdiaahpodkoaa.pair3Drawn.d310 = true := by kernel_rfl
set_option maxRecDepth 100000 in
theorem r1001_d310 : run1001 Go.Proofs.Ythcdiaahpodkoaa.pair3Drawn.d310 = true := by kernel_rfl
set_option maxRecDepth 100000 in
theorem r1000_d314 : run1000 Go.Proofs.Ythcdiaahpodkoaa.pair3Drawn.d314 = true := by kernel_rfl
set_option maxRecDepth 100000 in
theorem r1001_d314 : run1001 Go.Proofs.Ythcdiaahpodkoaa.pair3Drawn.d314 = true := by kernel_rfl
set_option maxRecDepth 100000 in
theorem r1000_d318 : run1000 Go.Proofs.Ythcdiaahpodkoaa.pair3Drawn.d318 = true := by kernel_rfl
set_option maxRecDepth 100000 in
theorem r1001_d318 : run1001 Go.Proofs.Ythcdiaahpodkoaa.pair3Drawn.d318 = true := by kernel_rfl
set_option maxRecDepth 100000 in
theorem r1000_d322 : run1000 Go.Proofs.Ythcdiaahpodkoaa.pair3Drawn.d322 = true := by kernel_rfl
set_option maxRecDepth 100000 in
theorem r1001_d322 : run1001 Go.Proofs.Ythcdiaahpodkoaa.pair3Drawn.d322 = true := by kernel_rfl
set_option maxRecDepth 100000 in
theorem r1000_d326 : run1000 Go.Proofs.Ythcdiaahpodkoaa.pair3Drawn.d326 = true := by kernel_rfl
set_option maxRecDepth 100000 in
theorem r1001_d326 : run1001 Go.Proofs.Ythcdiaahpodkoaa.pair3Drawn.d326 = true := by kernel_rfl
set_option maxRecDepth 100000 in
theorem r1000_d330 : run1000 Go.Proofs.Ythcdiaahpodkoaa.pair3Drawn.d330 = true := by kernel_rfl
set_option maxRecDepth 100000 in
theorem r1001_d330 : run1001 Go.Proofs.Ythcdiaahpodkoaa.pair3Drawn.d330 = true := by kernel_rfl
set_option maxRecDepth 100000 in
theorem r1000_d334 : run1000 Go.Proofs.Ythcdiaahpodkoaa.pair3Drawn.d334 = true := by kernel_rfl
set_option maxRecDepth 100000 in
theorem r1001_d334 : run1001 Go.Proofs.Ythcdiaahpodkoaa.pair3Drawn.d334 = true := by kernel_rfl
set_option maxRecDepth 100000 in
theorem r1000_d338 : run1000 Go.Proofs.Ythcdiaahpodkoaa.pair3Drawn.d338 = true := by kernel_rfl
set_option maxRecDepth 100000 in
theorem r1001_d338 : run1001 Go.Proofs.Ythcdiaahpodkoaa.pair3Drawn.d338 = true := by kernel_rfl
set_option maxRecDepth 100000 in
theorem r1000_d342 : run1000 Go.Proofs.Ythcdiaahpodkoaa.pair3Drawn.d342 = true := by kernel_rfl
set_option maxRecDepth 100000 in
theorem r1001_d342 : run1001 Go.Proofs.Ythcdiaahpodkoaa.pair3Drawn.d342 = true := by kernel_rfl
set_option maxRecDepth 100000 in
theorem r1000_d346 : run1000 Go.Proofs.Ythcdiaahpodkoaa.pair3Drawn.d346 = true := by kernel_rfl
set_option maxRecDepth 100000 in
theorem r1001_d346 : run1001 Go.Proofs.Ythcdiaahpodkoaa.pair3Drawn.d346 = true := by kernel_rfl
set_option maxRecDepth 100000 in
theorem r1000_d350 : run1000 Go.Proofs.Ythcdiaahpodkoaa.pair3Drawn.d350 = true := by kernel_rfl
set_option maxRecDepth 100000 in
theorem r1001_d350 : run1001 Go.Proofs.Ythcdiaahpodkoaa.pair3Drawn.d350 = true := by kernel_rfl
set_option maxRecDepth 100000 in
theorem r1000_d354 : run1000 Go.Proofs.Ythcdiaahpodkoaa.pair3Drawn.d354 = true := by kernel_rfl
set_option maxRecDepth 100000 in
theorem r1001_d354 : run1001 Go.Proofs.Ythcdiaahpodkoaa.pair3Drawn.d354 = true := by kernel_rfl
set_option maxRecDepth 100000 in
theorem r1000_d358 : run1000 Go.Proofs.Ythcdiaahpodkoaa.pair3Drawn.d358 = true := by kernel_rfl
set_option maxRecDepth 100000 in
theorem r1001_d358 : run1001 Go.Proofs.Ythcdiaahpodkoaa.pair3Drawn.d358 = true := by kernel_rfl
set_option maxRecDepth 100000 in
theorem r1000_d362 : run1000 Go.Proofs.Ythcdiaahpodkoaa.pair3Drawn.d362 = true := by kernel_rfl
set_option maxRecDepth 100000 in
theorem r1001_d362 : run1001 Go.Proofs.Ythcdiaahpodkoaa.pair3Drawn.d362 = true := by kernel_rfl
set_option maxRecDepth 100000 in
theorem r1000_d366 : run1000 Go.Proofs.Ythcdiaahpodkoaa.pair3Drawn.d366 = true := by kernel_rfl
set_option maxRecDepth 100000 in
theorem r1001_d366 : run1001 Go.Proofs.Ythcdiaahpodkoaa.pair3Drawn.d366 = true := by kernel_rfl
set_option maxRecDepth 100000 in
theorem r1000_d370 : run1000 Go.Proofs.Ythcdiaahpodkoaa.pair3Drawn.d370 = true := by kernel_rfl
set_option maxRecDepth 100000 in
theorem r1001_d370 : run1001 Go.Proofs.Ythcdiaahpodkoaa.pair3Drawn.d370 = true := by kernel_rfl
set_option maxRecDepth 100000 in
theorem r1000_d374 : run1000 Go.Proofs.Ythcdiaahpodkoaa.pair3Drawn.d374 = true := by kernel_rfl
set_option maxRecDepth 100000 in
theorem r1001_d374 : run1001 Go.Proofs.Ythcdiaahpodkoaa.pair3Drawn.d374 = true := by kernel_rfl
set_option maxRecDepth 100000 in
theorem r1000_d378 : run1000 Go.Proofs.Ythcdiaahpodkoaa.pair3Drawn.d378 = true := by kernel_rfl
set_option maxRecDepth 100000 in
theorem r1001_d378 : run1001 Go.Proofs.Ythcdiaahpodkoaa.pair3Drawn.d378 = true := by kernel_rfl
set_option maxRecDepth 100000 in
theorem r1000_d382 : run1000 Go.Proofs.Ythcdiaahpodkoaa.pair3Drawn.d382 = true := by kernel_rfl
set_option maxRecDepth 100000 in
theorem r1001_d382 : run1001 Go.Proofs.Ythcdiaahpodkoaa.pair3Drawn.d382 = true := by kernel_rfl
set_option maxRecDepth 100000 in
theorem r1000_d386 : run1000 Go.Proofs.Ythcdiaahpodkoaa.pair3Drawn.d386 = true := by kernel_rfl
set_option maxRecDepth 100000 in
theorem r1001_d386 : run1001 Go.Proofs.Ythcdiaahpodkoaa.pair3Drawn.d386 = true := by kernel_rfl
set_option maxRecDepth 100000 in
theorem r1000_d390 : run1000 Go.Proofs.Ythcdiaahpodkoaa.pair3Drawn.d390 = true := by kernel_rfl
set_option maxRecDepth 100000 in
theorem r1001_d390 : run1001 Go.Proofs.Ythcdiaahpodkoaa.pair3Drawn.d390 = true := by kernel_rfl
set_option maxRecDepth 100000 in
theorem r1000_d394 : run1000 Go.Proofs.Ythcdiaahpodkoaa.pair3Drawn.d394 = true := by kernel_rfl
set_option maxRecDepth 100000 in
theorem r1001_d394 : run1001 Go.Proofs.Ythcdiaahpodkoaa.pair3Drawn.d394 = true := by kernel_rfl
set_option maxRecDepth 100000 in
theorem r1000_d398 : run1000 Go.Proofs.Ythcdiaahpodkoaa.pair3Drawn.d398 = true := by kernel_rfl
set_option maxRecDepth 100000 in
theorem r1001_d398 : run1001 Go.Proofs.Ythcdiaahpodkoaa.pair3Drawn.d398 = true := by kernel_rfl
set_option maxRecDepth 100000 in
theorem r1000_d402 : run1000 Go.Proofs.Ythcdiaahpodkoaa.pair3Drawn.d402 = true := by kernel_rfl
set_option maxRecDepth 100000 in
theorem r1001_d402 : run1001 Go.Proofs.Ythcdiaahpodkoaa.pair3Drawn.d402 = true := by kernel_rfl
set_option maxRecDepth 100000 in
theorem r1000_d406 : run1000 Go.Proofs.Ythcdiaahpodkoaa.pair3Drawn.d406 = true := by kernel_rfl
set_option maxRecDepth 100000 in
theorem r1001_d406 : run1001 Go.Proofs.Ythcdiaahpodkoaa.pair3Drawn.d406 = true := by kernel_rfl
set_option maxRecDepth 100000 in
theorem r1000_d410 : run1000 Go.Proofs.Ythcdiaahpodkoaa.pair3Drawn.d410 = true := by kernel_rfl
set_option maxRecDepth 100000 in
theorem r1001_d410 : run1001 Go.Proofs.Ythcdiaahpodkoaa.pair3Drawn.d410 = true := by kernel_rfl
set_option maxRecDepth 100000 in
theorem r1000_d414 : run1000 Go.Proofs.Ythcdiaahpodkoaa.pair3Drawn.d414 = true := by kernel_rfl
set_option maxRecDepth 100000 in
theorem r1001_d414 : run1001 Go.Proofs.Ythcdiaahpodkoaa.pair3Drawn.d414 = true := by kernel_rfl
set_option maxRecDepth 100000 in
theorem r1000_d418 : run1000 Go.Proofs.Ythcdiaahpodkoaa.pair3Drawn.d418 = true := by kernel_rfl
set_option maxRecDepth 100000 in
theorem r1001_d418 : run1001 Go.Proofs.Ythcdiaahpodkoaa.pair3Drawn.d418 = true := by kernel_rfl
set_option maxRecDepth 100000 in
theorem r1000_d422 : run1000 Go.Proofs.Ythcdiaahpodkoaa.pair3Drawn.d422 = true := by kernel_rfl
set_option maxRecDepth 100000 in
theorem r1001_d422 : run1001 Go.Proofs.Ythcdiaahpodkoaa.pair3Drawn.d422 = true := by kernel_rfl
set_option maxRecDepth 100000 in
theorem r1000_d426 : run1000 Go.Proofs.Ythcdiaahpodkoaa.pair3Drawn.d426 = true := by kernel_rfl
set_option maxRecDepth 100000 in
theorem r1001_d426 : run1001 Go.Proofs.Ythcdiaahpodkoaa.pair3Drawn.d426 = true := by kernel_rfl
set_option maxRecDepth 100000 in
theorem r1000_d430 : run1000 Go.Proofs.Ythcdiaahpodkoaa.pair3Drawn.d430 = true := by kernel_rfl
set_option maxRecDepth 100000 in
theorem r1001_d430 : run1001 Go.Proofs.Ythcdiaahpodkoaa.pair3Drawn.d430 = true := by kernel_rfl
set_option maxRecDepth 100000 in
theorem r1000_d434 : run1000 Go.Proofs.Ythcdiaahpodkoaa.pair3Drawn.d434 = true := by kernel_rfl
set_option maxRecDepth 100000 in
theorem r1001_d434 : run1001 Go.Proofs.Ythcdiaahpodkoaa.pair3Drawn.d434 = true := by kernel_rfl
set_option maxRecDepth 100000 in
theorem r1000_d438 : run1000 Go.Proofs.Ythcdiaahpodkoaa.pair3Drawn.d438 = true := by kernel_rfl
set_option maxRecDepth 100000 in
theorem r1001_d438 : run1001 Go.Proofs.Ythcdiaahpodkoaa.pair3Drawn.d438 = true := by kernel_rfl
set_option maxRecDepth 100000 in
theorem r1000_d442 : run1000 Go.Proofs.Ythcdiaahpodkoaa.pair3Drawn.d442 = true := by kernel_rfl
set_option maxRecDepth 100000 in
theorem r1001_d442 : run1001 Go.Proofs.Ythcdiaahpodkoaa.pair3Drawn.d442 = true := by kernel_rfl
set_option maxRecDepth 100000 in
theorem r1000_d446 : run1000 Go.Proofs.Ythcdiaahpodkoaa.pair3Drawn.d446 = true := by kernel_rfl
set_option maxRecDepth 100000 in
theorem r1001_d446 : run1001 Go.Proofs.Ythcdiaahpodkoaa.pair3Drawn.d446 = true := by kernel_rfl
set_option maxRecDepth 100000 in
theorem r1000_d450 : run1000 Go.Proofs.Ythcdiaahpodkoaa.pair3Drawn.d450 = true := by kernel_rfl
set_option maxRecDepth 100000 in
theorem r1001_d450 : run1001 Go.Proofs.Ythcdiaahpodkoaa.pair3Drawn.d450 = true := by kernel_rfl
set_option maxRecDepth 100000 in
theorem r1000_d454 : run1000 Go.Proofs.Ythcdiaahpodkoaa.pair3Drawn.d454 = true := by kernel_rfl
set_option maxRecDepth 100000 in
theorem r1001_d454 : run1001 Go.Proofs.Ythcdiaahpodkoaa.pair3Drawn.d454 = true := by kernel_rfl
set_option maxRecDepth 100000 in
theorem r1000_d458 : run1000 Go.Proofs.Ythcdiaahpodkoaa.pair3Drawn.d458 = true := by kernel_rfl
set_option maxRecDepth 100000 in
theorem r1001_d458 : run1001 Go.Proofs.Ythcdiaahpodkoaa.pair3Drawn.d458 = true := by kernel_rfl
set_option maxRecDepth 100000 in
theorem r1000_d462 : run1000 Go.Proofs.Ythcdiaahpodkoaa.pair3Drawn.d462 = true := by kernel_rfl
set_option maxRecDepth 100000 in
theorem r1001_d462 : run1001 Go.Proofs.Ythcdiaahpodkoaa.pair3Drawn.d462 = true := by kernel_rfl
set_option maxRecDepth 100000 in
theorem r1000_d466 : run1000 Go.Proofs.Ythcdiaahpodkoaa.pair3Drawn.d466 = true := by kernel_rfl
set_option maxRecDepth 100000 in
theorem r1001_d466 : run1001 Go.Proofs.Ythcdiaahpodkoaa.pair3Drawn.d466 = true := by kernel_rfl
set_option maxRecDepth 100000 in
theorem r1000_d470 : run1000 Go.Proofs.Ythcdiaahpodkoaa.pair3Drawn.d470 = true := by kernel_rfl
set_option maxRecDepth 100000 in
theorem r1001_d470 : run1001 Go.Proofs.Ythcdiaahpodkoaa.pair3Drawn.d470 = true := by kernel_rfl
set_option maxRecDepth 100000 in
theorem r1000_d474 : run1000 Go.Proofs.Ythcdiaahpodkoaa.pair3Drawn.d474 = true := by kernel_rfl
set_option maxRecDepth 100000 in
theorem r1001_d474 : run1001 Go.Proofs.Ythcdiaahpodkoaa.pair3Drawn.d474 = true := by kernel_rfl
set_option maxRecDepth 100000 in
theorem r1000_d478 : run1000 Go.Proofs.Ythcdiaahpodkoaa.pair3Drawn.d478 = true := by kernel_rfl
set_option maxRecDepth 100000 in
theorem r1001_d478 : run1001 Go.Proofs.Ythcdiaahpodkoaa.pair3Drawn.d478 = true := by kernel_rfl
set_option maxRecDepth 100000 in
theorem r1000_d482 : run1000 Go.Proofs.Ythcdiaahpodkoaa.pair3Drawn.d482 = true := by kernel_rfl
set_option maxRecDepth 100000 in
theorem r1001_d482 : run1001 Go.Proofs.Ythcdiaahpodkoaa.pair3Drawn.d482 = true := by kernel_rfl
set_option maxRecDepth 100000 in
theorem r1000_d486 : run1000 Go.Proofs.Ythcdiaahpodkoaa.pair3Drawn.d486 = true := by kernel_rfl
set_option maxRecDepth 100000 in
theorem r1001_d486 : run1001 Go.Proofs.Ythcdiaahpodkoaa.pair3Drawn.d486 = true := by kernel_rfl
set_option maxRecDepth 100000 in
theorem r1000_d490 : run1000 Go.Proofs.Ythcdiaahpodkoaa.pair3Drawn.d490 = true := by kernel_rfl
set_option maxRecDepth 100000 in
theorem r1001_d490 : run1001 Go.Proofs.Ythcdiaahpodkoaa.pair3Drawn.d490 = true := by kernel_rfl
set_option maxRecDepth 100000 in
theorem r1000_d494 : run1000 Go.Proofs.Ythcdiaahpodkoaa.pair3Drawn.d494 = true := by kernel_rfl
set_option maxRecDepth 100000 in
theorem r1001_d494 : run1001 Go.Proofs.Ythcdiaahpodkoaa.pair3Drawn.d494 = true := by kernel_rfl
set_option maxRecDepth 100000 in
theorem r1000_d498 : run1000 Go.Proofs.Ythcdiaahpodkoaa.pair3Drawn.d498 = true := by kernel_rfl
set_option maxRecDepth 100000 in
theorem r1001_d498 : run1001 Go.Proofs.Ythcdiaahpodkoaa.pair3Drawn.d498 = true := by kernel_rfl
set_option maxRecDepth 100000 in
theorem r1000_d502 : run1000 Go.Proofs.Ythcdiaahpodkoaa.pair3Drawn.d502 = true := by kernel_rfl
set_option maxRecDepth 100000 in
theorem r1001_d502 : run1001 Go.Proofs.Ythcdiaahpodkoaa.pair3Drawn.d502 = true := by kernel_rfl
set_option maxRecDepth 100000 in
theorem r1000_d506 : run1000 Go.Proofs.Ythcdiaahpodkoaa.pair3Drawn.d506 = true := by kernel_rfl
set_option maxRecDepth 100000 in
theorem r1001_d506 : run1001 Go.Proofs.Ythcdiaahpodkoaa.pair3Drawn.d506 = true := by kernel_rfl
set_option maxRecDepth 100000 in
theorem r1000_d510 : run1000 Go.Proofs.Ythcdiaahpodkoaa.pair3Drawn.d510 = true := by kernel_rfl
set_option maxRecDepth 100000 in
theorem r1001_d510 : run1001 Go.Proofs.Ythcdiaahpodkoaa.pair3Drawn.d510 = true := by kernel_rfl
set_option maxRecDepth 100000 in
theorem r1000_d514 : run1000 Go.Proofs.Ythcdiaahpodkoaa.pair3Drawn.d514 = true := by kernel_rfl
set_option maxRecDepth 100000 in
theorem r1001_d514 : run1001 Go.Proofs.Ythcdiaahpodkoaa.pair3Drawn.d514 = true := by kernel_rfl
set_option maxRecDepth 100000 in
theorem r1000_d518 : run1000 Go.Proofs.Ythcdiaahpodkoaa.pair3Drawn.d518 = true := by kernel_rfl
set_option maxRecDepth 100000 in
theorem r1001_d518 : run1001 Go.Proofs.Ythcdiaahpodkoaa.pair3Drawn.d518 = true := by kernel_rfl
set_option maxRecDepth 100000 in
theorem r1000_d522 : run1000 Go.Proofs.Ythcdiaahpodkoaa.pair3Drawn.d522 = true := by kernel_rfl
set_option maxRecDepth 100000 in
theorem r1001_d522 : run1001 Go.Proofs.Ythcdiaahpodkoaa.pair3Drawn.d522 = true := by kernel_rfl
set_option maxRecDepth 100000 in
theorem r1000_d526 : run1000 Go.Proofs.Ythcdiaahpodkoaa.pair3Drawn.d526 = true := by kernel_rfl
set_option maxRecDepth 100000 in
theorem r1001_d526 : run1001 Go.Proofs.Ythcdiaahpodkoaa.pair3Drawn.d526 = true := by kernel_rfl
set_option maxRecDepth 100000 in
theorem r1000_d530 : run1000 Go.Proofs.Ythcdiaahpodkoaa.pair3Drawn.d530 = true := by kernel_rfl
set_option maxRecDepth 100000 in
theorem r1001_d530 : run1001 Go.Proofs.Ythcdiaahpodkoaa.pair3Drawn.d530 = true := by kernel_rfl
set_option maxRecDepth 100000 in
theorem r1000_d534 : run1000 Go.Proofs.Ythcdiaahpodkoaa.pair3Drawn.d534 = true := by kernel_rfl
set_option maxRecDepth 100000 in
theorem r1001_d534 : run1001 Go.Proofs.Ythcdiaahpodkoaa.pair3Drawn.d534 = true := by kernel_rfl
set_option maxRecDepth 100000 in
theorem r1000_d538 : run1000 Go.Proofs.Ythcdiaahpodkoaa.pair3Drawn.d538 = true := by kernel_rfl
set_option maxRecDepth 100000 in
theorem r1001_d538 : run1001 Go.Proofs.Ythcdiaahpodkoaa.pair3Drawn.d538 = true := by kernel_rfl
set_option maxRecDepth 100000 in
theorem r1000_d542 : run1000 Go.Proofs.Ythcdiaahpodkoaa.pair3Drawn.d542 = true := by kernel_rfl
set_option maxRecDepth 100000 in
theorem r1001_d542 : run1001 Go.Proofs.Ythcdiaahpodkoaa.pair3Drawn.d542 = true := by kernel_rfl
set_option maxRecDepth 100000 in
theorem r1000_d546 : run1000 Go.Proofs.Ythcdiaahpodkoaa.pair3Drawn.d546 = true := by kernel_rfl
set_option maxRecDepth 100000 in
theorem r1001_d546 : run1001 Go.Proofs.Ythcdiaahpodkoaa.pair3Drawn.d546 = true := by kernel_rfl
set_option maxRecDepth 100000 in
theorem r1000_d550 : run1000 Go.Proofs.Ythcdiaahpodkoaa.pair3Drawn.d550 = true := by kernel_rfl
set_option maxRecDepth 100000 in
theorem r1001_d550 : run1001 Go.Proofs.Ythcdiaahpodkoaa.pair3Drawn.d550 = true := by kernel_rfl
set_option maxRecDepth 100000 in
theorem r1000_d554 : run1000 Go.Proofs.Ythcdiaahpodkoaa.pair3Drawn.d554 = true := by kernel_rfl
set_option maxRecDepth 100000 in
theorem r1001_d554 : run1001 Go.Proofs.Ythcdiaahpodkoaa.pair3Drawn.d554 = true := by kernel_rfl
set_option maxRecDepth 100000 in
theorem r1000_d558 : run1000 Go.Proofs.Ythcdiaahpodkoaa.pair3Drawn.d558 = true := by kernel_rfl
set_option maxRecDepth 100000 in
theorem r1001_d558 : run1001 Go.Proofs.Ythcdiaahpodkoaa.pair3Drawn.d558 = true := by kernel_rfl
set_option maxRecDepth 100000 in
theorem r1000_d562 : run1000 Go.Proofs.Ythcdiaahpodkoaa.pair3Drawn.d562 = true := by kernel_rfl
set_option maxRecDepth 100000 in
theorem r1001_d562 : run1001 Go.Proofs.Ythcdiaahpodkoaa.pair3Drawn.d562 = true := by kernel_rfl
set_option maxRecDepth 100000 in
theorem r1000_d566 : run1000 Go.Proofs.Ythcdiaahpodkoaa.pair3Drawn.d566 = true := by kernel_rfl
set_option maxRecDepth 100000 in
theorem r1001_d566 : run1001 Go.Proofs.Ythcdiaahpodkoaa.pair3Drawn.d566 = true := by kernel_rfl
set_option maxRecDepth 100000 in
theorem r1000_d570 : run1000 Go.Proofs.Ythcdiaahpodkoaa.pair3Drawn.d570 = true := by kernel_rfl
set_option maxRecDepth 100000 in
theorem r1001_d570 : run1001 Go.Proofs.Ythcdiaahpodkoaa.pair3Drawn.d570 = true := by kernel_rfl
set_option maxRecDepth 100000 in
theorem r1000_d574 : run1000 Go.Proofs.Ythcdiaahpodkoaa.pair3Drawn.d574 = true := by kernel_rfl
set_option maxRecDepth 100000 in
theorem r1001_d574 : run1001 Go.Proofs.Ythcdiaahpodkoaa.pair3Drawn.d574 = true := by kernel_rfl
set_option maxRecDepth 100000 in
theorem r1000_d578 : run1000 Go.Proofs.Ythcdiaahpodkoaa.pair3Drawn.d578 = true := by kernel_rfl
set_option maxRecDepth 100000 in
theorem r1001_d578 : run1001 Go.Proofs.Ythcdiaahpodkoaa.pair3Drawn.d578 = true := by kernel_rfl
set_option maxRecDepth 100000 in
theorem r1000_d582 : run1000 Go.Proofs.Ythcdiaahpodkoaa.pair3Drawn.d582 = true := by kernel_rfl
set_option maxRecDepth 100000 in
theorem r1001_d582 : run1001 Go.Proofs.Ythcdiaahpodkoaa.pair3Drawn.d582 = true := by kernel_rfl
set_option maxRecDepth 100000 in
theorem r1000_d586 : run1000 Go.Proofs.Ythcdiaahpodkoaa.pair3Drawn.d586 = true := by kernel_rfl
set_option maxRecDepth 100000 in
theorem r1001_d586 : run1001 Go.Proofs.Ythcdiaahpodkoaa.pair3Drawn.d586 = true := by kernel_rfl
set_option maxRecDepth 100000 in
theorem r1000_d590 : run1000 Go.Proofs.Ythcdiaahpodkoaa.pair3Drawn.d590 = true := by kernel_rfl
set_option maxRecDepth 100000 in
theorem r1001_d590 : run1001 Go.Proofs.Ythcdiaahpodkoaa.pair3Drawn.d590 = true := by kernel_rfl
set_option maxRecDepth 100000 in
theorem r1000_d594 : run1000 Go.Proofs.Ythcdiaahpodkoaa.pair3Drawn.d594 = true := by kernel_rfl
set_option maxRecDepth 100000 in
theorem r1001_d594 : run1001 Go.Proofs.Ythcdiaahpodkoaa.pair3Drawn.d594 = true := by kernel_rfl
set_option maxRecDepth 100000 in
theorem r1000_d598 : run1000 Go.Proofs.Ythcdiaahpodkoaa.pair3Drawn.d598 = true := by kernel_rfl
set_option maxRecDepth 100000 in
theorem r1001_d598 : run1001 Go.Proofs.Ythcdiaahpodkoaa.pair3Drawn.d598 = true := by kernel_rfl
set_option maxRecDepth 100000 in
theorem r1000_d602 : run1000 Go.Proofs.Ythcdiaahpodkoaa.pair3Drawn.d602 = true := by kernel_rfl
set_option maxRecDepth 100000 in
theorem r1001_d602 : run1001 Go.Proofs.Ythcdiaahpodkoaa.pair3Drawn.d602 = true := by kernel_rfl
set_option maxRecDepth 100000 in
theorem r1000_d606 : run1000 Go.Proofs.Ythcdiaahpodkoaa.pair3Drawn.d606 = true := by kernel_rfl
set_option maxRecDepth 100000 in
theorem r1001_d606 : run1001 Go.Proofs.Ythcdiaahpodkoaa.pair3Drawn.d606 = true := by kernel_rfl
set_option maxRecDepth 100000 in
theorem r1000_d610 : run1000 Go.Proofs.Ythcdiaahpodkoaa.pair3Drawn.d610 = true := by kernel_rfl
set_option maxRecDepth 100000 in
theorem r1001_d610 : run1001 Go.Proofs.Ythcdiaahpodkoaa.pair3Drawn.d610 = true := by kernel_rfl
set_option maxRecDepth 100000 in
theorem r1000_d614 : run1000 Go.Proofs.Ythcdiaahpodkoaa.pair3Drawn.d614 = true := by kernel_rfl
set_option maxRecDepth 100000 in
theorem r1001_d614 : run1001 Go.Proofs.Ythcdiaahpodkoaa.pair3Drawn.d614 = true := by kernel_rfl
set_option maxRecDepth 100000 in
theorem r1000_d618 : run1000 Go.Proofs.Ythcdiaahpodkoaa.pair3Drawn.d618 = true := by kernel_rfl
set_option maxRecDepth 100000 in
theorem r1001_d618 : run1001 Go.Proofs.Ythcdiaahpodkoaa.pair3Drawn.d618 = true := by kernel_rfl
set_option maxRecDepth 100000 in
theorem r1000_d622 : run1000 Go.Proofs.Ythcdiaahpodkoaa.pair3Drawn.d622 = true := by kernel_rfl
set_option maxRecDepth 100000 in
theorem r1001_d622 : run1001 Go.Proofs.Ythcdiaahpodkoaa.pair3Drawn.d622 = true := by kernel_rfl
set_option maxRecDepth 100000 in
theorem r1000_d626 : run1000 Go.Proofs.Ythcdiaahpodkoaa.pair3Drawn.d626 = true := by kernel_rfl
set_option maxRecDepth 100000 in
theorem r1001_d626 : run1001 Go.Proofs.Ythcdiaahpodkoaa.pair3Drawn.d626 = true := by kernel_rfl
set_option maxRecDepth 100000 in
theorem r1000_d630 : run1000 Go.Proofs.Ythcdiaahpodkoaa.pair3Drawn.d630 = true := by kernel_rfl
set_option maxRecDepth 100000 in
theorem r1001_d630 : run1001 Go.Proofs.Ythcdiaahpodkoaa.pair3Drawn.d630 = true := by kernel_rfl
set_option maxRecDepth 100000 in
theorem r1000_d634 : run1000 Go.Proofs.Ythcdiaahpodkoaa.pair3Drawn.d634 = true := by kernel_rfl
set_option maxRecDepth 100000 in
theorem r1001_d634 : run1001 Go.Proofs.Ythcdiaahpodkoaa.pair3Drawn.d634 = true := by kernel_rfl
set_option maxRecDepth 100000 in
theorem r1000_d638 : run1000 Go.Proofs.Ythcdiaahpodkoaa.pair3Drawn.d638 = true := by kernel_rfl
set_option maxRecDepth 100000 in
theorem r1001_d638 : run1001 Go.Proofs.Ythcdiaahpodkoaa.pair3Drawn.d638 = true := by kernel_rfl
set_option maxRecDepth 100000 in
theorem r1000_d642 : run1000 Go.Proofs.Ythcdiaahpodkoaa.pair3Drawn.d642 = true := by kernel_rfl
set_option maxRecDepth 100000 in
theorem r1001_d642 : run1001 Go.Proofs.Ythcdiaahpodkoaa.pair3Drawn.d642 = true := by kernel_rfl
set_option maxRecDepth 100000 in
theorem r1000_d646 : run1000 Go.Proofs.Ythcdiaahpodkoaa.pair3Drawn.d646 = true := by kernel_rfl
set_option maxRecDepth 100000 in
theorem r1001_d646 : run1001 Go.Proofs.Ythcdiaahpodkoaa.pair3Drawn.d646 = true := by kernel_rfl
set_option maxRecDepth 100000 in
theorem r1000_d650 : run1000 Go.Proofs.Ythcdiaahpodkoaa.pair3Drawn.d650 = true := by kernel_rfl
set_option maxRecDepth 100000 in
theorem r1001_d650 : run1001 Go.Proofs.Ythcdiaahpodkoaa.pair3Drawn.d650 = true := by kernel_rfl
set_option maxRecDepth 100000 in
theorem r1000_d654 : run1000 Go.Proofs.Ythcdiaahpodkoaa.pair3Drawn.d654 = true := by kernel_rfl
set_option maxRecDepth 100000 in
theorem r1001_d654 : run1001 Go.Proofs.Ythcdiaahpodkoaa.pair3Drawn.d654 = true := by kernel_rfl
set_option maxRecDepth 100000 in
theorem r1000_d658 : run1000 Go.Proofs.Ythcdiaahpodkoaa.pair3Drawn.d658 = true := by kernel_rfl
set_option maxRecDepth 100000 in
theorem r1001_d658 : run1001 Go.Proofs.Ythcdiaahpodkoaa.pair3Drawn.d658 = true := by kernel_rfl
set_option maxRecDepth 100000 in
theorem r1000_d662 : run1000 Go.Proofs.Ythcdiaahpodkoaa.pair3Drawn.d662 = true := by kernel_rfl
set_option maxRecDepth 100000 in
theorem r1001_d662 : run1001 Go.Proofs.Ythcdiaahpodkoaa.pair3Drawn.d662 = true := by kernel_rfl
set_option maxRecDepth 100000 in
theorem r1000_d666 : run1000 Go.Proofs.Ythcdiaahpodkoaa.pair3Drawn.d666 = true := by kernel_rfl
set_option maxRecDepth 100000 in
theorem r1001_d666 : run1001 Go.Proofs.Ythcdiaahpodkoaa.pair3Drawn.d666 = true := by kernel_rfl
set_option maxRecDepth 100000 in
theorem r1000_d670 : run1000 Go.Proofs.Ythcdiaahpodkoaa.pair3Drawn.d670 = true := by kernel_rfl
set_option maxRecDepth 100000 in
theorem r1001_d670 : run1001 Go.Proofs.Ythcdiaahpodkoaa.pair3Drawn.d670 = true := by kernel_rfl
set_option maxRecDepth 100000 in
theorem r1000_d674 : run1000 Go.Proofs.Ythcdiaahpodkoaa.pair3Drawn.d674 = true := by kernel_rfl
set_option maxRecDepth 100000 in
theorem r1001_d674 : run1001 Go.Proofs.Ythcdiaahpodkoaa.pair3Drawn.d674 = true := by kernel_rfl
set_option maxRecDepth 100000 in
theorem r1000_d678 : run1000 Go.Proofs.Ythcdiaahpodkoaa.pair3Drawn.d678 = true := by kernel_rfl
set_option maxRecDepth 100000 in
theorem r1001_d678 : run1001 Go.Proofs.Ythcdiaahpodkoaa.pair3Drawn.d678 = true := by kernel_rfl
set_option maxRecDepth 100000 in
theorem r1000_d682 : run1000 Go.Proofs.Ythcdiaahpodkoaa.pair3Drawn.d682 = true := by kernel_rfl
set_option maxRecDepth 100000 in
theorem r1001_d682 : run1001 Go.Proofs.Ythcdiaahpodkoaa.pair3Drawn.d682 = true := by kernel_rfl
set_option maxRecDepth 100000 in
theorem r1000_d686 : run1000 Go.Proofs.Ythcdiaahpodkoaa.pair3Drawn.d686 = true := by kernel_rfl
set_option maxRecDepth 100000 in
theorem r1001_d686 : run1001 Go.Proofs.Ythcdiaahpodkoaa.pair3Drawn.d686 = true := by kernel_rfl
set_option maxRecDepth 100000 in
theorem r1000_d690 : run1000 Go.Proofs.Ythcdiaahpodkoaa.pair3Drawn.d690 = true := by kernel_rfl
set_option maxRecDepth 100000 in
theorem r1001_d690 : run1001 Go.Proofs.Ythcdiaahpodkoaa.pair3Drawn.d690 = true := by kernel_rfl
set_option maxRecDepth 100000 in
theorem r1000_d694 : run1000 Go.Proofs.Ythcdiaahpodkoaa.pair3Drawn.d694 = true := by kernel_rfl
set_option maxRecDepth 100000 in
theorem r1001_d694 : run1001 Go.Proofs.Ythcdiaahpodkoaa.pair3Drawn.d694 = true := by kernel_rfl
set_option maxRecDepth 100000 in
theorem r1000_d698 : run1000 Go.Proofs.Ythcdiaahpodkoaa.pair3Drawn.d698 = true := by kernel_rfl
set_option maxRecDepth 100000 in
theorem r1001_d698 : run1001 Go.Proofs.Ythcdiaahpodkoaa.pair3Drawn.d698 = true := by kernel_rfl
set_option maxRecDepth 100000 in
theorem r1000_d702 : run1000 Go.Proofs.Ythcdiaahpodkoaa.pair3Drawn.d702 = true := by kernel_rfl
set_option maxRecDepth 100000 in
theorem r1001_d702 : run1001 Go.Proofs.Ythcdiaahpodkoaa.pair3Drawn.d702 = true := by kernel_rfl
set_option maxRecDepth 100000 in
theorem r1000_d706 : run1000 Go.Proofs.Ythcdiaahpodkoaa.pair3Drawn.d706 = true := by kernel_rfl
set_option maxRecDepth 100000 in
theorem r1001_d706 : run1001 Go.Proofs.Ythcdiaahpodkoaa.pair3Drawn.d706 = true := by kernel_rfl
set_option maxRecDepth 100000 in
theorem r1000_d710 : run1000 Go.Proofs.Ythcdiaahpodkoaa.pair3Drawn.d710 = true := by kernel_rfl
set_option maxRecDepth 100000 in
theorem r1001_d710 : run1001 Go.Proofs.Ythcdiaahpodkoaa.pair3Drawn.d710 = true := by kernel_rfl
set_option maxRecDepth 100000 in
theorem r1000_d714 : run1000 Go.Proofs.Ythcdiaahpodkoaa.pair3Drawn.d714 = true := by kernel_rfl
set_option maxRecDepth 100000 in
theorem r1001_d714 : run1001 Go.Proofs.Ythcdiaahpodkoaa.pair3Drawn.d714 = true := by kernel_rfl
set_option maxRecDepth 100000 in
theorem r1000_d718 : run1000 Go.Proofs.Ythcdiaahpodkoaa.pair3Drawn.d718 = true := by kernel_rfl
set_option maxRecDepth 100000 in
theorem r1001_d718 : run1001 Go.Proofs.Ythcdiaahpodkoaa.pair3Drawn.d718 = true := by kernel_rfl
set_option maxRecDepth 100000 in
theorem r1000_d722 : run1000 Go.Proofs.Ythcdiaahpodkoaa.pair3Drawn.d722 = true := by kernel_rfl
set_option maxRecDepth 100000 in
theorem r1001_d722 : run1001 Go.Proofs.Ythcdiaahpodkoaa.pair3Drawn.d722 = true := by kernel_rfl
set_option maxRecDepth 100000 in
theorem r1000_d726 : run1000 Go.Proofs.Ythcdiaahpodkoaa.pair3Drawn.d726 = true := by kernel_rfl
set_option maxRecDepth 100000 in
theorem r1001_d726 : run1001 Go.Proofs.Ythcdiaahpodkoaa.pair3Drawn.d726 = true := by kernel_rfl
set_option maxRecDepth 100000 in
theorem r1000_d730 : run1000 Go.Proofs.Ythcdiaahpodkoaa.pair3Drawn.d730 = true := by kernel_rfl
set_option maxRecDepth 100000 in
theorem r1001_d730 : run1001 Go.Proofs.Ythcdiaahpodkoaa.pair3Drawn.d730 = true := by kernel_rfl
set_option maxRecDepth 100000 in
theorem r1000_d734 : run1000 Go.Proofs.Ythcdiaahpodkoaa.pair3Drawn.d734 = true := by kernel_rfl
set_option maxRecDepth 100000 in
theorem r1001_d734 : run1001 Go.Proofs.Ythcdiaahpodkoaa.pair3Drawn.d734 = true := by kernel_rfl
set_option maxRecDepth 100000 in
theorem r1000_d738 : run1000 Go.Proofs.Ythcdiaahpodkoaa.pair3Drawn.d738 = true := by kernel_rfl
set_option maxRecDepth 100000 in
theorem r1001_d738 : run1001 Go.Proofs.Ythcdiaahpodkoaa.pair3Drawn.d738 = true := by kernel_rfl
set_option maxRecDepth 100000 in
theorem r1000_d742 : run1000 Go.Proofs.Ythcdiaahpodkoaa.pair3Drawn.d742 = true := by kernel_rfl
set_option maxRecDepth 100000 in
theorem r1001_d742 : run1001 Go.Proofs.Ythcdiaahpodkoaa.pair3Drawn.d742 = true := by kernel_rfl
set_option maxRecDepth 100000 in
theorem r1000_d746 : run1000 Go.Proofs.Ythcdiaahpodkoaa.pair3Drawn.d746 = true := by kernel_rfl
set_option maxRecDepth 100000 in
theorem r1001_d746 : run1001 Go.Proofs.Ythcdiaahpodkoaa.pair3Drawn.d746 = true := by kernel_rfl
set_option maxRecDepth 100000 in
theorem r1000_d750 : run1000 Go.Proofs.Ythcdiaahpodkoaa.pair3Drawn.d750 = true := by kernel_rfl
set_option maxRecDepth 100000 in
theorem r1001_d750 : run1001 Go.Proofs.Ythcdiaahpodkoaa.pair3Drawn.d750 = true := by kernel_rfl
set_option maxRecDepth 100000 in
theorem r1000_d754 : run1000 Go.Proofs.Ythcdiaahpodkoaa.pair3Drawn.d754 = true := by kernel_rfl
set_option maxRecDepth 100000 in
theorem r1001_d754 : run1001 Go.Proofs.Ythcdiaahpodkoaa.pair3Drawn.d754 = true := by kernel_rfl
set_option maxRecDepth 100000 in
theorem r1000_d758 : run1000 Go.Proofs.Ythcdiaahpodkoaa.pair3Drawn.d758 = true := by kernel_rfl
set_option maxRecDepth 100000 in
theorem r1001_d758 : run1001 Go.Proofs.Ythcdiaahpodkoaa.pair3Drawn.d758 = true := by kernel_rfl
set_option maxRecDepth 100000 in
theorem r1000_d762 : run1000 Go.Proofs.Ythcdiaahpodkoaa.pair3Drawn.d762 = true := by kernel_rfl
set_option maxRecDepth 100000 in
theorem r1001_d762 : run1001 Go.Proofs.Ythcdiaahpodkoaa.pair3Drawn.d762 = true := by kernel_rfl
set_option maxRecDepth 100000 in
theorem r1000_d766 : run1000 Go.Proofs.Ythcdiaahpodkoaa.pair3Drawn.d766 = true := by kernel_rfl
set_option maxRecDepth 100000 in
theorem r1001_d766 : run1001 Go.Proofs.Ythcdiaahpodkoaa.pair3Drawn.d766 = true := by kernel_rfl
set_option maxRecDepth 100000 in
theorem r1000_d770 : run1000 Go.Proofs.Ythcdiaahpodkoaa.pair3Drawn.d770 = true := by kernel_rfl
set_option maxRecDepth 100000 in
theorem r1001_d770 : run1001 Go.Proofs.Ythcdiaahpodkoaa.pair3Drawn.d770 = true := by kernel_rfl
set_option maxRecDepth 100000 in
theorem r1000_d774 : run1000 Go.Proofs.Ythcdiaahpodkoaa.pair3Drawn.d774 = true := by kernel_rfl
set_option maxRecDepth 100000 in
theorem r1001_d774 : run1001 Go.Proofs.Ythcdiaahpodkoaa.pair3Drawn.d774 = true := by kernel_rfl
set_option maxRecDepth 100000 in
theorem r1000_d778 : run1000 Go.Proofs.Ythcdiaahpodkoaa.pair3Drawn.d778 = true := by kernel_rfl
set_option maxRecDepth 100000 in
theorem r1001_d778 : run1001 Go.Proofs.Ythcdiaahpodkoaa.pair3Drawn.d778 = true := by kernel_rfl
set_option maxRecDepth 100000 in
theorem r1000_d782 : run1000 Go.Proofs.Ythcdiaahpodkoaa.pair3Drawn.d782 = true := by kernel_rfl
set_option maxRecDepth 100000 in
theorem r1001_d782 : run1001 Go.Proofs.Ythcdiaahpodkoaa.pair3Drawn.d782 = true := by kernel_rfl
set_option maxRecDepth 100000 in
theorem r1000_d786 : run1000 Go.Proofs.Ythcdiaahpodkoaa.pair3Drawn.d786 = true := by kernel_rfl
set_option maxRecDepth 100000 in
theorem r1001_d786 : run1001 Go.Proofs.Ythcdiaahpodkoaa.pair3Drawn.d786 = true := by kernel_rfl
set_option maxRecDepth 100000 in
theorem r1000_d790 : run1000 Go.Proofs.Ythcdiaahpodkoaa.pair3Drawn.d790 = true := by kernel_rfl
set_option maxRecDepth 100000 in
theorem r1001_d790 : run1001 Go.Proofs.Ythcdiaahpodkoaa.pair3Drawn.d790 = true := by kernel_rfl
set_option maxRecDepth 100000 in
theorem r1000_d794 : run1000 Go.Proofs.Ythcdiaahpodkoaa.pair3Drawn.d794 = true := by kernel_rfl
set_option maxRecDepth 100000 in
theorem r1001_d794 : run1001 Go.Proofs.Ythcdiaahpodkoaa.pair3Drawn.d794 = true := by kernel_rfl
set_option maxRecDepth 100000 in
theorem r1000_d798 : run1000 Go.Proofs.Ythcdiaahpodkoaa.pair3Drawn.d798 = true := by kernel_rfl
set_option maxRecDepth 100000 in
theorem r1001_d798 : run1001 Go.Proofs.Ythcdiaahpodkoaa.pair3Drawn.d798 = true := by kernel_rfl
set_option maxRecDepth 100000 in
theorem r1000_d802 : run1000 Go.Proofs.Ythcdiaahpodkoaa.pair3Drawn.d802 = true := by kernel_rfl
set_option maxRecDepth 100000 in
theorem r1001_d802 : run1001 Go.Proofs.Ythcdiaahpodkoaa.pair3Drawn.d802 = true := by kernel_rfl
set_option maxRecDepth 100000 in
theorem r1000_d806 : run1000 Go.Proofs.Ythcdiaahpodkoaa.pair3Drawn.d806 = true := by kernel_rfl
set_option maxRecDepth 100000 in
theorem r1001_d806 : run1001 Go.Proofs.Ythcdiaahpodkoaa.pair3Drawn.d806 = true := by kernel_rfl
set_option maxRecDepth 100000 in
theorem r1000_d810 : run1000 Go.Proofs.Ythcdiaahpodkoaa.pair3Drawn.d810 = true := by kernel_rfl
set_option maxRecDepth 100000 in
theorem r1001_d810 : run1001 Go.Proofs.Ythcdiaahpodkoaa.pair3Drawn.d810 = true := by kernel_rfl
set_option maxRecDepth 100000 in
theorem r1000_d814 : run1000 Go.Proofs.Ythcdiaahpodkoaa.pair3Drawn.d814 = true := by kernel_rfl
set_option maxRecDepth 100000 in
theorem r1001_d814 : run1001 Go.Proofs.Ythcdiaahpodkoaa.pair3Drawn.d814 = true := by kernel_rfl
set_option maxRecDepth 100000 in
theorem r1000_d818 : run1000 Go.Proofs.Ythcdiaahpodkoaa.pair3Drawn.d818 = true := by kernel_rfl
set_option maxRecDepth 100000 in
theorem r1001_d818 : run1001 Go.Proofs.Ythcdiaahpodkoaa.pair3Drawn.d818 = true := by kernel_rfl
set_option maxRecDepth 100000 in
theorem r1000_d822 : run1000 Go.Proofs.Ythcdiaahpodkoaa.pair3Drawn.d822 = true := by kernel_rfl
set_option maxRecDepth 100000 in
theorem r1001_d822 : run1001 Go.Proofs.Ythcdiaahpodkoaa.pair3Drawn.d822 = true := by kernel_rfl
set_option maxRecDepth 100000 in
theorem r1000_d826 : run1000 Go.Proofs.Ythcdiaahpodkoaa.pair3Drawn.d826 = true := by kernel_rfl
set_option maxRecDepth 100000 in
theorem r1001_d826 : run1001 Go.Proofs.Ythcdiaahpodkoaa.pair3Drawn.d826 = true := by kernel_rfl
set_option maxRecDepth 100000 in
theorem r1000_d830 : run1000 Go.Proofs.Ythcdiaahpodkoaa.pair3Drawn.d830 = true := by kernel_rfl
set_option maxRecDepth 100000 in
theorem r1001_d830 : run1001 Go.Proofs.Ythcdiaahpodkoaa.pair3Drawn.d830 = true := by kernel_rfl
set_option maxRecDepth 100000 in
theorem r1000_d834 : run1000 Go.Proofs.Ythcdiaahpodkoaa.pair3Drawn.d834 = true := by kernel_rfl
set_option maxRecDepth 100000 in
theorem r1001_d834 : run1001 Go.Proofs.Ythcdiaahpodkoaa.pair3Drawn.d834 = true := by kernel_rfl
set_option maxRecDepth 100000 in
theorem r1000_d838 : run1000 Go.Proofs.Ythcdiaahpodkoaa.pair3Drawn.d838 = true := by kernel_rfl
set_option maxRecDepth 100000 in
theorem r1001_d838 : run1001 Go.Proofs.Ythcdiaahpodkoaa.pair3Drawn.d838 = true := by kernel_rfl
set_option maxRecDepth 100000 in
theorem r1000_d842 : run1000 Go.Proofs.Ythcdiaahpodkoaa.pair3Drawn.d842 = true := by kernel_rfl
set_option maxRecDepth 100000 in
theorem r1001_d842 : run1001 Go.Proofs.Ythcdiaahpodkoaa.pair3Drawn.d842 = true := by kernel_rfl
set_option maxRecDepth 100000 in
theorem r1000_d846 : run1000 Go.Proofs.Ythcdiaahpodkoaa.pair3Drawn.d846 = true := by kernel_rfl
set_option maxRecDepth 100000 in
theorem r1001_d846 : run1001 Go.Proofs.Ythcdiaahpodkoaa.pair3Drawn.d846 = true := by kernel_rfl
set_option maxRecDepth 100000 in
theorem r1000_d850 : run1000 Go.Proofs.Ythcdiaahpodkoaa.pair3Drawn.d850 = true := by kernel_rfl
set_option maxRecDepth 100000 in
theorem r1001_d850 : run1001 Go.Proofs.Ythcdiaahpodkoaa.pair3Drawn.d850 = true := by kernel_rfl
set_option maxRecDepth 100000 in
theorem r1000_d854 : run1000 Go.Proofs.Ythcdiaahpodkoaa.pair3Drawn.d854 = true := by kernel_rfl
set_option maxRecDepth 100000 in
theorem r1001_d854 : run1001 Go.Proofs.Ythcdiaahpodkoaa.pair3Drawn.d854 = true := by kernel_rfl
set_option maxRecDepth 100000 in
theorem r1000_d858 : run1000 Go.Proofs.Ythcdiaahpodkoaa.pair3Drawn.d858 = true := by kernel_rfl
set_option maxRecDepth 100000 in
theorem r1001_d858 : run1001 Go.Proofs.Ythcdiaahpodkoaa.pair3Drawn.d858 = true := by kernel_rfl
set_option maxRecDepth 100000 in
theorem r1000_d862 : run1000 Go.Proofs.Ythcdiaahpodkoaa.pair3Drawn.d862 = true := by kernel_rfl
set_option maxRecDepth 100000 in
theorem r1001_d862 : run1001 Go.Proofs.Ythcdiaahpodkoaa.pair3Drawn.d862 = true := by kernel_rfl
set_option maxRecDepth 100000 in
theorem r1000_d866 : run1000 Go.Proofs.Ythcdiaahpodkoaa.pair3Drawn.d866 = true := by kernel_rfl
set_option maxRecDepth 100000 in
theorem r1001_d866 : run1001 Go.Proofs.Ythcdiaahpodkoaa.pair3Drawn.d866 = true := by kernel_rfl
set_option maxRecDepth 100000 in
theorem r1000_d870 : run1000 Go.Proofs.Ythcdiaahpodkoaa.pair3Drawn.d870 = true := by kernel_rfl
set_option maxRecDepth 100000 in
theorem r1001_d870 : run1001 Go.Proofs.Ythcdiaahpodkoaa.pair3Drawn.d870 = true := by kernel_rfl
set_option maxRecDepth 100000 in
theorem r1000_d874 : run1000 Go.Proofs.Ythcdiaahpodkoaa.pair3Drawn.d874 = true := by kernel_rfl
set_option maxRecDepth 100000 in
theorem r1001_d874 : run1001 Go.Proofs.Ythcdiaahpodkoaa.pair3Drawn.d874 = true := by kernel_rfl
set_option maxRecDepth 100000 in
theorem r1000_d878 : run1000 Go.Proofs.Ythcdiaahpodkoaa.pair3Drawn.d878 = true := by kernel_rfl
set_option maxRecDepth 100000 in
theorem r1001_d878 : run1001 Go.Proofs.Ythcdiaahpodkoaa.pair3Drawn.d878 = true := by kernel_rfl
set_option maxRecDepth 100000 in
theorem r1000_d882 : run1000 Go.Proofs.Ythcdiaahpodkoaa.pair3Drawn.d882 = true := by kernel_rfl
set_option maxRecDepth 100000 in
theorem r1001_d882 : run1001 Go.Proofs.Ythcdiaahpodkoaa.pair3Drawn.d882 = true := by kernel_rfl
set_option maxRecDepth 100000 in
theorem r1000_d886 : run1000 Go.Proofs.Ythcdiaahpodkoaa.pair3Drawn.d886 = true := by kernel_rfl
set_option maxRecDepth 100000 in
theorem r1001_d886 : run1001 Go.Proofs.Ythcdiaahpodkoaa.pair3Drawn.d886 = true := by kernel_rfl
set_option maxRecDepth 100000 in
theorem r1000_d890 : run1000 Go.Proofs.Ythcdiaahpodkoaa.pair3Drawn.d890 = true := by kernel_rfl
set_option maxRecDepth 100000 in
theorem r1001_d890 : run1001 Go.Proofs.Ythcdiaahpodkoaa.pair3Drawn.d890 = true := by kernel_rfl
set_option maxRecDepth 100000 in
theorem r1000_d894 : run1000 Go.Proofs.Ythcdiaahpodkoaa.pair3Drawn.d894 = true := by kernel_rfl
set_option maxRecDepth 100000 in
theorem r1001_d894 : run1001 Go.Proofs.Ythcdiaahpodkoaa.pair3Drawn.d894 = true := by kernel_rfl
set_option maxRecDepth 100000 in
theorem r1000_d898 : run1000 Go.Proofs.Ythcdiaahpodkoaa.pair3Drawn.d898 = true := by kernel_rfl
set_option maxRecDepth 100000 in
theorem r1001_d898 : run1001 Go.Proofs.Ythcdiaahpodkoaa.pair3Drawn.d898 = true := by kernel_rfl
set_option maxRecDepth 100000 in
theorem r1000_d902 : run1000 Go.Proofs.Ythcdiaahpodkoaa.pair3Drawn.d902 = true := by kernel_rfl
set_option maxRecDepth 100000 in
theorem r1001_d902 : run1001 Go.Proofs.Ythcdiaahpodkoaa.pair3Drawn.d902 = true := by kernel_rfl
set_option maxRecDepth 100000 in
theorem r1000_d906 : run1000 Go.Proofs.Ythcdiaahpodkoaa.pair3Drawn.d906 = true := by kernel_rfl
set_option maxRecDepth 100000 in
theorem r1001_d906 : run1001 Go.Proofs.Ythcdiaahpodkoaa.pair3Drawn.d906 = true := by kernel_rfl
set_option maxRecDepth 100000 in
theorem r1000_d910 : run1000 Go.Proofs.Ythcdiaahpodkoaa.pair3Drawn.d910 = true := by kernel_rfl
set_option maxRecDepth 100000 in
theorem r1001_d910 : run1001 Go.Proofs.Ythcdiaahpodkoaa.pair3Drawn.d910 = true := by kernel_rfl
set_option maxRecDepth 100000 in
theorem r1000_d914 : run1000 Go.Proofs.Ythcdiaahpodkoaa.pair3Drawn.d914 = true := by kernel_rfl
set_option maxRecDepth 100000 in
theorem r1001_d914 : run1001 Go.Proofs.Ythcdiaahpodkoaa.pair3Drawn.d914 = true := by kernel_rfl
set_option maxRecDepth 100000 in
theorem r1000_d918 : run1000 Go.Proofs.Ythcdiaahpodkoaa.pair3Drawn.d918 = true := by kernel_rfl
set_option maxRecDepth 100000 in
theorem r1001_d918 : run1001 Go.Proofs.Ythcdiaahpodkoaa.pair3Drawn.d918 = true := by kernel_rfl
set_option maxRecDepth 100000 in
theorem r1000_d922 : run1000 Go.Proofs.Ythcdiaahpodkoaa.pair3Drawn.d922 = true := by kernel_rfl
set_option maxRecDepth 100000 in
theorem r1001_d922 : run1001 Go.Proofs.Ythcdiaahpodkoaa.pair3Drawn.d922 = true := by kernel_rfl
set_option maxRecDepth 100000 in
theorem r1000_d926 : run1000 Go.Proofs.Ythcdiaahpodkoaa.pair3Drawn.d926 = true := by kernel_rfl
set_option maxRecDepth 100000 in
theorem r1001_d926 : run1001 Go.Proofs.Ythcdiaahpodkoaa.pair3Drawn.d926 = true := by kernel_rfl
set_option maxRecDepth 100000 in
theorem r1000_d930 : run1000 Go.Proofs.Ythcdiaahpodkoaa.pair3Drawn.d930 = true := by kernel_rfl
set_option maxRecDepth 100000 in
theorem r1001_d930 : run1001 Go.Proofs.Ythcdiaahpodkoaa.pair3Drawn.d930 = true := by kernel_rfl
set_option maxRecDepth 100000 in
theorem r1000_d934 : run1000 Go.Proofs.Ythcdiaahpodkoaa.pair3Drawn.d934 = true := by kernel_rfl
set_option maxRecDepth 100000 in
theorem r1001_d934 : run1001 Go.Proofs.Ythcdiaahpodkoaa.pair3Drawn.d934 = true := by kernel_rfl
set_option maxRecDepth 100000 in
theorem r1000_d938 : run1000 Go.Proofs.Ythcdiaahpodkoaa.pair3Drawn.d938 = true := by kernel_rfl
set_option maxRecDepth 100000 in
theorem r1001_d938 : run1001 Go.Proofs.Ythcdiaahpodkoaa.pair3Drawn.d938 = true := by kernel_rfl
set_option maxRecDepth 100000 in
theorem r1000_d942 : run1000 Go.Proofs.Ythcdiaahpodkoaa.pair3Drawn.d942 = true := by kernel_rfl
set_option maxRecDepth 100000 in
theorem r1001_d942 : run1001 Go.Proofs.Ythcdiaahpodkoaa.pair3Drawn.d942 = true := by kernel_rfl
set_option maxRecDepth 100000 in
theorem r1000_d946 : run1000 Go.Proofs.Ythcdiaahpodkoaa.pair3Drawn.d946 = true := by kernel_rfl
set_option maxRecDepth 100000 in
theorem r1001_d946 : run1001 Go.Proofs.Ythcdiaahpodkoaa.pair3Drawn.d946 = true := by kernel_rfl
set_option maxRecDepth 100000 in
theorem r1000_d950 : run1000 Go.Proofs.Ythcdiaahpodkoaa.pair3Drawn.d950 = true := by kernel_rfl
set_option maxRecDepth 100000 in
theorem r1001_d950 : run1001 Go.Proofs.Ythcdiaahpodkoaa.pair3Drawn.d950 = true := by kernel_rfl
set_option maxRecDepth 100000 in
theorem r1000_d954 : run1000 Go.Proofs.Ythcdiaahpodkoaa.pair3Drawn.d954 = true := by kernel_rfl
set_option maxRecDepth 100000 in
theorem r1001_d954 : run1001 Go.Proofs.Ythcdiaahpodkoaa.pair3Drawn.d954 = true := by kernel_rfl
set_option maxRecDepth 100000 in
theorem r1000_d958 : run1000 Go.Proofs.Ythcdiaahpodkoaa.pair3Drawn.d958 = true := by kernel_rfl
set_option maxRecDepth 100000 in
theorem r1001_d958 : run1001 Go.Proofs.Ythcdiaahpodkoaa.pair3Drawn.d958 = true := by kernel_rfl
end Go.Proofs.Ythcdiaahpodkoaa.fnAboveRuns
