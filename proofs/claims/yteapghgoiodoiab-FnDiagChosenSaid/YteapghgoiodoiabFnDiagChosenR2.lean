/- Runs of the program at a seat. -/
import Derived.Test.YteapghgoiodoiabFnDiagChosenP
namespace Go.Proofs.Yteapghgoiodoiab.fnDiagChosenRuns
open Go Go.Eng
set_option linter.unusedVariables false
set_option linter.unusedSectionVars false
set_option linter.unusedSimpArgs false
set_option maxRecDepth 100000
open Go.Proofs.Yteapghgoiodoiab.atDrawn
theorem r_d2 : run d2 = true := by kernel_rfl
theorem r_d6 : run d6 = true := by kernel_rfl
theorem r_d10 : run d10 = true := by kernel_rfl
theorem r_d14 : run d14 = true := by kernel_rfl
theorem r_d18 : run d18 = true := by kernel_rfl
theorem r_d22 : run d22 = true := by kernel_rfl
theorem r_d26 : run d26 = true := by kernel_rfl
theorem r_d30 : run d30 = true := by kernel_rfl
theorem r_d34 : run d34 = true := by kernel_rfl
theorem r_d38 : run d38 = true := by kernel_rfl
theorem r_d42 : run d42 = true := by kernel_rfl
theorem r_d46 : run d46 = true := by kernel_rfl
theorem r_d50 : run d50 = true := by kernel_rfl
theorem r_d54 : run d54 = true := by kernel_rfl
theorem r_d58 : run d58 = true := by kernel_rfl
theorem r_d62 : run d62 = true := by kernel_rfl
theorem r_d66 : run d66 = true := by kernel_rfl
theorem r_d70 : run d70 = true := by kernel_rfl
theorem r_d74 : run d74 = true := by kernel_rfl
theorem r_d78 : run d78 = true := by kernel_rfl
theorem r_d82 : run d82 = true := by kernel_rfl
theorem r_d86 : run d86 = true := by kernel_rfl
theorem r_d90 : run d90 = true := by kernel_rfl
theorem r_d94 : run d94 = true := by kernel_rfl
theorem r_d98 : run d98 = true := by kernel_rfl
theorem r_d102 : run d102 = true := by kernel_rfl
theorem r_d106 : run d106 = true := by kernel_rfl
theorem r_d110 : run d110 = true := by kernel_rfl
theorem r_d114 : run d114 = true := by kernel_rfl
theorem r_d118 : run d118 = true := by kernel_rfl
theorem r_d122 : run d122 = true := by kernel_rfl
theorem r_d126 : run d126 = true := by kernel_rfl
theorem r_d130 : run d130 = true := by kernel_rfl
theorem r_d134 : run d134 = true := by kernel_rfl
theorem r_d138 : run d138 = true := by kernel_rfl
theorem r_d142 : run d142 = true := by kernel_rfl
theorem r_d146 : run d146 = true := by kernel_rfl
theorem r_d150 : run d150 = true := by kernel_rfl
theorem r_d154 : run d154 = true := by kernel_rfl
theorem r_d158 : run d158 = true := by kernel_rfl
theorem r_d162 : run d162 = true := by kernel_rfl
theorem r_d166 : run d166 = true := by kernel_rfl
theorem r_d170 : run d170 = true := by kernel_rfl
theorem r_d174 : run d174 = true := by kernel_rfl
theorem r_d178 : run d178 = true := by kernel_rfl
theorem r_d182 : run d182 = true := by kernel_rfl
theorem r_d186 : run d186 = true := by kernel_rfl
theorem r_d190 : run d190 = true := by kernel_rfl
theorem r_d194 : run d194 = true := by kernel_rfl
theorem r_d198 : run d198 = true := by kernel_rfl
theorem r_d202 : run d202 = true := by kernel_rfl
theorem r_d206 : run d206 = true := by kernel_rfl
theorem r_d210 : run d210 = true := by kernel_rfl
theorem r_d214 : run d214 = true := by kernel_rfl
theorem r_d218 : run d218 = true := by kernel_rfl
theorem r_d222 : run d222 = true := by kernel_rfl
theorem r_d226 : run d226 = true := by kernel_rfl
theorem r_d230 : run d230 = true := by kernel_rfl
theorem r_d234 : run d234 = true := by kernel_rfl
theorem r_d238 : run d238 = true := by kernel_rfl
theorem r_d242 : run d242 = true := by kernel_rfl
theorem r_d246 : run d246 = true := by kernel_rfl
theorem r_d250 : run d250 = true := by kernel_rfl
theorem r_d254 : run d254 = true := by kernel_rfl
theorem r_d258 : run d258 = true := by kernel_rfl
theorem r_d262 : run d262 = true := by kernel_rfl
theorem r_d266 : run d266 = true := by kernel_rfl
theorem r_d270 : run d270 = true := by kernel_rfl
theorem r_d274 : run d274 = true := by kernel_rfl
theorem r_d278 : run d278 = true := by kernel_rfl
theorem r_d282 : run d282 = true := by kernel_rfl
theorem r_d286 : run d286 = true := by kernel_rfl
theorem r_d290 : run d290 = true := by kernel_rfl
theorem r_d294 : run d294 = true := by kernel_rfl
theorem r_d298 : run d298 = true := by kernel_rfl
theorem r_d302 : run d302 = true := by kernel_rfl
theorem r_d306 : run d306 = true := by kernel_rfl
theorem r_d310 : run d310 = true := by kernel_rfl
theorem r_d314 : run d314 = true := by kernel_rfl
theorem r_d318 : run d318 = true := by kernel_rfl
theorem r_d322 : run d322 = true := by kernel_rfl
theorem r_d326 : run d326 = true := by kernel_rfl
theorem r_d330 : run d330 = true := by kernel_rfl
theorem r_d334 : run d334 = true := by kernel_rfl
theorem r_d338 : run d338 = true := by kernel_rfl
theorem r_d342 : run d342 = true := by kernel_rfl
theorem r_d346 : run d346 = true := by kernel_rfl
theorem r_d350 : run d350 = true := by kernel_rfl
end Go.Proofs.Yteapghgoiodoiab.fnDiagChosenRuns
