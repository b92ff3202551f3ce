/- Runs of the program at a seat. -/
import Derived.Test.YthggbkoccgigaaaFnTableFullP
namespace Go.Proofs.Ythggbkoccgigaaa.fnTableFullRuns
open Go Go.Eng
set_option linter.unusedVariables false
set_option linter.unusedSectionVars false
set_option linter.unusedSimpArgs false
set_option maxRecDepth 100000 in
theorem r_d2 : run Go.Proofs.Ythggbkoccgigaaa.pairDrawn.d2 = true := by kernel_rfl
set_option maxRecDepth 100000 in
theorem r_d6 : run Go.Proofs.Ythggbkoccgigaaa.pairDrawn.d6 = true := by kernel_rfl
set_option maxRecDepth 100000 in
theorem r_d10 : run Go.Proofs.Ythggbkoccgigaaa.pairDrawn.d10 = true := by kernel_rfl
set_option maxRecDepth 100000 in
theorem r_d14 : run Go.Proofs.Ythggbkoccgigaaa.pairDrawn.d14 = true := by kernel_rfl
set_option maxRecDepth 100000 in
theorem r_d18 : run Go.Proofs.Ythggbkoccgigaaa.pairDrawn.d18 = true := by kernel_rfl
set_option maxRecDepth 100000 in
theorem r_d22 : run Go.Proofs.Ythggbkoccgigaaa.pairDrawn.d22 = true := by kernel_rfl
set_option maxRecDepth 100000 in
theorem r_d26 : run Go.Proofs.Ythggbkoccgigaaa.pairDrawn.d26 = true := by kernel_rfl
set_option maxRecDepth 100000 in
theorem r_d30 : run Go.Proofs.Ythggbkoccgigaaa.pairDrawn.d30 = true := by kernel_rfl
set_option maxRecDepth 100000 in
theorem r_d34 : run Go.Proofs.Ythggbkoccgigaaa.pairDrawn.d34 = true := by kernel_rfl
set_option maxRecDepth 100000 in
theorem r_d38 : run Go.Proofs.Ythggbkoccgigaaa.pairDrawn.d38 = true := by kernel_rfl
set_option maxRecDepth 100000 in
theorem r_d42 : run Go.Proofs.Ythggbkoccgigaaa.pairDrawn.d42 = true := by kernel_rfl
set_option maxRecDepth 100000 in
theorem r_d46 : run Go.Proofs.Ythggbkoccgigaaa.pairDrawn.d46 = true := by kernel_rfl
set_option maxRecDepth 100000 in
theorem r_d50 : run Go.Proofs.Ythggbkoccgigaaa.pairDrawn.d50 = true := by kernel_rfl
set_option maxRecDepth 100000 in
theorem r_d54 : run Go.Proofs.Ythggbkoccgigaaa.pairDrawn.d54 = true := by kernel_rfl
set_option maxRecDepth 100000 in
theorem r_d58 : run Go.Proofs.Ythggbkoccgigaaa.pairDrawn.d58 = true := by kernel_rfl
set_option maxRecDepth 100000 in
theorem r_d62 : run Go.Proofs.Ythggbkoccgigaaa.pairDrawn.d62 = true := by kernel_rfl
set_option maxRecDepth 100000 in
theorem r_d66 : run Go.Proofs.Ythggbkoccgigaaa.pairDrawn.d66 = true := by kernel_rfl
set_option maxRecDepth 100000 in
theorem r_d70 : run Go.Proofs.Ythggbkoccgigaaa.pairDrawn.d70 = true := by kernel_rfl
set_option maxRecDepth 100000 in
theorem r_d74 : run Go.Proofs.Ythggbkoccgigaaa.pairDrawn.d74 = true := by kernel_rfl
set_option maxRecDepth 100000 in
theorem r_d78 : run Go.Proofs.Ythggbkoccgigaaa.pairDrawn.d78 = true := by kernel_rfl
set_option maxRecDepth 100000 in
theorem r_d82 : run Go.Proofs.Ythggbkoccgigaaa.pairDrawn.d82 = true := by kernel_rfl
set_option maxRecDepth 100000 in
theorem r_d86 : run Go.Proofs.Ythggbkoccgigaaa.pairDrawn.d86 = true := by kernel_rfl
set_option maxRecDepth 100000 in
theorem r_d90 : run Go.Proofs.Ythggbkoccgigaaa.pairDrawn.d90 = true := by kernel_rfl
set_option maxRecDepth 100000 in
theorem r_d94 : run Go.Proofs.Ythggbkoccgigaaa.pairDrawn.d94 = true := by kernel_rfl
set_option maxRecDepth 100000 in
theorem r_d98 : run Go.Proofs.Ythggbkoccgigaaa.pairDrawn.d98 = true := by kernel_rfl
set_option maxRecDepth 100000 in
theorem r_d102 : run Go.Proofs.Ythggbkoccgigaaa.pairDrawn.d102 = true := by kernel_rfl
set_option maxRecDepth 100000 in
theorem r_d106 : run Go.Proofs.Ythggbkoccgigaaa.pairDrawn.d106 = true := by kernel_rfl
set_option maxRecDepth 100000 in
theorem r_d110 : run Go.Proofs.Ythggbkoccgigaaa.pairDrawn.d110 = true := by kernel_rfl
set_option maxRecDepth 100000 in
theorem r_d114 : run Go.Proofs.Ythggbkoccgigaaa.pairDrawn.d114 = true := by kernel_rfl
set_option maxRecDepth 100000 in
theorem r_d118 : run Go.Proofs.Ythggbkoccgigaaa.pairDrawn.d118 = true := by kernel_rfl
set_option maxRecDepth 100000 in
theorem r_d122 : run Go.Proofs.Ythggbkoccgigaaa.pairDrawn.d122 = true := by kernel_rfl
set_option maxRecDepth 100000 in
theorem r_d126 : run Go.Proofs.Ythggbkoccgigaaa.pairDrawn.d126 = true := by kernel_rfl
set_option maxRecDepth 100000 in
theorem r_d130 : run Go.Proofs.Ythggbkoccgigaaa.pairDrawn.d130 = true := by kernel_rfl
set_option maxRecDepth 100000 in
theorem r_d134 : run Go.Proofs.Ythggbkoccgigaaa.pairDrawn.d134 = true := by kernel_rfl
set_option maxRecDepth 100000 in
theorem r_d138 : run Go.Proofs.Ythggbkoccgigaaa.pairDrawn.d138 = true := by kernel_rfl
set_option maxRecDepth 100000 in
theorem r_d142 : run Go.Proofs.Ythggbkoccgigaaa.pairDrawn.d142 = true := by kernel_rfl
set_option maxRecDepth 100000 in
theorem r_d146 : run Go.Proofs.Ythggbkoccgigaaa.pairDrawn.d146 = true := by kernel_rfl
set_option maxRecDepth 100000 in
theorem r_d150 : run Go.Proofs.Ythggbkoccgigaaa.pairDrawn.d150 = true := by kernel_rfl
set_option maxRecDepth 100000 in
theorem r_d154 : run Go.Proofs.Ythggbkoccgigaaa.pairDrawn.d154 = true := by kernel_rfl
set_option maxRecDepth 100000 in
theorem r_d158 : run Go.Proofs.Ythggbkoccgigaaa.pairDrawn.d158 = true := by kernel_rfl
set_option maxRecDepth 100000 in
theorem r_d162 : run Go.Proofs.Ythggbkoccgigaaa.pairDrawn.d162 = true := by kernel_rfl
set_option maxRecDepth 100000 in
theorem r_d166 : run Go.Proofs.Ythggbkoccgigaaa.pairDrawn.d166 = true := by kernel_rfl
set_option maxRecDepth 100000 in
theorem r_d170 : run Go.Proofs.Ythggbkoccgigaaa.pairDrawn.d170 = true := by kernel_rfl
set_option maxRecDepth 100000 in
theorem r_d174 : run Go.Proofs.Ythggbkoccgigaaa.pairDrawn.d174 = true := by kernel_rfl
set_option maxRecDepth 100000 in
theorem r_d178 : run Go.Proofs.Ythggbkoccgigaaa.pairDrawn.d178 = true := by kernel_rfl
set_option maxRecDepth 100000 in
theorem r_d182 : run Go.Proofs.Ythggbkoccgigaaa.pairDrawn.d182 = true := by kernel_rfl
set_option maxRecDepth 100000 in
theorem r_d186 : run Go.Proofs.Ythggbkoccgigaaa.pairDrawn.d186 = true := by kernel_rfl
set_option maxRecDepth 100000 in
theorem r_d190 : run Go.Proofs.Ythggbkoccgigaaa.pairDrawn.d190 = true := by kernel_rfl
set_option maxRecDepth 100000 in
theorem r_d194 : run Go.Proofs.Ythggbkoccgigaaa.pairDrawn.d194 = true := by kernel_rfl
set_option maxRecDepth 100000 in
theorem r_d198 : run Go.Proofs.Ythggbkoccgigaaa.pairDrawn.d198 = true := by kernel_rfl
set_option maxRecDepth 100000 in
theorem r_d202 : run Go.Proofs.Ythggbkoccgigaaa.pairDrawn.d202 = true := by kernel_rfl
set_option maxRecDepth 100000 in
theorem r_d206 : run Go.Proofs.Ythggbkoccgigaaa.pairDrawn.d206 = true := by kernel_rfl
set_option maxRecDepth 100000 in
theorem r_d210 : run Go.Proofs.Ythggbkoccgigaaa.pairDrawn.d210 = true := by kernel_rfl
set_option maxRecDepth 100000 in
theorem r_d214 : run Go.Proofs.Ythggbkoccgigaaa.pairDrawn.d214 = true := by kernel_rfl
set_option maxRecDepth 100000 in
theorem r_d218 : run Go.Proofs.Ythggbkoccgigaaa.pairDrawn.d218 = true := by kernel_rfl
set_option maxRecDepth 100000 in
theorem r_d222 : run Go.Proofs.Ythggbkoccgigaaa.pairDrawn.d222 = true := by kernel_rfl
set_option maxRecDepth 100000 in
theorem r_d226 : run Go.Proofs.Ythggbkoccgigaaa.pairDrawn.d226 = true := by kernel_rfl
set_option maxRecDepth 100000 in
theorem r_d230 : run Go.Proofs.Ythggbkoccgigaaa.pairDrawn.d230 = true := by kernel_rfl
set_option maxRecDepth 100000 in
theorem r_d234 : run Go.Proofs.Ythggbkoccgigaaa.pairDrawn.d234 = true := by kernel_rfl
set_option maxRecDepth 100000 in
theorem r_d238 : run Go.Proofs.Ythggbkoccgigaaa.pairDrawn.d238 = true := by kernel_rfl
set_option maxRecDepth 100000 in
theorem r_d242 : run Go.Proofs.Ythggbkoccgigaaa.pairDrawn.d242 = true := by kernel_rfl
set_option maxRecDepth 100000 in
theorem r_d246 : run Go.Proofs.Ythggbkoccgigaaa.pairDrawn.d246 = true := by kernel_rfl
set_option maxRecDepth 100000 in
theorem r_d250 : run Go.Proofs.Ythggbkoccgigaaa.pairDrawn.d250 = true := by kernel_rfl
set_option maxRecDepth 100000 in
theorem r_d254 : run Go.Proofs.Ythggbkoccgigaaa.pairDrawn.d254 = true := by kernel_rfl
set_option maxRecDepth 100000 in
theorem r_d258 : run Go.Proofs.Ythggbkoccgigaaa.pairDrawn.d258 = true := by kernel_rfl
set_option maxRecDepth 100000 in
theorem r_d262 : run Go.Proofs.Ythggbkoccgigaaa.pairDrawn.d262 = true := by kernel_rfl
set_option maxRecDepth 100000 in
theorem r_d266 : run Go.Proofs.Ythggbkoccgigaaa.pairDrawn.d266 = true := by kernel_rfl
set_option maxRecDepth 100000 in
theorem r_d270 : run Go.Proofs.Ythggbkoccgigaaa.pairDrawn.d270 = true := by kernel_rfl
set_option maxRecDepth 100000 in
theorem r_d274 : run Go.Proofs.Ythggbkoccgigaaa.pairDrawn.d274 = true := by kernel_rfl
set_option maxRecDepth 100000 in
theorem r_d278 : run Go.Proofs.Ythggbkoccgigaaa.pairDrawn.d278 = true := by kernel_rfl
set_option maxRecDepth 100000 in
theorem r_d282 : run Go.Proofs.Ythggbkoccgigaaa.pairDrawn.d282 = true := by kernel_rfl
set_option maxRecDepth 100000 in
theorem r_d286 : run Go.Proofs.Ythggbkoccgigaaa.pairDrawn.d286 = true := by kernel_rfl
set_option maxRecDepth 100000 in
theorem r_d290 : run Go.Proofs.Ythggbkoccgigaaa.pairDrawn.d290 = true := by kernel_rfl
set_option maxRecDepth 100000 in
theorem r_d294 : run Go.Proofs.Ythggbkoccgigaaa.pairDrawn.d294 = true := by kernel_rfl
set_option maxRecDepth 100000 in
theorem r_d298 : run Go.Proofs.Ythggbkoccgigaaa.pairDrawn.d298 = true := by kernel_rfl
set_option maxRecDepth 100000 in
theorem r_d302 : run Go.Proofs.Ythggbkoccgigaaa.pairDrawn.d302 = true := by kernel_rfl
set_option maxRecDepth 100000 in
theorem r_d306 : run Go.Proofs.Ythggbkoccgigaaa.pairDrawn.d306 = true := by kernel_rfl
set_option maxRecDepth 100000 in
theorem r_d310 : run Go.Proofs.Ythggbkoccgigaaa.pairDrawn.d310 = true := by kernel_rfl
set_option maxRecDepth 100000 in
theorem r_d314 : run Go.Proofs.Ythggbkoccgigaaa.pairDrawn.d314 = true := by kernel_rfl
set_option maxRecDepth 100000 in
theorem r_d318 : run Go.Proofs.Ythggbkoccgigaaa.pairDrawn.d318 = true := by kernel_rfl
set_option maxRecDepth 100000 in
theorem r_d322 : run Go.Proofs.Ythggbkoccgigaaa.pairDrawn.d322 = true := by kernel_rfl
set_option maxRecDepth 100000 in
theorem r_d326 : run Go.Proofs.Ythggbkoccgigaaa.pairDrawn.d326 = true := by kernel_rfl
set_option maxRecDepth 100000 in
theorem r_d330 : run Go.Proofs.Ythggbkoccgigaaa.pairDrawn.d330 = true := by kernel_rfl
set_option maxRecDepth 100000 in
theorem r_d334 : run Go.Proofs.Ythggbkoccgigaaa.pairDrawn.d334 = true := by kernel_rfl
set_option maxRecDepth 100000 in
theorem r_d338 : run Go.Proofs.Ythggbkoccgigaaa.pairDrawn.d338 = true := by kernel_rfl
set_option maxRecDepth 100000 in
theorem r_d342 : run Go.Proofs.Ythggbkoccgigaaa.pairDrawn.d342 = true := by kernel_rfl
set_option maxRecDepth 100000 in
theorem r_d346 : run Go.Proofs.Ythggbkoccgigaaa.pairDrawn.d346 = true := by kernel_rfl
set_option maxRecDepth 100000 in
theorem r_d350 : run Go.Proofs.Ythggbkoccgigaaa.pairDrawn.d350 = true := by kernel_rfl
set_option maxRecDepth 100000 in
theorem r_d354 : run Go.Proofs.Ythggbkoccgigaaa.pairDrawn.d354 = true := by kernel_rfl
set_option maxRecDepth 100000 in
theorem r_d358 : run Go.Proofs.Ythggbkoccgigaaa.pairDrawn.d358 = true := by kernel_rfl
set_option maxRecDepth 100000 in
theorem r_d362 : run Go.Proofs.Ythggbkoccgigaaa.pairDrawn.d362 = true := by kernel_rfl
set_option maxRecDepth 100000 in
theorem r_d366 : run Go.Proofs.Ythggbkoccgigaaa.pairDrawn.d366 = true := by kernel_rfl
set_option maxRecDepth 100000 in
theorem r_d370 : run Go.Proofs.Ythggbkoccgigaaa.pairDrawn.d370 = true := by kernel_rfl
set_option maxRecDepth 100000 in
theorem r_d374 : run Go.Proofs.Ythggbkoccgigaaa.pairDrawn.d374 = true := by kernel_rfl
set_option maxRecDepth 100000 in
theorem r_d378 : run Go.Proofs.Ythggbkoccgigaaa.pairDrawn.d378 = true := by kernel_rfl
set_option maxRecDepth 100000 in
theorem r_d382 : run Go.Proofs.Ythggbkoccgigaaa.pairDrawn.d382 = true := by kernel_rfl
set_option maxRecDepth 100000 in
theorem r_d386 : run Go.Proofs.Ythggbkoccgigaaa.pairDrawn.d386 = true := by kernel_rfl
set_option maxRecDepth 100000 in
theorem r_d390 : run Go.Proofs.Ythggbkoccgigaaa.pairDrawn.d390 = true := by kernel_rfl
set_option maxRecDepth 100000 in
theorem r_d394 : run Go.Proofs.Ythggbkoccgigaaa.pairDrawn.d394 = true := by kernel_rfl
set_option maxRecDepth 100000 in
theorem r_d398 : run Go.Proofs.Ythggbkoccgigaaa.pairDrawn.d398 = true := by kernel_rfl
set_option maxRecDepth 100000 in
theorem r_d402 : run Go.Proofs.Ythggbkoccgigaaa.pairDrawn.d402 = true := by kernel_rfl
set_option maxRecDepth 100000 in
theorem r_d406 : run Go.Proofs.Ythggbkoccgigaaa.pairDrawn.d406 = true := by kernel_rfl
set_option maxRecDepth 100000 in
theorem r_d410 : run Go.Proofs.Ythggbkoccgigaaa.pairDrawn.d410 = true := by kernel_rfl
set_option maxRecDepth 100000 in
theorem r_d414 : run Go.Proofs.Ythggbkoccgigaaa.pairDrawn.d414 = true := by kernel_rfl
set_option maxRecDepth 100000 in
theorem r_d418 : run Go.Proofs.Ythggbkoccgigaaa.pairDrawn.d418 = true := by kernel_rfl
set_option maxRecDepth 100000 in
theorem r_d422 : run Go.Proofs.Ythggbkoccgigaaa.pairDrawn.d422 = true := by kernel_rfl
set_option maxRecDepth 100000 in
theorem r_d426 : run Go.Proofs.Ythggbkoccgigaaa.pairDrawn.d426 = true := by kernel_rfl
set_option maxRecDepth 100000 in
theorem r_d430 : run Go.Proofs.Ythggbkoccgigaaa.pairDrawn.d430 = true := by kernel_rfl
set_option maxRecDepth 100000 in
theorem r_d434 : run Go.Proofs.Ythggbkoccgigaaa.pairDrawn.d434 = true := by kernel_rfl
set_option maxRecDepth 100000 in
theorem r_d438 : run Go.Proofs.Ythggbkoccgigaaa.pairDrawn.d438 = true := by kernel_rfl
set_option maxRecDepth 100000 in
theorem r_d442 : run Go.Proofs.Ythggbkoccgigaaa.pairDrawn.d442 = true := by kernel_rfl
set_option maxRecDepth 100000 in
theorem r_d446 : run Go.Proofs.Ythggbkoccgigaaa.pairDrawn.d446 = true := by kernel_rfl
set_option maxRecDepth 100000 in
theorem r_d450 : run Go.Proofs.Ythggbkoccgigaaa.pairDrawn.d450 = true := by kernel_rfl
set_option maxRecDepth 100000 in
theorem r_d454 : run Go.Proofs.Ythggbkoccgigaaa.pairDrawn.d454 = true := by kernel_rfl
set_option maxRecDepth 100000 in
theorem r_d458 : run Go.Proofs.Ythggbkoccgigaaa.pairDrawn.d458 = true := by kernel_rfl
set_option maxRecDepth 100000 in
theorem r_d462 : run Go.Proofs.Ythggbkoccgigaaa.pairDrawn.d462 = true := by kernel_rfl
set_option maxRecDepth 100000 in
theorem r_d466 : run Go.Proofs.Ythggbkoccgigaaa.pairDrawn.d466 = true := by kernel_rfl
set_option maxRecDepth 100000 in
theorem r_d470 : run Go.Proofs.Ythggbkoccgigaaa.pairDrawn.d470 = true := by kernel_rfl
set_option maxRecDepth 100000 in
theorem r_d474 : run Go.Proofs.Ythggbkoccgigaaa.pairDrawn.d474 = true := by kernel_rfl
set_option maxRecDepth 100000 in
theorem r_d478 : run Go.Proofs.Ythggbkoccgigaaa.pairDrawn.d478 = true := by kernel_rfl
set_option maxRecDepth 100000 in
theorem r_d482 : run Go.Proofs.Ythggbkoccgigaaa.pairDrawn.d482 = true := by kernel_rfl
set_option maxRecDepth 100000 in
theorem r_d486 : run Go.Proofs.Ythggbkoccgigaaa.pairDrawn.d486 = true := by kernel_rfl
set_option maxRecDepth 100000 in
theorem r_d490 : run Go.Proofs.Ythggbkoccgigaaa.pairDrawn.d490 = true := by kernel_rfl
set_option maxRecDepth 100000 in
theorem r_d494 : run Go.Proofs.Ythggbkoccgigaaa.pairDrawn.d494 = true := by kernel_rfl
set_option maxRecDepth 100000 in
theorem r_d498 : run Go.Proofs.Ythggbkoccgigaaa.pairDrawn.d498 = true := by kernel_rfl
set_option maxRecDepth 100000 in
theorem r_d502 : run Go.Proofs.Ythggbkoccgigaaa.pairDrawn.d502 = true := by kernel_rfl
set_option maxRecDepth 100000 in
theorem r_d506 : run Go.Proofs.Ythggbkoccgigaaa.pairDrawn.d506 = true := by kernel_rfl
set_option maxRecDepth 100000 in
theorem r_d510 : run Go.Proofs.Ythggbkoccgigaaa.pairDrawn.d510 = true := by kernel_rfl
set_option maxRecDepth 100000 in
theorem r_d514 : run Go.Proofs.Ythggbkoccgigaaa.pairDrawn.d514 = true := by kernel_rfl
set_option maxRecDepth 100000 in
theorem r_d518 : run Go.Proofs.Ythggbkoccgigaaa.pairDrawn.d518 = true := by kernel_rfl
set_option maxRecDepth 100000 in
theorem r_d522 : run Go.Proofs.Ythggbkoccgigaaa.pairDrawn.d522 = true := by kernel_rfl
set_option maxRecDepth 100000 in
theorem r_d526 : run Go.Proofs.Ythggbkoccgigaaa.pairDrawn.d526 = true := by kernel_rfl
set_option maxRecDepth 100000 in
theorem r_d530 : run Go.Proofs.Ythggbkoccgigaaa.pairDrawn.d530 = true := by kernel_rfl
set_option maxRecDepth 100000 in
theorem r_d534 : run Go.Proofs.Ythggbkoccgigaaa.pairDrawn.d534 = true := by kernel_rfl
set_option maxRecDepth 100000 in
theorem r_d538 : run Go.Proofs.Ythggbkoccgigaaa.pairDrawn.d538 = true := by kernel_rfl
set_option maxRecDepth 100000 in
theorem r_d542 : run Go.Proofs.Ythggbkoccgigaaa.pairDrawn.d542 = true := by kernel_rfl
set_option maxRecDepth 100000 in
theorem r_d546 : run Go.Proofs.Ythggbkoccgigaaa.pairDrawn.d546 = true := by kernel_rfl
set_option maxRecDepth 100000 in
theorem r_d550 : run Go.Proofs.Ythggbkoccgigaaa.pairDrawn.d550 = true := by kernel_rfl
set_option maxRecDepth 100000 in
theorem r_d554 : run Go.Proofs.Ythggbkoccgigaaa.pairDrawn.d554 = true := by kernel_rfl
set_option maxRecDepth 100000 in
theorem r_d558 : run Go.Proofs.Ythggbkoccgigaaa.pairDrawn.d558 = true := by kernel_rfl
set_option maxRecDepth 100000 in
theorem r_d562 : run Go.Proofs.Ythggbkoccgigaaa.pairDrawn.d562 = true := by kernel_rfl
set_option maxRecDepth 100000 in
theorem r_d566 : run Go.Proofs.Ythggbkoccgigaaa.pairDrawn.d566 = true := by kernel_rfl
set_option maxRecDepth 100000 in
theorem r_d570 : run Go.Proofs.Ythggbkoccgigaaa.pairDrawn.d570 = true := by kernel_rfl
set_option maxRecDepth 100000 in
theorem r_d574 : run Go.Proofs.Ythggbkoccgigaaa.pairDrawn.d574 = true := by kernel_rfl
set_option maxRecDepth 100000 in
theorem r_d578 : run Go.Proofs.Ythggbkoccgigaaa.pairDrawn.d578 = true := by kernel_rfl
set_option maxRecDepth 100000 in
theorem r_d582 : run Go.Proofs.Ythggbkoccgigaaa.pairDrawn.d582 = true := by kernel_rfl
set_option maxRecDepth 100000 in
theorem r_d586 : run Go.Proofs.Ythggbkoccgigaaa.pairDrawn.d586 = true := by kernel_rfl
set_option maxRecDepth 100000 in
theorem r_d590 : run Go.Proofs.Ythggbkoccgigaaa.pairDrawn.d590 = true := by kernel_rfl
set_option maxRecDepth 100000 in
theorem r_d594 : run Go.Proofs.Ythggbkoccgigaaa.pairDrawn.d594 = true := by kernel_rfl
set_option maxRecDepth 100000 in
theorem r_d598 : run Go.Proofs.Ythggbkoccgigaaa.pairDrawn.d598 = true := by kernel_rfl
set_option maxRecDepth 100000 in
theorem r_d602 : run Go.Proofs.Ythggbkoccgigaaa.pairDrawn.d602 = true := by kernel_rfl
set_option maxRecDepth 100000 in
theorem r_d606 : run Go.Proofs.Ythggbkoccgigaaa.pairDrawn.d606 = true := by kernel_rfl
set_option maxRecDepth 100000 in
theorem r_d610 : run Go.Proofs.Ythggbkoccgigaaa.pairDrawn.d610 = true := by kernel_rfl
set_option maxRecDepth 100000 in
theorem r_d614 : run Go.Proofs.Ythggbkoccgigaaa.pairDrawn.d614 = true := by kernel_rfl
set_option maxRecDepth 100000 in
theorem r_d618 : run Go.Proofs.Ythggbkoccgigaaa.pairDrawn.d618 = true := by kernel_rfl
set_option maxRecDepth 100000 in
theorem r_d622 : run Go.Proofs.Ythggbkoccgigaaa.pairDrawn.d622 = true := by kernel_rfl
set_option maxRecDepth 100000 in
theorem r_d626 : run Go.Proofs.Ythggbkoccgigaaa.pairDrawn.d626 = true := by kernel_rfl
set_option maxRecDepth 100000 in
theorem r_d630 : run Go.Proofs.Ythggbkoccgigaaa.pairDrawn.d630 = true := by kernel_rfl
set_option maxRecDepth 100000 in
theorem r_d634 : run Go.Proofs.Ythggbkoccgigaaa.pairDrawn.d634 = true := by kernel_rfl
set_option maxRecDepth 100000 in
theorem r_d638 : run Go.Proofs.Ythggbkoccgigaaa.pairDrawn.d638 = true := by kernel_rfl
set_option maxRecDepth 100000 in
theorem r_d642 : run Go.Proofs.Ythggbkoccgigaaa.pairDrawn.d642 = true := by kernel_rfl
set_option maxRecDepth 100000 in
theorem r_d646 : run Go.Proofs.Ythggbkoccgigaaa.pairDrawn.d646 = true := by kernel_rfl
set_option maxRecDepth 100000 in
theorem r_d650 : run Go.Proofs.Ythggbkoccgigaaa.pairDrawn.d650 = true := by kernel_rfl
set_option maxRecDepth 100000 in
theorem r_d654 : run Go.Proofs.Ythggbkoccgigaaa.pairDrawn.d654 = true := by kernel_rfl
set_option maxRecDepth 100000 in
theorem r_d658 : run Go.Proofs.Ythggbkoccgigaaa.pairDrawn.d658 = true := by kernel_rfl
set_option maxRecDepth 100000 in
theorem r_d662 : run Go.Proofs.Ythggbkoccgigaaa.pairDrawn.d662 = true := by kernel_rfl
set_option maxRecDepth 100000 in
theorem r_d666 : run Go.Proofs.Ythggbkoccgigaaa.pairDrawn.d666 = true := by kernel_rfl
set_option maxRecDepth 100000 in
theorem r_d670 : run Go.Proofs.Ythggbkoccgigaaa.pairDrawn.d670 = true := by kernel_rfl
set_option maxRecDepth 100000 in
theorem r_d674 : run Go.Proofs.Ythggbkoccgigaaa.pairDrawn.d674 = true := by kernel_rfl
set_option maxRecDepth 100000 in
theorem r_d678 : run Go.Proofs.Ythggbkoccgigaaa.pairDrawn.d678 = true := by kernel_rfl
set_option maxRecDepth 100000 in
theorem r_d682 : run Go.Proofs.Ythggbkoccgigaaa.pairDrawn.d682 = true := by kernel_rfl
set_option maxRecDepth 100000 in
theorem r_d686 : run Go.Proofs.Ythggbkoccgigaaa.pairDrawn.d686 = true := by kernel_rfl
set_option maxRecDepth 100000 in
theorem r_d690 : run Go.Proofs.Ythggbkoccgigaaa.pairDrawn.d690 = true := by kernel_rfl
set_option maxRecDepth 100000 in
theorem r_d694 : run Go.Proofs.Ythggbkoccgigaaa.pairDrawn.d694 = true := by kernel_rfl
set_option maxRecDepth 100000 in
theorem r_d698 : run Go.Proofs.Ythggbkoccgigaaa.pairDrawn.d698 = true := by kernel_rfl
set_option maxRecDepth 100000 in
theorem r_d702 : run Go.Proofs.Ythggbkoccgigaaa.pairDrawn.d702 = true := by kernel_rfl
set_option maxRecDepth 100000 in
theorem r_d706 : run Go.Proofs.Ythggbkoccgigaaa.pairDrawn.d706 = true := by kernel_rfl
set_option maxRecDepth 100000 in
theorem r_d710 : run Go.Proofs.Ythggbkoccgigaaa.pairDrawn.d710 = true := by kernel_rfl
set_option maxRecDepth 100000 in
theorem r_d714 : run Go.Proofs.Ythggbkoccgigaaa.pairDrawn.d714 = true := by kernel_rfl
set_option maxRecDepth 100000 in
theorem r_d718 : run Go.Proofs.Ythggbkoccgigaaa.pairDrawn.d718 = true := by kernel_rfl
set_option maxRecDepth 100000 in
theorem r_d722 : run Go.Proofs.Ythggbkoccgigaaa.pairDrawn.d722 = true := by kernel_rfl
set_option maxRecDepth 100000 in
theorem r_d726 : run Go.Proofs.Ythggbkoccgigaaa.pairDrawn.d726 = true := by kernel_rfl
set_option maxRecDepth 100000 in
theorem r_d730 : run Go.Proofs.Ythggbkoccgigaaa.pairDrawn.d730 = true := by kernel_rfl
set_option maxRecDepth 100000 in
theorem r_d734 : run Go.Proofs.Ythggbkoccgigaaa.pairDrawn.d734 = true := by kernel_rfl
set_option maxRecDepth 100000 in
theorem r_d738 : run Go.Proofs.Ythggbkoccgigaaa.pairDrawn.d738 = true := by kernel_rfl
set_option maxRecDepth 100000 in
theorem r_d742 : run Go.Proofs.Ythggbkoccgigaaa.pairDrawn.d742 = true := by kernel_rfl
set_option maxRecDepth 100000 in
theorem r_d746 : run Go.Proofs.Ythggbkoccgigaaa.pairDrawn.d746 = true := by kernel_rfl
set_option maxRecDepth 100000 in
theorem r_d750 : run Go.Proofs.Ythggbkoccgigaaa.pairDrawn.d750 = true := by kernel_rfl
set_option maxRecDepth 100000 in
theorem r_d754 : run Go.Proofs.Ythggbkoccgigaaa.pairDrawn.d754 = true := by kernel_rfl
set_option maxRecDepth 100000 in
theorem r_d758 : run Go.Proofs.Ythggbkoccgigaaa.pairDrawn.d758 = true := by kernel_rfl
set_option maxRecDepth 100000 in
theorem r_d762 : run Go.Proofs.Ythggbkoccgigaaa.pairDrawn.d762 = true := by kernel_rfl
set_option maxRecDepth 100000 in
theorem r_d766 : run Go.Proofs.Ythggbkoccgigaaa.pairDrawn.d766 = true := by kernel_rfl
set_option maxRecDepth 100000 in
theorem r_d770 : run Go.Proofs.Ythggbkoccgigaaa.pairDrawn.d770 = true := by kernel_rfl
set_option maxRecDepth 100000 in
theorem r_d774 : run Go.Proofs.Ythggbkoccgigaaa.pairDrawn.d774 = true := by kernel_rfl
set_option maxRecDepth 100000 in
theorem r_d778 : run Go.Proofs.Ythggbkoccgigaaa.pairDrawn.d778 = true := by kernel_rfl
set_option maxRecDepth 100000 in
theorem r_d782 : run Go.Proofs.Ythggbkoccgigaaa.pairDrawn.d782 = true := by kernel_rfl
set_option maxRecDepth 100000 in
theorem r_d786 : run Go.Proofs.Ythggbkoccgigaaa.pairDrawn.d786 = true := by kernel_rfl
set_option maxRecDepth 100000 in
theorem r_d790 : run Go.Proofs.Ythggbkoccgigaaa.pairDrawn.d790 = true := by kernel_rfl
set_option maxRecDepth 100000 in
theorem r_d794 : run Go.Proofs.Ythggbkoccgigaaa.pairDrawn.d794 = true := by kernel_rfl
set_option maxRecDepth 100000 in
theorem r_d798 : run Go.Proofs.Ythggbkoccgigaaa.pairDrawn.d798 = true := by kernel_rfl
set_option maxRecDepth 100000 in
theorem r_d802 : run Go.Proofs.Ythggbkoccgigaaa.pairDrawn.d802 = true := by kernel_rfl
set_option maxRecDepth 100000 in
theorem r_d806 : run Go.Proofs.Ythggbkoccgigaaa.pairDrawn.d806 = true := by kernel_rfl
set_option maxRecDepth 100000 in
theorem r_d810 : run Go.Proofs.Ythggbkoccgigaaa.pairDrawn.d810 = true := by kernel_rfl
set_option maxRecDepth 100000 in
theorem r_d814 : run Go.Proofs.Ythggbkoccgigaaa.pairDrawn.d814 = true := by kernel_rfl
set_option maxRecDepth 100000 in
theorem r_d818 : run Go.Proofs.Ythggbkoccgigaaa.pairDrawn.d818 = true := by kernel_rfl
set_option maxRecDepth 100000 in
theorem r_d822 : run Go.Proofs.Ythggbkoccgigaaa.pairDrawn.d822 = true := by kernel_rfl
set_option maxRecDepth 100000 in
theorem r_d826 : run Go.Proofs.Ythggbkoccgigaaa.pairDrawn.d826 = true := by kernel_rfl
set_option maxRecDepth 100000 in
theorem r_d830 : run Go.Proofs.Ythggbkoccgigaaa.pairDrawn.d830 = true := by kernel_rfl
set_option maxRecDepth 100000 in
theorem r_d834 : run Go.Proofs.Ythggbkoccgigaaa.pairDrawn.d834 = true := by kernel_rfl
set_option maxRecDepth 100000 in
theorem r_d838 : run Go.Proofs.Ythggbkoccgigaaa.pairDrawn.d838 = true := by kernel_rfl
set_option maxRecDepth 100000 in
theorem r_d842 : run Go.Proofs.Ythggbkoccgigaaa.pairDrawn.d842 = true := by kernel_rfl
set_option maxRecDepth 100000 in
theorem r_d846 : run Go.Proofs.Ythggbkoccgigaaa.pairDrawn.d846 = true := by kernel_rfl
set_option maxRecDepth 100000 in
theorem r_d850 : run Go.Proofs.Ythggbkoccgigaaa.pairDrawn.d850 = true := by kernel_rfl
set_option maxRecDepth 100000 in
theorem r_d854 : run Go.Proofs.Ythggbkoccgigaaa.pairDrawn.d854 = true := by kernel_rfl
set_option maxRecDepth 100000 in
theorem r_d858 : run Go.Proofs.Ythggbkoccgigaaa.pairDrawn.d858 = true := by kernel_rfl
set_option maxRecDepth 100000 in
theorem r_d862 : run Go.Proofs.Ythggbkoccgigaaa.pairDrawn.d862 = true := by kernel_rfl
set_option maxRecDepth 100000 in
theorem r_d866 : run Go.Proofs.Ythggbkoccgigaaa.pairDrawn.d866 = true := by kernel_rfl
set_option maxRecDepth 100000 in
theorem r_d870 : run Go.Proofs.Ythggbkoccgigaaa.pairDrawn.d870 = true := by kernel_rfl
set_option maxRecDepth 100000 in
theorem r_d874 : run Go.Proofs.Ythggbkoccgigaaa.pairDrawn.d874 = true := by kernel_rfl
set_option maxRecDepth 100000 in
theorem r_d878 : run Go.Proofs.Ythggbkoccgigaaa.pairDrawn.d878 = true := by kernel_rfl
set_option maxRecDepth 100000 in
theorem r_d882 : run Go.Proofs.Ythggbkoccgigaaa.pairDrawn.d882 = true := by kernel_rfl
set_option maxRecDepth 100000 in
theorem r_d886 : run Go.Proofs.Ythggbkoccgigaaa.pairDrawn.d886 = true := by kernel_rfl
set_option maxRecDepth 100000 in
theorem r_d890 : run Go.Proofs.Ythggbkoccgigaaa.pairDrawn.d890 = true := by kernel_rfl
set_option maxRecDepth 100000 in
theorem r_d894 : run Go.Proofs.Ythggbkoccgigaaa.pairDrawn.d894 = true := by kernel_rfl
set_option maxRecDepth 100000 in
theorem r_d898 : run Go.Proofs.Ythggbkoccgigaaa.pairDrawn.d898 = true := by kernel_rfl
set_option maxRecDepth 100000 in
theorem r_d902 : run Go.Proofs.Ythggbkoccgigaaa.pairDrawn.d902 = true := by kernel_rfl
set_option maxRecDepth 100000 in
theorem r_d906 : run Go.Proofs.Ythggbkoccgigaaa.pairDrawn.d906 = true := by kernel_rfl
set_option maxRecDepth 100000 in
theorem r_d910 : run Go.Proofs.Ythggbkoccgigaaa.pairDrawn.d910 = true := by kernel_rfl
set_option maxRecDepth 100000 in
theorem r_d914 : run Go.Proofs.Ythggbkoccgigaaa.pairDrawn.d914 = true := by kernel_rfl
set_option maxRecDepth 100000 in
theorem r_d918 : run Go.Proofs.Ythggbkoccgigaaa.pairDrawn.d918 = true := by kernel_rfl
set_option maxRecDepth 100000 in
theorem r_d922 : run Go.Proofs.Ythggbkoccgigaaa.pairDrawn.d922 = true := by kernel_rfl
set_option maxRecDepth 100000 in
theorem r_d926 : run Go.Proofs.Ythggbkoccgigaaa.pairDrawn.d926 = true := by kernel_rfl
set_option maxRecDepth 100000 in
theorem r_d930 : run Go.Proofs.Ythggbkoccgigaaa.pairDrawn.d930 = true := by kernel_rfl
set_option maxRecDepth 100000 in
theorem r_d934 : run Go.Proofs.Ythggbkoccgigaaa.pairDrawn.d934 = true := by kernel_rfl
set_option maxRecDepth 100000 in
theorem r_d938 : run Go.Proofs.Ythggbkoccgigaaa.pairDrawn.d938 = true := by kernel_rfl
set_option maxRecDepth 100000 in
theorem r_d942 : run Go.Proofs.Ythggbkoccgigaaa.pairDrawn.d942 = true := by kernel_rfl
set_option maxRecDepth 100000 in
theorem r_d946 : run Go.Proofs.Ythggbkoccgigaaa.pairDrawn.d946 = true := by kernel_rfl
set_option maxRecDepth 100000 in
theorem r_d950 : run Go.Proofs.Ythggbkoccgigaaa.pairDrawn.d950 = true := by kernel_rfl
set_option maxRecDepth 100000 in
theorem r_d954 : run Go.Proofs.Ythggbkoccgigaaa.pairDrawn.d954 = true := by kernel_rfl
set_option maxRecDepth 100000 in
theorem r_d958 : run Go.Proofs.Ythggbkoccgigaaa.pairDrawn.d958 = true := by kernel_rfl
end Go.Proofs.Ythggbkoccgigaaa.fnTableFullRuns
