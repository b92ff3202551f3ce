/- Runs of the program at a seat. -/
import Derived.Test.YthggbkoccgigaaaFnTableFullP
namespace Go.Proofs.Ythggbkoccgigaaa.fnTableFullRuns
open Go Go.Eng
set_option linter.unusedVariables false
set_option linter.unusedSectionVars false
set_option linter.unusedSimpArgs false
set_option maxRecDepth 100000 in
theorem r_d0 : run Go.Proofs.Ythggbkoccgigaaa.pairDrawn.d0 = true := by kernel_rfl
set_option maxRecDepth 100000 in
theorem r_d4 : run Go.Proofs.Ythggbkoccgigaaa.pairDrawn.d4 = true := by kernel_rfl
set_option maxRecDepth 100000 in
theorem r_d8 : run Go.Proofs.Ythggbkoccgigaaa.pairDrawn.d8 = true := by kernel_rfl
set_option maxRecDepth 100000 in
theorem r_d12 : run Go.Proofs.Ythggbkoccgigaaa.pairDrawn.d12 = true := by kernel_rfl
set_option maxRecDepth 100000 in
theorem r_d16 : run Go.Proofs.Ythggbkoccgigaaa.pairDrawn.d16 = true := by kernel_rfl
set_option maxRecDepth 100000 in
theorem r_d20 : run Go.Proofs.Ythggbkoccgigaaa.pairDrawn.d20 = true := by kernel_rfl
set_option maxRecDepth 100000 in
theorem r_d24 : run Go.Proofs.Ythggbkoccgigaaa.pairDrawn.d24 = true := by kernel_rfl
set_option maxRecDepth 100000 in
theorem r_d28 : run Go.Proofs.Ythggbkoccgigaaa.pairDrawn.d28 = true := by kernel_rfl
set_option maxRecDepth 100000 in
theorem r_d32 : run Go.Proofs.Ythggbkoccgigaaa.pairDrawn.d32 = true := by kernel_rfl
set_option maxRecDepth 100000 in
theorem r_d36 : run Go.Proofs.Ythggbkoccgigaaa.pairDrawn.d36 = true := by kernel_rfl
set_option maxRecDepth 100000 in
theorem r_d40 : run Go.Proofs.Ythggbkoccgigaaa.pairDrawn.d40 = true := by kernel_rfl
set_option maxRecDepth 100000 in
theorem r_d44 : run Go.Proofs.Ythggbkoccgigaaa.pairDrawn.d44 = true := by kernel_rfl
set_option maxRecDepth 100000 in
theorem r_d48 : run Go.Proofs.Ythggbkoccgigaaa.pairDrawn.d48 = true := by kernel_rfl
set_option maxRecDepth 100000 in
theorem r_d52 : run Go.Proofs.Ythggbkoccgigaaa.pairDrawn.d52 = true := by kernel_rfl
set_option maxRecDepth 100000 in
theorem r_d56 : run Go.Proofs.Ythggbkoccgigaaa.pairDrawn.d56 = true := by kernel_rfl
set_option maxRecDepth 100000 in
theorem r_d60 : run Go.Proofs.Ythggbkoccgigaaa.pairDrawn.d60 = true := by kernel_rfl
set_option maxRecDepth 100000 in
theorem r_d64 : run Go.Proofs.Ythggbkoccgigaaa.pairDrawn.d64 = true := by kernel_rfl
set_option maxRecDepth 100000 in
theorem r_d68 : run Go.Proofs.Ythggbkoccgigaaa.pairDrawn.d68 = true := by kernel_rfl
set_option maxRecDepth 100000 in
theorem r_d72 : run Go.Proofs.Ythggbkoccgigaaa.pairDrawn.d72 = true := by kernel_rfl
set_option maxRecDepth 100000 in
theorem r_d76 : run Go.Proofs.Ythggbkoccgigaaa.pairDrawn.d76 = true := by kernel_rfl
set_option maxRecDepth 100000 in
theorem r_d80 : run Go.Proofs.Ythggbkoccgigaaa.pairDrawn.d80 = true := by kernel_rfl
set_option maxRecDepth 100000 in
theorem r_d84 : run Go.Proofs.Ythggbkoccgigaaa.pairDrawn.d84 = true := by kernel_rfl
set_option maxRecDepth 100000 in
theorem r_d88 : run Go.Proofs.Ythggbkoccgigaaa.pairDrawn.d88 = true := by kernel_rfl
set_option maxRecDepth 100000 in
theorem r_d92 : run Go.Proofs.Ythggbkoccgigaaa.pairDrawn.d92 = true := by kernel_rfl
set_option maxRecDepth 100000 in
theorem r_d96 : run Go.Proofs.Ythggbkoccgigaaa.pairDrawn.d96 = true := by kernel_rfl
set_option maxRecDepth 100000 in
theorem r_d100 : run Go.Proofs.Ythggbkoccgigaaa.pairDrawn.d100 = true := by kernel_rfl
set_option maxRecDepth 100000 in
theorem r_d104 : run Go.Proofs.Ythggbkoccgigaaa.pairDrawn.d104 = true := by kernel_rfl
set_option maxRecDepth 100000 in
theorem r_d108 : run Go.Proofs.Ythggbkoccgigaaa.pairDrawn.d108 = true := by kernel_rfl
set_option maxRecDepth 100000 in
theorem r_d112 : run Go.Proofs.Ythggbkoccgigaaa.pairDrawn.d112 = true := by kernel_rfl
set_option maxRecDepth 100000 in
theorem r_d116 : run Go.Proofs.Ythggbkoccgigaaa.pairDrawn.d116 = true := by kernel_rfl
set_option maxRecDepth 100000 in
theorem r_d120 : run Go.Proofs.Ythggbkoccgigaaa.pairDrawn.d120 = true := by kernel_rfl
set_option maxRecDepth 100000 in
theorem r_d124 : run Go.Proofs.Ythggbkoccgigaaa.pairDrawn.d124 = true := by kernel_rfl
set_option maxRecDepth 100000 in
theorem r_d128 : run Go.Proofs.Ythggbkoccgigaaa.pairDrawn.d128 = true := by kernel_rfl
set_option maxRecDepth 100000 in
theorem r_d132 : run Go.Proofs.Ythggbkoccgigaaa.pairDrawn.d132 = true := by kernel_rfl
set_option maxRecDepth 100000 in
theorem r_d136 : run Go.Proofs.Ythggbkoccgigaaa.pairDrawn.d136 = true := by kernel_rfl
set_option maxRecDepth 100000 in
theorem r_d140 : run Go.Proofs.Ythggbkoccgigaaa.pairDrawn.d140 = true := by kernel_rfl
set_option maxRecDepth 100000 in
theorem r_d144 : run Go.Proofs.Ythggbkoccgigaaa.pairDrawn.d144 = true := by kernel_rfl
set_option maxRecDepth 100000 in
theorem r_d148 : run Go.Proofs.Ythggbkoccgigaaa.pairDrawn.d148 = true := by kernel_rfl
set_option maxRecDepth 100000 in
theorem r_d152 : run Go.Proofs.Ythggbkoccgigaaa.pairDrawn.d152 = true := by kernel_rfl
set_option maxRecDepth 100000 in
theorem r_d156 : run Go.Proofs.Ythggbkoccgigaaa.pairDrawn.d156 = true := by kernel_rfl
set_option maxRecDepth 100000 in
theorem r_d160 : run Go.Proofs.Ythggbkoccgigaaa.pairDrawn.d160 = true := by kernel_rfl
set_option maxRecDepth 100000 in
theorem r_d164 : run Go.Proofs.Ythggbkoccgigaaa.pairDrawn.d164 = true := by kernel_rfl
set_option maxRecDepth 100000 in
theorem r_d168 : run Go.Proofs.Ythggbkoccgigaaa.pairDrawn.d168 = true := by kernel_rfl
set_option maxRecDepth 100000 in
theorem r_d172 : run Go.Proofs.Ythggbkoccgigaaa.pairDrawn.d172 = true := by kernel_rfl
set_option maxRecDepth 100000 in
theorem r_d176 : run Go.Proofs.Ythggbkoccgigaaa.pairDrawn.d176 = true := by kernel_rfl
set_option maxRecDepth 100000 in
theorem r_d180 : run Go.Proofs.Ythggbkoccgigaaa.pairDrawn.d180 = true := by kernel_rfl
set_option maxRecDepth 100000 in
theorem r_d184 : run Go.Proofs.Ythggbkoccgigaaa.pairDrawn.d184 = true := by kernel_rfl
set_option maxRecDepth 100000 in
theorem r_d188 : run Go.Proofs.Ythggbkoccgigaaa.pairDrawn.d188 = true := by kernel_rfl
set_option maxRecDepth 100000 in
theorem r_d192 : run Go.Proofs.Ythggbkoccgigaaa.pairDrawn.d192 = true := by kernel_rfl
set_option maxRecDepth 100000 in
theorem r_d196 : run Go.Proofs.Ythggbkoccgigaaa.pairDrawn.d196 = true := by kernel_rfl
set_option maxRecDepth 100000 in
theorem r_d200 : run Go.Proofs.Ythggbkoccgigaaa.pairDrawn.d200 = true := by kernel_rfl
set_option maxRecDepth 100000 in
theorem r_d204 : run Go.Proofs.Ythggbkoccgigaaa.pairDrawn.d204 = true := by kernel_rfl
set_option maxRecDepth 100000 in
theorem r_d208 : run Go.Proofs.Ythggbkoccgigaaa.pairDrawn.d208 = true := by kernel_rfl
set_option maxRecDepth 100000 in
theorem r_d212 : run Go.Proofs.Ythggbkoccgigaaa.pairDrawn.d212 = true := by kernel_rfl
set_option maxRecDepth 100000 in
theorem r_d216 : run Go.Proofs.Ythggbkoccgigaaa.pairDrawn.d216 = true := by kernel_rfl
set_option maxRecDepth 100000 in
theorem r_d220 : run Go.Proofs.Ythggbkoccgigaaa.pairDrawn.d220 = true := by kernel_rfl
set_option maxRecDepth 100000 in
theorem r_d224 : run Go.Proofs.Ythggbkoccgigaaa.pairDrawn.d224 = true := by kernel_rfl
set_option maxRecDepth 100000 in
theorem r_d228 : run Go.Proofs.Ythggbkoccgigaaa.pairDrawn.d228 = true := by kernel_rfl
set_option maxRecDepth 100000 in
theorem r_d232 : run Go.Proofs.Ythggbkoccgigaaa.pairDrawn.d232 = true := by kernel_rfl
set_option maxRecDepth 100000 in
theorem r_d236 : run Go.Proofs.Ythggbkoccgigaaa.pairDrawn.d236 = true := by kernel_rfl
set_option maxRecDepth 100000 in
theorem r_d240 : run Go.Proofs.Ythggbkoccgigaaa.pairDrawn.d240 = true := by kernel_rfl
set_option maxRecDepth 100000 in
theorem r_d244 : run Go.Proofs.Ythggbkoccgigaaa.pairDrawn.d244 = true := by kernel_rfl
set_option maxRecDepth 100000 in
theorem r_d248 : run Go.Proofs.Ythggbkoccgigaaa.pairDrawn.d248 = true := by kernel_rfl
set_option maxRecDepth 100000 in
theorem r_d252 : run Go.Proofs.Ythggbkoccgigaaa.pairDrawn.d252 = true := by kernel_rfl
set_option maxRecDepth 100000 in
theorem r_d256 : run Go.Proofs.Ythggbkoccgigaaa.pairDrawn.d256 = true := by kernel_rfl
set_option maxRecDepth 100000 in
theorem r_d260 : run Go.Proofs.Ythggbkoccgigaaa.pairDrawn.d260 = true := by kernel_rfl
set_option maxRecDepth 100000 in
theorem r_d264 : run Go.Proofs.Ythggbkoccgigaaa.pairDrawn.d264 = true := by kernel_rfl
set_option maxRecDepth 100000 in
theorem r_d268 : run Go.Proofs.Ythggbkoccgigaaa.pairDrawn.d268 = true := by kernel_rfl
set_option maxRecDepth 100000 in
theorem r_d272 : run Go.Proofs.Ythggbkoccgigaaa.pairDrawn.d272 = true := by kernel_rfl
set_option maxRecDepth 100000 in
theorem r_d276 : run Go.Proofs.Ythggbkoccgigaaa.pairDrawn.d276 = true := by kernel_rfl
set_option maxRecDepth 100000 in
theorem r_d280 : run Go.Proofs.Ythggbkoccgigaaa.pairDrawn.d280 = true := by kernel_rfl
set_option maxRecDepth 100000 in
theorem r_d284 : run Go.Proofs.Ythggbkoccgigaaa.pairDrawn.d284 = true := by kernel_rfl
set_option maxRecDepth 100000 in
theorem r_d288 : run Go.Proofs.Ythggbkoccgigaaa.pairDrawn.d288 = true := by kernel_rfl
set_option maxRecDepth 100000 in
theorem r_d292 : run Go.Proofs.Ythggbkoccgigaaa.pairDrawn.d292 = true := by kernel_rfl
set_option maxRecDepth 100000 in
theorem r_d296 : run Go.Proofs.Ythggbkoccgigaaa.pairDrawn.d296 = true := by kernel_rfl
set_option maxRecDepth 100000 in
theorem r_d300 : run Go.Proofs.Ythggbkoccgigaaa.pairDrawn.d300 = true := by kernel_rfl
set_option maxRecDepth 100000 in
theorem r_d304 : run Go.Proofs.Ythggbkoccgigaaa.pairDrawn.d304 = true := by kernel_rfl
set_option maxRecDepth 100000 in
theorem r_d308 : run Go.Proofs.Ythggbkoccgigaaa.pairDrawn.d308 = true := by kernel_rfl
set_option maxRecDepth 100000 in
theorem r_d312 : run Go.Proofs.Ythggbkoccgigaaa.pairDrawn.d312 = true := by kernel_rfl
set_option maxRecDepth 100000 in
theorem r_d316 : run Go.Proofs.Ythggbkoccgigaaa.pairDrawn.d316 = true := by kernel_rfl
set_option maxRecDepth 100000 in
theorem r_d320 : run Go.Proofs.Ythggbkoccgigaaa.pairDrawn.d320 = true := by kernel_rfl
set_option maxRecDepth 100000 in
theorem r_d324 : run Go.Proofs.Ythggbkoccgigaaa.pairDrawn.d324 = true := by kernel_rfl
set_option maxRecDepth 100000 in
theorem r_d328 : run Go.Proofs.Ythggbkoccgigaaa.pairDrawn.d328 = true := by kernel_rfl
set_option maxRecDepth 100000 in
theorem r_d332 : run Go.Proofs.Ythggbkoccgigaaa.pairDrawn.d332 = true := by kernel_rfl
set_option maxRecDepth 100000 in
theorem r_d336 : run Go.Proofs.Ythggbkoccgigaaa.pairDrawn.d336 = true := by kernel_rfl
set_option maxRecDepth 100000 in
theorem r_d340 : run Go.Proofs.Ythggbkoccgigaaa.pairDrawn.d340 = true := by kernel_rfl
set_option maxRecDepth 100000 in
theorem r_d344 : run Go.Proofs.Ythggbkoccgigaaa.pairDrawn.d344 = true := by kernel_rfl
set_option maxRecDepth 100000 in
theorem r_d348 : run Go.Proofs.Ythggbkoccgigaaa.pairDrawn.d348 = true := by kernel_rfl
set_option maxRecDepth 100000 in
theorem r_d352 : run Go.Proofs.Ythggbkoccgigaaa.pairDrawn.d352 = true := by kernel_rfl
set_option maxRecDepth 100000 in
theorem r_d356 : run Go.Proofs.Ythggbkoccgigaaa.pairDrawn.d356 = true := by kernel_rfl
set_option maxRecDepth 100000 in
theorem r_d360 : run Go.Proofs.Ythggbkoccgigaaa.pairDrawn.d360 = true := by kernel_rfl
set_option maxRecDepth 100000 in
theorem r_d364 : run Go.Proofs.Ythggbkoccgigaaa.pairDrawn.d364 = true := by kernel_rfl
set_option maxRecDepth 100000 in
theorem r_d368 : run Go.Proofs.Ythggbkoccgigaaa.pairDrawn.d368 = true := by kernel_rfl
set_option maxRecDepth 100000 in
theorem r_d372 : run Go.Proofs.Ythggbkoccgigaaa.pairDrawn.d372 = true := by kernel_rfl
set_option maxRecDepth 100000 in
theorem r_d376 : run Go.Proofs.Ythggbkoccgigaaa.pairDrawn.d376 = true := by kernel_rfl
set_option maxRecDepth 100000 in
theorem r_d380 : run Go.Proofs.Ythggbkoccgigaaa.pairDrawn.d380 = true := by kernel_rfl
set_option maxRecDepth 100000 in
theorem r_d384 : run Go.Proofs.Ythggbkoccgigaaa.pairDrawn.d384 = true := by kernel_rfl
set_option maxRecDepth 100000 in
theorem r_d388 : run Go.Proofs.Ythggbkoccgigaaa.pairDrawn.d388 = true := by kernel_rfl
set_option maxRecDepth 100000 in
theorem r_d392 : run Go.Proofs.Ythggbkoccgigaaa.pairDrawn.d392 = true := by kernel_rfl
set_option maxRecDepth 100000 in
theorem r_d396 : run Go.Proofs.Ythggbkoccgigaaa.pairDrawn.d396 = true := by kernel_rfl
set_option maxRecDepth 100000 in
theorem r_d400 : run Go.Proofs.Ythggbkoccgigaaa.pairDrawn.d400 = true := by kernel_rfl
set_option maxRecDepth 100000 in
theorem r_d404 : run Go.Proofs.Ythggbkoccgigaaa.pairDrawn.d404 = true := by kernel_rfl
set_option maxRecDepth 100000 in
theorem r_d408 : run Go.Proofs.Ythggbkoccgigaaa.pairDrawn.d408 = true := by kernel_rfl
set_option maxRecDepth 100000 in
theorem r_d412 : run Go.Proofs.Ythggbkoccgigaaa.pairDrawn.d412 = true := by kernel_rfl
set_option maxRecDepth 100000 in
theorem r_d416 : run Go.Proofs.Ythggbkoccgigaaa.pairDrawn.d416 = true := by kernel_rfl
set_option maxRecDepth 100000 in
theorem r_d420 : run Go.Proofs.Ythggbkoccgigaaa.pairDrawn.d420 = true := by kernel_rfl
set_option maxRecDepth 100000 in
theorem r_d424 : run Go.Proofs.Ythggbkoccgigaaa.pairDrawn.d424 = true := by kernel_rfl
set_option maxRecDepth 100000 in
theorem r_d428 : run Go.Proofs.Ythggbkoccgigaaa.pairDrawn.d428 = true := by kernel_rfl
set_option maxRecDepth 100000 in
theorem r_d432 : run Go.Proofs.Ythggbkoccgigaaa.pairDrawn.d432 = true := by kernel_rfl
set_option maxRecDepth 100000 in
theorem r_d436 : run Go.Proofs.Ythggbkoccgigaaa.pairDrawn.d436 = true := by kernel_rfl
set_option maxRecDepth 100000 in
theorem r_d440 : run Go.Proofs.Ythggbkoccgigaaa.pairDrawn.d440 = true := by kernel_rfl
set_option maxRecDepth 100000 in
theorem r_d444 : run Go.Proofs.Ythggbkoccgigaaa.pairDrawn.d444 = true := by kernel_rfl
set_option maxRecDepth 100000 in
theorem r_d448 : run Go.Proofs.Ythggbkoccgigaaa.pairDrawn.d448 = true := by kernel_rfl
set_option maxRecDepth 100000 in
theorem r_d452 : run Go.Proofs.Ythggbkoccgigaaa.pairDrawn.d452 = true := by kernel_rfl
set_option maxRecDepth 100000 in
theorem r_d456 : run Go.Proofs.Ythggbkoccgigaaa.pairDrawn.d456 = true := by kernel_rfl
set_option maxRecDepth 100000 in
theorem r_d460 : run Go.Proofs.Ythggbkoccgigaaa.pairDrawn.d460 = true := by kernel_rfl
set_option maxRecDepth 100000 in
theorem r_d464 : run Go.Proofs.Ythggbkoccgigaaa.pairDrawn.d464 = true := by kernel_rfl
set_option maxRecDepth 100000 in
theorem r_d468 : run Go.Proofs.Ythggbkoccgigaaa.pairDrawn.d468 = true := by kernel_rfl
set_option maxRecDepth 100000 in
theorem r_d472 : run Go.Proofs.Ythggbkoccgigaaa.pairDrawn.d472 = true := by kernel_rfl
set_option maxRecDepth 100000 in
theorem r_d476 : run Go.Proofs.Ythggbkoccgigaaa.pairDrawn.d476 = true := by kernel_rfl
set_option maxRecDepth 100000 in
theorem r_d480 : run Go.Proofs.Ythggbkoccgigaaa.pairDrawn.d480 = true := by kernel_rfl
set_option maxRecDepth 100000 in
theorem r_d484 : run Go.Proofs.Ythggbkoccgigaaa.pairDrawn.d484 = true := by kernel_rfl
set_option maxRecDepth 100000 in
theorem r_d488 : run Go.Proofs.Ythggbkoccgigaaa.pairDrawn.d488 = true := by kernel_rfl
set_option maxRecDepth 100000 in
theorem r_d492 : run Go.Proofs.Ythggbkoccgigaaa.pairDrawn.d492 = true := by kernel_rfl
set_option maxRecDepth 100000 in
theorem r_d496 : run Go.Proofs.Ythggbkoccgigaaa.pairDrawn.d496 = true := by kernel_rfl
set_option maxRecDepth 100000 in
theorem r_d500 : run Go.Proofs.Ythggbkoccgigaaa.pairDrawn.d500 = true := by kernel_rfl
set_option maxRecDepth 100000 in
theorem r_d504 : run Go.Proofs.Ythggbkoccgigaaa.pairDrawn.d504 = true := by kernel_rfl
set_option maxRecDepth 100000 in
theorem r_d508 : run Go.Proofs.Ythggbkoccgigaaa.pairDrawn.d508 = true := by kernel_rfl
set_option maxRecDepth 100000 in
theorem r_d512 : run Go.Proofs.Ythggbkoccgigaaa.pairDrawn.d512 = true := by kernel_rfl
set_option maxRecDepth 100000 in
theorem r_d516 : run Go.Proofs.Ythggbkoccgigaaa.pairDrawn.d516 = true := by kernel_rfl
set_option maxRecDepth 100000 in
theorem r_d520 : run Go.Proofs.Ythggbkoccgigaaa.pairDrawn.d520 = true := by kernel_rfl
set_option maxRecDepth 100000 in
theorem r_d524 : run Go.Proofs.Ythggbkoccgigaaa.pairDrawn.d524 = true := by kernel_rfl
set_option maxRecDepth 100000 in
theorem r_d528 : run Go.Proofs.Ythggbkoccgigaaa.pairDrawn.d528 = true := by kernel_rfl
set_option maxRecDepth 100000 in
theorem r_d532 : run Go.Proofs.Ythggbkoccgigaaa.pairDrawn.d532 = true := by kernel_rfl
set_option maxRecDepth 100000 in
theorem r_d536 : run Go.Proofs.Ythggbkoccgigaaa.pairDrawn.d536 = true := by kernel_rfl
set_option maxRecDepth 100000 in
theorem r_d540 : run Go.Proofs.Ythggbkoccgigaaa.pairDrawn.d540 = true := by kernel_rfl
set_option maxRecDepth 100000 in
theorem r_d544 : run Go.Proofs.Ythggbkoccgigaaa.pairDrawn.d544 = true := by kernel_rfl
set_option maxRecDepth 100000 in
theorem r_d548 : run Go.Proofs.Ythggbkoccgigaaa.pairDrawn.d548 = true := by kernel_rfl
set_option maxRecDepth 100000 in
theorem r_d552 : run Go.Proofs.Ythggbkoccgigaaa.pairDrawn.d552 = true := by kernel_rfl
set_option maxRecDepth 100000 in
theorem r_d556 : run Go.Proofs.Ythggbkoccgigaaa.pairDrawn.d556 = true := by kernel_rfl
set_option maxRecDepth 100000 in
theorem r_d560 : run Go.Proofs.Ythggbkoccgigaaa.pairDrawn.d560 = true := by kernel_rfl
set_option maxRecDepth 100000 in
theorem r_d564 : run Go.Proofs.Ythggbkoccgigaaa.pairDrawn.d564 = true := by kernel_rfl
set_option maxRecDepth 100000 in
theorem r_d568 : run Go.Proofs.Ythggbkoccgigaaa.pairDrawn.d568 = true := by kernel_rfl
set_option maxRecDepth 100000 in
theorem r_d572 : run Go.Proofs.Ythggbkoccgigaaa.pairDrawn.d572 = true := by kernel_rfl
set_option maxRecDepth 100000 in
theorem r_d576 : run Go.Proofs.Ythggbkoccgigaaa.pairDrawn.d576 = true := by kernel_rfl
set_option maxRecDepth 100000 in
theorem r_d580 : run Go.Proofs.Ythggbkoccgigaaa.pairDrawn.d580 = true := by kernel_rfl
set_option maxRecDepth 100000 in
theorem r_d584 : run Go.Proofs.Ythggbkoccgigaaa.pairDrawn.d584 = true := by kernel_rfl
set_option maxRecDepth 100000 in
theorem r_d588 : run Go.Proofs.Ythggbkoccgigaaa.pairDrawn.d588 = true := by kernel_rfl
set_option maxRecDepth 100000 in
theorem r_d592 : run Go.Proofs.Ythggbkoccgigaaa.pairDrawn.d592 = true := by kernel_rfl
set_option maxRecDepth 100000 in
theorem r_d596 : run Go.Proofs.Ythggbkoccgigaaa.pairDrawn.d596 = true := by kernel_rfl
set_option maxRecDepth 100000 in
theorem r_d600 : run Go.Proofs.Ythggbkoccgigaaa.pairDrawn.d600 = true := by kernel_rfl
set_option maxRecDepth 100000 in
theorem r_d604 : run Go.Proofs.Ythggbkoccgigaaa.pairDrawn.d604 = true := by kernel_rfl
set_option maxRecDepth 100000 in
theorem r_d608 : run Go.Proofs.Ythggbkoccgigaaa.pairDrawn.d608 = true := by kernel_rfl
set_option maxRecDepth 100000 in
theorem r_d612 : run Go.Proofs.Ythggbkoccgigaaa.pairDrawn.d612 = true := by kernel_rfl
set_option maxRecDepth 100000 in
theorem r_d616 : run Go.Proofs.Ythggbkoccgigaaa.pairDrawn.d616 = true := by kernel_rfl
set_option maxRecDepth 100000 in
theorem r_d620 : run Go.Proofs.Ythggbkoccgigaaa.pairDrawn.d620 = true := by kernel_rfl
set_option maxRecDepth 100000 in
theorem r_d624 : run Go.Proofs.Ythggbkoccgigaaa.pairDrawn.d624 = true := by kernel_rfl
set_option maxRecDepth 100000 in
theorem r_d628 : run Go.Proofs.Ythggbkoccgigaaa.pairDrawn.d628 = true := by kernel_rfl
set_option maxRecDepth 100000 in
theorem r_d632 : run Go.Proofs.Ythggbkoccgigaaa.pairDrawn.d632 = true := by kernel_rfl
set_option maxRecDepth 100000 in
theorem r_d636 : run Go.Proofs.Ythggbkoccgigaaa.pairDrawn.d636 = true := by kernel_rfl
set_option maxRecDepth 100000 in
theorem r_d640 : run Go.Proofs.Ythggbkoccgigaaa.pairDrawn.d640 = true := by kernel_rfl
set_option maxRecDepth 100000 in
theorem r_d644 : run Go.Proofs.Ythggbkoccgigaaa.pairDrawn.d644 = true := by kernel_rfl
set_option maxRecDepth 100000 in
theorem r_d648 : run Go.Proofs.Ythggbkoccgigaaa.pairDrawn.d648 = true := by kernel_rfl
set_option maxRecDepth 100000 in
theorem r_d652 : run Go.Proofs.Ythggbkoccgigaaa.pairDrawn.d652 = true := by kernel_rfl
set_option maxRecDepth 100000 in
theorem r_d656 : run Go.Proofs.Ythggbkoccgigaaa.pairDrawn.d656 = true := by kernel_rfl
set_option maxRecDepth 100000 in
theorem r_d660 : run Go.Proofs.Ythggbkoccgigaaa.pairDrawn.d660 = true := by kernel_rfl
set_option maxRecDepth 100000 in
theorem r_d664 : run Go.Proofs.Ythggbkoccgigaaa.pairDrawn.d664 = true := by kernel_rfl
set_option maxRecDepth 100000 in
theorem r_d668 : run Go.Proofs.Ythggbkoccgigaaa.pairDrawn.d668 = true := by kernel_rfl
set_option maxRecDepth 100000 in
theorem r_d672 : run Go.Proofs.Ythggbkoccgigaaa.pairDrawn.d672 = true := by kernel_rfl
set_option maxRecDepth 100000 in
theorem r_d676 : run Go.Proofs.Ythggbkoccgigaaa.pairDrawn.d676 = true := by kernel_rfl
set_option maxRecDepth 100000 in
theorem r_d680 : run Go.Proofs.Ythggbkoccgigaaa.pairDrawn.d680 = true := by kernel_rfl
set_option maxRecDepth 100000 in
theorem r_d684 : run Go.Proofs.Ythggbkoccgigaaa.pairDrawn.d684 = true := by kernel_rfl
set_option maxRecDepth 100000 in
theorem r_d688 : run Go.Proofs.Ythggbkoccgigaaa.pairDrawn.d688 = true := by kernel_rfl
set_option maxRecDepth 100000 in
theorem r_d692 : run Go.Proofs.Ythggbkoccgigaaa.pairDrawn.d692 = true := by kernel_rfl
set_option maxRecDepth 100000 in
theorem r_d696 : run Go.Proofs.Ythggbkoccgigaaa.pairDrawn.d696 = true := by kernel_rfl
set_option maxRecDepth 100000 in
theorem r_d700 : run Go.Proofs.Ythggbkoccgigaaa.pairDrawn.d700 = true := by kernel_rfl
set_option maxRecDepth 100000 in
theorem r_d704 : run Go.Proofs.Ythggbkoccgigaaa.pairDrawn.d704 = true := by kernel_rfl
set_option maxRecDepth 100000 in
theorem r_d708 : run Go.Proofs.Ythggbkoccgigaaa.pairDrawn.d708 = true := by kernel_rfl
set_option maxRecDepth 100000 in
theorem r_d712 : run Go.Proofs.Ythggbkoccgigaaa.pairDrawn.d712 = true := by kernel_rfl
set_option maxRecDepth 100000 in
theorem r_d716 : run Go.Proofs.Ythggbkoccgigaaa.pairDrawn.d716 = true := by kernel_rfl
set_option maxRecDepth 100000 in
theorem r_d720 : run Go.Proofs.Ythggbkoccgigaaa.pairDrawn.d720 = true := by kernel_rfl
set_option maxRecDepth 100000 in
theorem r_d724 : run Go.Proofs.Ythggbkoccgigaaa.pairDrawn.d724 = true := by kernel_rfl
set_option maxRecDepth 100000 in
theorem r_d728 : run Go.Proofs.Ythggbkoccgigaaa.pairDrawn.d728 = true := by kernel_rfl
set_option maxRecDepth 100000 in
theorem r_d732 : run Go.Proofs.Ythggbkoccgigaaa.pairDrawn.d732 = true := by kernel_rfl
set_option maxRecDepth 100000 in
theorem r_d736 : run Go.Proofs.Ythggbkoccgigaaa.pairDrawn.d736 = true := by kernel_rfl
set_option maxRecDepth 100000 in
theorem r_d740 : run Go.Proofs.Ythggbkoccgigaaa.pairDrawn.d740 = true := by kernel_rfl
set_option maxRecDepth 100000 in
theorem r_d744 : run Go.Proofs.Ythggbkoccgigaaa.pairDrawn.d744 = true := by kernel_rfl
set_option maxRecDepth 100000 in
theorem r_d748 : run Go.Proofs.Ythggbkoccgigaaa.pairDrawn.d748 = true := by kernel_rfl
set_option maxRecDepth 100000 in
theorem r_d752 : run Go.Proofs.Ythggbkoccgigaaa.pairDrawn.d752 = true := by kernel_rfl
set_option maxRecDepth 100000 in
theorem r_d756 : run Go.Proofs.Ythggbkoccgigaaa.pairDrawn.d756 = true := by kernel_rfl
set_option maxRecDepth 100000 in
theorem r_d760 : run Go.Proofs.Ythggbkoccgigaaa.pairDrawn.d760 = true := by kernel_rfl
set_option maxRecDepth 100000 in
theorem r_d764 : run Go.Proofs.Ythggbkoccgigaaa.pairDrawn.d764 = true := by kernel_rfl
set_option maxRecDepth 100000 in
theorem r_d768 : run Go.Proofs.Ythggbkoccgigaaa.pairDrawn.d768 = true := by kernel_rfl
set_option maxRecDepth 100000 in
theorem r_d772 : run Go.Proofs.Ythggbkoccgigaaa.pairDrawn.d772 = true := by kernel_rfl
set_option maxRecDepth 100000 in
theorem r_d776 : run Go.Proofs.Ythggbkoccgigaaa.pairDrawn.d776 = true := by kernel_rfl
set_option maxRecDepth 100000 in
theorem r_d780 : run Go.Proofs.Ythggbkoccgigaaa.pairDrawn.d780 = true := by kernel_rfl
set_option maxRecDepth 100000 in
theorem r_d784 : run Go.Proofs.Ythggbkoccgigaaa.pairDrawn.d784 = true := by kernel_rfl
set_option maxRecDepth 100000 in
theorem r_d788 : run Go.Proofs.Ythggbkoccgigaaa.pairDrawn.d788 = true := by kernel_rfl
set_option maxRecDepth 100000 in
theorem r_d792 : run Go.Proofs.Ythggbkoccgigaaa.pairDrawn.d792 = true := by kernel_rfl
set_option maxRecDepth 100000 in
theorem r_d796 : run Go.Proofs.Ythggbkoccgigaaa.pairDrawn.d796 = true := by kernel_rfl
set_option maxRecDepth 100000 in
theorem r_d800 : run Go.Proofs.Ythggbkoccgigaaa.pairDrawn.d800 = true := by kernel_rfl
set_option maxRecDepth 100000 in
theorem r_d804 : run Go.Proofs.Ythggbkoccgigaaa.pairDrawn.d804 = true := by kernel_rfl
set_option maxRecDepth 100000 in
theorem r_d808 : run Go.Proofs.Ythggbkoccgigaaa.pairDrawn.d808 = true := by kernel_rfl
set_option maxRecDepth 100000 in
theorem r_d812 : run Go.Proofs.Ythggbkoccgigaaa.pairDrawn.d812 = true := by kernel_rfl
set_option maxRecDepth 100000 in
theorem r_d816 : run Go.Proofs.Ythggbkoccgigaaa.pairDrawn.d816 = true := by kernel_rfl
set_option maxRecDepth 100000 in
theorem r_d820 : run Go.Proofs.Ythggbkoccgigaaa.pairDrawn.d820 = true := by kernel_rfl
set_option maxRecDepth 100000 in
theorem r_d824 : run Go.Proofs.Ythggbkoccgigaaa.pairDrawn.d824 = true := by kernel_rfl
set_option maxRecDepth 100000 in
theorem r_d828 : run Go.Proofs.Ythggbkoccgigaaa.pairDrawn.d828 = true := by kernel_rfl
set_option maxRecDepth 100000 in
theorem r_d832 : run Go.Proofs.Ythggbkoccgigaaa.pairDrawn.d832 = true := by kernel_rfl
set_option maxRecDepth 100000 in
theorem r_d836 : run Go.Proofs.Ythggbkoccgigaaa.pairDrawn.d836 = true := by kernel_rfl
set_option maxRecDepth 100000 in
theorem r_d840 : run Go.Proofs.Ythggbkoccgigaaa.pairDrawn.d840 = true := by kernel_rfl
set_option maxRecDepth 100000 in
theorem r_d844 : run Go.Proofs.Ythggbkoccgigaaa.pairDrawn.d844 = true := by kernel_rfl
set_option maxRecDepth 100000 in
theorem r_d848 : run Go.Proofs.Ythggbkoccgigaaa.pairDrawn.d848 = true := by kernel_rfl
set_option maxRecDepth 100000 in
theorem r_d852 : run Go.Proofs.Ythggbkoccgigaaa.pairDrawn.d852 = true := by kernel_rfl
set_option maxRecDepth 100000 in
theorem r_d856 : run Go.Proofs.Ythggbkoccgigaaa.pairDrawn.d856 = true := by kernel_rfl
set_option maxRecDepth 100000 in
theorem r_d860 : run Go.Proofs.Ythggbkoccgigaaa.pairDrawn.d860 = true := by kernel_rfl
set_option maxRecDepth 100000 in
theorem r_d864 : run Go.Proofs.Ythggbkoccgigaaa.pairDrawn.d864 = true := by kernel_rfl
set_option maxRecDepth 100000 in
theorem r_d868 : run Go.Proofs.Ythggbkoccgigaaa.pairDrawn.d868 = true := by kernel_rfl
set_option maxRecDepth 100000 in
theorem r_d872 : run Go.Proofs.Ythggbkoccgigaaa.pairDrawn.d872 = true := by kernel_rfl
set_option maxRecDepth 100000 in
theorem r_d876 : run Go.Proofs.Ythggbkoccgigaaa.pairDrawn.d876 = true := by kernel_rfl
set_option maxRecDepth 100000 in
theorem r_d880 : run Go.Proofs.Ythggbkoccgigaaa.pairDrawn.d880 = true := by kernel_rfl
set_option maxRecDepth 100000 in
theorem r_d884 : run Go.Proofs.Ythggbkoccgigaaa.pairDrawn.d884 = true := by kernel_rfl
set_option maxRecDepth 100000 in
theorem r_d888 : run Go.Proofs.Ythggbkoccgigaaa.pairDrawn.d888 = true := by kernel_rfl
set_option maxRecDepth 100000 in
theorem r_d892 : run Go.Proofs.Ythggbkoccgigaaa.pairDrawn.d892 = true := by kernel_rfl
set_option maxRecDepth 100000 in
theorem r_d896 : run Go.Proofs.Ythggbkoccgigaaa.pairDrawn.d896 = true := by kernel_rfl
set_option maxRecDepth 100000 in
theorem r_d900 : run Go.Proofs.Ythggbkoccgigaaa.pairDrawn.d900 = true := by kernel_rfl
set_option maxRecDepth 100000 in
theorem r_d904 : run Go.Proofs.Ythggbkoccgigaaa.pairDrawn.d904 = true := by kernel_rfl
set_option maxRecDepth 100000 in
theorem r_d908 : run Go.Proofs.Ythggbkoccgigaaa.pairDrawn.d908 = true := by kernel_rfl
set_option maxRecDepth 100000 in
theorem r_d912 : run Go.Proofs.Ythggbkoccgigaaa.pairDrawn.d912 = true := by kernel_rfl
set_option maxRecDepth 100000 in
theorem r_d916 : run Go.Proofs.Ythggbkoccgigaaa.pairDrawn.d916 = true := by kernel_rfl
set_option maxRecDepth 100000 in
theorem r_d920 : run Go.Proofs.Ythggbkoccgigaaa.pairDrawn.d920 = true := by kernel_rfl
set_option maxRecDepth 100000 in
theorem r_d924 : run Go.Proofs.Ythggbkoccgigaaa.pairDrawn.d924 = true := by kernel_rfl
set_option maxRecDepth 100000 in
theorem r_d928 : run Go.Proofs.Ythggbkoccgigaaa.pairDrawn.d928 = true := by kernel_rfl
set_option maxRecDepth 100000 in
theorem r_d932 : run Go.Proofs.Ythggbkoccgigaaa.pairDrawn.d932 = true := by kernel_rfl
set_option maxRecDepth 100000 in
theorem r_d936 : run Go.Proofs.Ythggbkoccgigaaa.pairDrawn.d936 = true := by kernel_rfl
set_option maxRecDepth 100000 in
theorem r_d940 : run Go.Proofs.Ythggbkoccgigaaa.pairDrawn.d940 = true := by kernel_rfl
set_option maxRecDepth 100000 in
theorem r_d944 : run Go.Proofs.Ythggbkoccgigaaa.pairDrawn.d944 = true := by kernel_rfl
set_option maxRecDepth 100000 in
theorem r_d948 : run Go.Proofs.Ythggbkoccgigaaa.pairDrawn.d948 = true := by kernel_rfl
set_option maxRecDepth 100000 in
theorem r_d952 : run Go.Proofs.Ythggbkoccgigaaa.pairDrawn.d952 = true := by kernel_rfl
set_option maxRecDepth 100000 in
theorem r_d956 : run Go.Proofs.Ythggbkoccgigaaa.pairDrawn.d956 = true := by kernel_rfl
end Go.Proofs.Ythggbkoccgigaaa.fnTableFullRuns
