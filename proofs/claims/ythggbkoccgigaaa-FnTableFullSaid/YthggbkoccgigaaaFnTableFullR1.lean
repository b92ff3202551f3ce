/- Runs of the program at a seat. -/
import Derived.Test.YthggbkoccgigaaaFnTableFullP
namespace Go.Proofs.Ythggbkoccgigaaa.fnTableFullRuns
open Go Go.Eng
set_option linter.unusedVariables false
set_option linter.unusedSectionVars false
set_option linter.unusedSimpArgs false
set_option maxRecDepth 100000 in
theorem r_d1 : run Go.Proofs.Ythggbkoccgigaaa.pairDrawn.d1 = true := by kernel_rfl
set_option maxRecDepth 100000 in
theorem r_d5 : run Go.Proofs.Ythggbkoccgigaaa.pairDrawn.d5 = true := by kernel_rfl
set_option maxRecDepth 100000 in
theorem r_d9 : run Go.Proofs.Ythggbkoccgigaaa.pairDrawn.d9 = true := by kernel_rfl
set_option maxRecDepth 100000 in
theorem r_d13 : run Go.Proofs.Ythggbkoccgigaaa.pairDrawn.d13 = true := by kernel_rfl
set_option maxRecDepth 100000 in
theorem r_d17 : run Go.Proofs.Ythggbkoccgigaaa.pairDrawn.d17 = true := by kernel_rfl
set_option maxRecDepth 100000 in
theorem r_d21 : run Go.Proofs.Ythggbkoccgigaaa.pairDrawn.d21 = true := by kernel_rfl
set_option maxRecDepth 100000 in
theorem r_d25 : run Go.Proofs.Ythggbkoccgigaaa.pairDrawn.d25 = true := by kernel_rfl
set_option maxRecDepth 100000 in
theorem r_d29 : run Go.Proofs.Ythggbkoccgigaaa.pairDrawn.d29 = true := by kernel_rfl
set_option maxRecDepth 100000 in
theorem r_d33 : run Go.Proofs.Ythggbkoccgigaaa.pairDrawn.d33 = true := by kernel_rfl
set_option maxRecDepth 100000 in
theorem r_d37 : run Go.Proofs.Ythggbkoccgigaaa.pairDrawn.d37 = true := by kernel_rfl
set_option maxRecDepth 100000 in
theorem r_d41 : run Go.Proofs.Ythggbkoccgigaaa.pairDrawn.d41 = true := by kernel_rfl
set_option maxRecDepth 100000 in
theorem r_d45 : run Go.Proofs.Ythggbkoccgigaaa.pairDrawn.d45 = true := by kernel_rfl
set_option maxRecDepth 100000 in
theorem r_d49 : run Go.Proofs.Ythggbkoccgigaaa.pairDrawn.d49 = true := by kernel_rfl
set_option maxRecDepth 100000 in
theorem r_d53 : run Go.Proofs.Ythggbkoccgigaaa.pairDrawn.d53 = true := by kernel_rfl
set_option maxRecDepth 100000 in
theorem r_d57 : run Go.Proofs.Ythggbkoccgigaaa.pairDrawn.d57 = true := by kernel_rfl
set_option maxRecDepth 100000 in
theorem r_d61 : run Go.Proofs.Ythggbkoccgigaaa.pairDrawn.d61 = true := by kernel_rfl
set_option maxRecDepth 100000 in
theorem r_d65 : run Go.Proofs.Ythggbkoccgigaaa.pairDrawn.d65 = true := by kernel_rfl
set_option maxRecDepth 100000 in
theorem r_d69 : run Go.Proofs.Ythggbkoccgigaaa.pairDrawn.d69 = true := by kernel_rfl
set_option maxRecDepth 100000 in
theorem r_d73 : run Go.Proofs.Ythggbkoccgigaaa.pairDrawn.d73 = true := by kernel_rfl
set_option maxRecDepth 100000 in
theorem r_d77 : run Go.Proofs.Ythggbkoccgigaaa.pairDrawn.d77 = true := by kernel_rfl
set_option maxRecDepth 100000 in
theorem r_d81 : run Go.Proofs.Ythggbkoccgigaaa.pairDrawn.d81 = true := by kernel_rfl
set_option maxRecDepth 100000 in
theorem r_d85 : run Go.Proofs.Ythggbkoccgigaaa.pairDrawn.d85 = true := by kernel_rfl
set_option maxRecDepth 100000 in
theorem r_d89 : run Go.Proofs.Ythggbkoccgigaaa.pairDrawn.d89 = true := by kernel_rfl
set_option maxRecDepth 100000 in
theorem r_d93 : run Go.Proofs.Ythggbkoccgigaaa.pairDrawn.d93 = true := by kernel_rfl
set_option maxRecDepth 100000 in
theorem r_d97 : run Go.Proofs.Ythggbkoccgigaaa.pairDrawn.d97 = true := by kernel_rfl
set_option maxRecDepth 100000 in
theorem r_d101 : run Go.Proofs.Ythggbkoccgigaaa.pairDrawn.d101 = true := by kernel_rfl
set_option maxRecDepth 100000 in
theorem r_d105 : run Go.Proofs.Ythggbkoccgigaaa.pairDrawn.d105 = true := by kernel_rfl
set_option maxRecDepth 100000 in
theorem r_d109 : run Go.Proofs.Ythggbkoccgigaaa.pairDrawn.d109 = true := by kernel_rfl
set_option maxRecDepth 100000 in
theorem r_d113 : run Go.Proofs.Ythggbkoccgigaaa.pairDrawn.d113 = true := by kernel_rfl
set_option maxRecDepth 100000 in
theorem r_d117 : run Go.Proofs.Ythggbkoccgigaaa.pairDrawn.d117 = true := by kernel_rfl
set_option maxRecDepth 100000 in
theorem r_d121 : run Go.Proofs.Ythggbkoccgigaaa.pairDrawn.d121 = true := by kernel_rfl
set_option maxRecDepth 100000 in
theorem r_d125 : run Go.Proofs.Ythggbkoccgigaaa.pairDrawn.d125 = true := by kernel_rfl
set_option maxRecDepth 100000 in
theorem r_d129 : run Go.Proofs.Ythggbkoccgigaaa.pairDrawn.d129 = true := by kernel_rfl
set_option maxRecDepth 100000 in
theorem r_d133 : run Go.Proofs.Ythggbkoccgigaaa.pairDrawn.d133 = true := by kernel_rfl
set_option maxRecDepth 100000 in
theorem r_d137 : run Go.Proofs.Ythggbkoccgigaaa.pairDrawn.d137 = true := by kernel_rfl
set_option maxRecDepth 100000 in
theorem r_d141 : run Go.Proofs.Ythggbkoccgigaaa.pairDrawn.d141 = true := by kernel_rfl
set_option maxRecDepth 100000 in
theorem r_d145 : run Go.Proofs.Ythggbkoccgigaaa.pairDrawn.d145 = true := by kernel_rfl
set_option maxRecDepth 100000 in
theorem r_d149 : run Go.Proofs.Ythggbkoccgigaaa.pairDrawn.d149 = true := by kernel_rfl
set_option maxRecDepth 100000 in
theorem r_d153 : run Go.Proofs.Ythggbkoccgigaaa.pairDrawn.d153 = true := by kernel_rfl
set_option maxRecDepth 100000 in
theorem r_d157 : run Go.Proofs.Ythggbkoccgigaaa.pairDrawn.d157 = true := by kernel_rfl
set_option maxRecDepth 100000 in
theorem r_d161 : run Go.Proofs.Ythggbkoccgigaaa.pairDrawn.d161 = true := by kernel_rfl
set_option maxRecDepth 100000 in
theorem r_d165 : run Go.Proofs.Ythggbkoccgigaaa.pairDrawn.d165 = true := by kernel_rfl
set_option maxRecDepth 100000 in
theorem r_d169 : run Go.Proofs.Ythggbkoccgigaaa.pairDrawn.d169 = true := by kernel_rfl
set_option maxRecDepth 100000 in
theorem r_d173 : run Go.Proofs.Ythggbkoccgigaaa.pairDrawn.d173 = true := by kernel_rfl
set_option maxRecDepth 100000 in
theorem r_d177 : run Go.Proofs.Ythggbkoccgigaaa.pairDrawn.d177 = true := by kernel_rfl
set_option maxRecDepth 100000 in
theorem r_d181 : run Go.Proofs.Ythggbkoccgigaaa.pairDrawn.d181 = true := by kernel_rfl
set_option maxRecDepth 100000 in
theorem r_d185 : run Go.Proofs.Ythggbkoccgigaaa.pairDrawn.d185 = true := by kernel_rfl
set_option maxRecDepth 100000 in
theorem r_d189 : run Go.Proofs.Ythggbkoccgigaaa.pairDrawn.d189 = true := by kernel_rfl
set_option maxRecDepth 100000 in
theorem r_d193 : run Go.Proofs.Ythggbkoccgigaaa.pairDrawn.d193 = true := by kernel_rfl
set_option maxRecDepth 100000 in
theorem r_d197 : run Go.Proofs.Ythggbkoccgigaaa.pairDrawn.d197 = true := by kernel_rfl
set_option maxRecDepth 100000 in
theorem r_d201 : run Go.Proofs.Ythggbkoccgigaaa.pairDrawn.d201 = true := by kernel_rfl
set_option maxRecDepth 100000 in
theorem r_d205 : run Go.Proofs.Ythggbkoccgigaaa.pairDrawn.d205 = true := by kernel_rfl
set_option maxRecDepth 100000 in
theorem r_d209 : run Go.Proofs.Ythggbkoccgigaaa.pairDrawn.d209 = true := by kernel_rfl
set_option maxRecDepth 100000 in
theorem r_d213 : run Go.Proofs.Ythggbkoccgigaaa.pairDrawn.d213 = true := by kernel_rfl
set_option maxRecDepth 100000 in
theorem r_d217 : run Go.Proofs.Ythggbkoccgigaaa.pairDrawn.d217 = true := by kernel_rfl
set_option maxRecDepth 100000 in
theorem r_d221 : run Go.Proofs.Ythggbkoccgigaaa.pairDrawn.d221 = true := by kernel_rfl
set_option maxRecDepth 100000 in
theorem r_d225 : run Go.Proofs.Ythggbkoccgigaaa.pairDrawn.d225 = true := by kernel_rfl
set_option maxRecDepth 100000 in
theorem r_d229 : run Go.Proofs.Ythggbkoccgigaaa.pairDrawn.d229 = true := by kernel_rfl
set_option maxRecDepth 100000 in
theorem r_d233 : run Go.Proofs.Ythggbkoccgigaaa.pairDrawn.d233 = true := by kernel_rfl
set_option maxRecDepth 100000 in
theorem r_d237 : run Go.Proofs.Ythggbkoccgigaaa.pairDrawn.d237 = true := by kernel_rfl
set_option maxRecDepth 100000 in
theorem r_d241 : run Go.Proofs.Ythggbkoccgigaaa.pairDrawn.d241 = true := by kernel_rfl
set_option maxRecDepth 100000 in
theorem r_d245 : run Go.Proofs.Ythggbkoccgigaaa.pairDrawn.d245 = true := by kernel_rfl
set_option maxRecDepth 100000 in
theorem r_d249 : run Go.Proofs.Ythggbkoccgigaaa.pairDrawn.d249 = true := by kernel_rfl
set_option maxRecDepth 100000 in
theorem r_d253 : run Go.Proofs.Ythggbkoccgigaaa.pairDrawn.d253 = true := by kernel_rfl
set_option maxRecDepth 100000 in
theorem r_d257 : run Go.Proofs.Ythggbkoccgigaaa.pairDrawn.d257 = true := by kernel_rfl
set_option maxRecDepth 100000 in
theorem r_d261 : run Go.Proofs.Ythggbkoccgigaaa.pairDrawn.d261 = true := by kernel_rfl
set_option maxRecDepth 100000 in
theorem r_d265 : run Go.Proofs.Ythggbkoccgigaaa.pairDrawn.d265 = true := by kernel_rfl
set_option maxRecDepth 100000 in
theorem r_d269 : run Go.Proofs.Ythggbkoccgigaaa.pairDrawn.d269 = true := by kernel_rfl
set_option maxRecDepth 100000 in
theorem r_d273 : run Go.Proofs.Ythggbkoccgigaaa.pairDrawn.d273 = true := by kernel_rfl
set_option maxRecDepth 100000 in
theorem r_d277 : run Go.Proofs.Ythggbkoccgigaaa.pairDrawn.d277 = true := by kernel_rfl
set_option maxRecDepth 100000 in
theorem r_d281 : run Go.Proofs.Ythggbkoccgigaaa.pairDrawn.d281 = true := by kernel_rfl
set_option maxRecDepth 100000 in
theorem r_d285 : run Go.Proofs.Ythggbkoccgigaaa.pairDrawn.d285 = true := by kernel_rfl
set_option maxRecDepth 100000 in
theorem r_d289 : run Go.Proofs.Ythggbkoccgigaaa.pairDrawn.d289 = true := by kernel_rfl
set_option maxRecDepth 100000 in
theorem r_d293 : run Go.Proofs.Ythggbkoccgigaaa.pairDrawn.d293 = true := by kernel_rfl
set_option maxRecDepth 100000 in
theorem r_d297 : run Go.Proofs.Ythggbkoccgigaaa.pairDrawn.d297 = true := by kernel_rfl
set_option maxRecDepth 100000 in
theorem r_d301 : run Go.Proofs.Ythggbkoccgigaaa.pairDrawn.d301 = true := by kernel_rfl
set_option maxRecDepth 100000 in
theorem r_d305 : run Go.Proofs.Ythggbkoccgigaaa.pairDrawn.d305 = true := by kernel_rfl
set_option maxRecDepth 100000 in
theorem r_d309 : run Go.Proofs.Ythggbkoccgigaaa.pairDrawn.d309 = true := by kernel_rfl
set_option maxRecDepth 100000 in
theorem r_d313 : run Go.Proofs.Ythggbkoccgigaaa.pairDrawn.d313 = true := by kernel_rfl
set_option maxRecDepth 100000 in
theorem r_d317 : run Go.Proofs.Ythggbkoccgigaaa.pairDrawn.d317 = true := by kernel_rfl
set_option maxRecDepth 100000 in
theorem r_d321 : run Go.Proofs.Ythggbkoccgigaaa.pairDrawn.d321 = true := by kernel_rfl
set_option maxRecDepth 100000 in
theorem r_d325 : run Go.Proofs.Ythggbkoccgigaaa.pairDrawn.d325 = true := by kernel_rfl
set_option maxRecDepth 100000 in
theorem r_d329 : run Go.Proofs.Ythggbkoccgigaaa.pairDrawn.d329 = true := by kernel_rfl
set_option maxRecDepth 100000 in
theorem r_d333 : run Go.Proofs.Ythggbkoccgigaaa.pairDrawn.d333 = true := by kernel_rfl
set_option maxRecDepth 100000 in
theorem r_d337 : run Go.Proofs.Ythggbkoccgigaaa.pairDrawn.d337 = true := by kernel_rfl
set_option maxRecDepth 100000 in
theorem r_d341 : run Go.Proofs.Ythggbkoccgigaaa.pairDrawn.d341 = true := by kernel_rfl
set_option maxRecDepth 100000 in
theorem r_d345 : run Go.Proofs.Ythggbkoccgigaaa.pairDrawn.d345 = true := by kernel_rfl
set_option maxRecDepth 100000 in
theorem r_d349 : run Go.Proofs.Ythggbkoccgigaaa.pairDrawn.d349 = true := by kernel_rfl
set_option maxRecDepth 100000 in
theorem r_d353 : run Go.Proofs.Ythggbkoccgigaaa.pairDrawn.d353 = true := by kernel_rfl
set_option maxRecDepth 100000 in
theorem r_d357 : run Go.Proofs.Ythggbkoccgigaaa.pairDrawn.d357 = true := by kernel_rfl
set_option maxRecDepth 100000 in
theorem r_d361 : run Go.Proofs.Ythggbkoccgigaaa.pairDrawn.d361 = true := by kernel_rfl
set_option maxRecDepth 100000 in
theorem r_d365 : run Go.Proofs.Ythggbkoccgigaaa.pairDrawn.d365 = true := by kernel_rfl
set_option maxRecDepth 100000 in
theorem r_d369 : run Go.Proofs.Ythggbkoccgigaaa.pairDrawn.d369 = true := by kernel_rfl
set_option maxRecDepth 100000 in
theorem r_d373 : run Go.Proofs.Ythggbkoccgigaaa.pairDrawn.d373 = true := by kernel_rfl
set_option maxRecDepth 100000 in
theorem r_d377 : run Go.Proofs.Ythggbkoccgigaaa.pairDrawn.d377 = true := by kernel_rfl
set_option maxRecDepth 100000 in
theorem r_d381 : run Go.Proofs.Ythggbkoccgigaaa.pairDrawn.d381 = true := by kernel_rfl
set_option maxRecDepth 100000 in
theorem r_d385 : run Go.Proofs.Ythggbkoccgigaaa.pairDrawn.d385 = true := by kernel_rfl
set_option maxRecDepth 100000 in
theorem r_d389 : run Go.Proofs.Ythggbkoccgigaaa.pairDrawn.d389 = true := by kernel_rfl
set_option maxRecDepth 100000 in
theorem r_d393 : run Go.Proofs.Ythggbkoccgigaaa.pairDrawn.d393 = true := by kernel_rfl
set_option maxRecDepth 100000 in
theorem r_d397 : run Go.Proofs.Ythggbkoccgigaaa.pairDrawn.d397 = true := by kernel_rfl
set_option maxRecDepth 100000 in
theorem r_d401 : run Go.Proofs.Ythggbkoccgigaaa.pairDrawn.d401 = true := by kernel_rfl
set_option maxRecDepth 100000 in
theorem r_d405 : run Go.Proofs.Ythggbkoccgigaaa.pairDrawn.d405 = true := by kernel_rfl
set_option maxRecDepth 100000 in
theorem r_d409 : run Go.Proofs.Ythggbkoccgigaaa.pairDrawn.d409 = true := by kernel_rfl
set_option maxRecDepth 100000 in
theorem r_d413 : run Go.Proofs.Ythggbkoccgigaaa.pairDrawn.d413 = true := by kernel_rfl
set_option maxRecDepth 100000 in
theorem r_d417 : run Go.Proofs.Ythggbkoccgigaaa.pairDrawn.d417 = true := by kernel_rfl
set_option maxRecDepth 100000 in
theorem r_d421 : run Go.Proofs.Ythggbkoccgigaaa.pairDrawn.d421 = true := by kernel_rfl
set_option maxRecDepth 100000 in
theorem r_d425 : run Go.Proofs.Ythggbkoccgigaaa.pairDrawn.d425 = true := by kernel_rfl
set_option maxRecDepth 100000 in
theorem r_d429 : run Go.Proofs.Ythggbkoccgigaaa.pairDrawn.d429 = true := by kernel_rfl
set_option maxRecDepth 100000 in
theorem r_d433 : run Go.Proofs.Ythggbkoccgigaaa.pairDrawn.d433 = true := by kernel_rfl
set_option maxRecDepth 100000 in
theorem r_d437 : run Go.Proofs.Ythggbkoccgigaaa.pairDrawn.d437 = true := by kernel_rfl
set_option maxRecDepth 100000 in
theorem r_d441 : run Go.Proofs.Ythggbkoccgigaaa.pairDrawn.d441 = true := by kernel_rfl
set_option maxRecDepth 100000 in
theorem r_d445 : run Go.Proofs.Ythggbkoccgigaaa.pairDrawn.d445 = true := by kernel_rfl
set_option maxRecDepth 100000 in
theorem r_d449 : run Go.Proofs.Ythggbkoccgigaaa.pairDrawn.d449 = true := by kernel_rfl
set_option maxRecDepth 100000 in
theorem r_d453 : run Go.Proofs.Ythggbkoccgigaaa.pairDrawn.d453 = true := by kernel_rfl
set_option maxRecDepth 100000 in
theorem r_d457 : run Go.Proofs.Ythggbkoccgigaaa.pairDrawn.d457 = true := by kernel_rfl
set_option maxRecDepth 100000 in
theorem r_d461 : run Go.Proofs.Ythggbkoccgigaaa.pairDrawn.d461 = true := by kernel_rfl
set_option maxRecDepth 100000 in
theorem r_d465 : run Go.Proofs.Ythggbkoccgigaaa.pairDrawn.d465 = true := by kernel_rfl
set_option maxRecDepth 100000 in
theorem r_d469 : run Go.Proofs.Ythggbkoccgigaaa.pairDrawn.d469 = true := by kernel_rfl
set_option maxRecDepth 100000 in
theorem r_d473 : run Go.Proofs.Ythggbkoccgigaaa.pairDrawn.d473 = true := by kernel_rfl
set_option maxRecDepth 100000 in
theorem r_d477 : run Go.Proofs.Ythggbkoccgigaaa.pairDrawn.d477 = true := by kernel_rfl
set_option maxRecDepth 100000 in
theorem r_d481 : run Go.Proofs.Ythggbkoccgigaaa.pairDrawn.d481 = true := by kernel_rfl
set_option maxRecDepth 100000 in
theorem r_d485 : run Go.Proofs.Ythggbkoccgigaaa.pairDrawn.d485 = true := by kernel_rfl
set_option maxRecDepth 100000 in
theorem r_d489 : run Go.Proofs.Ythggbkoccgigaaa.pairDrawn.d489 = true := by kernel_rfl
set_option maxRecDepth 100000 in
theorem r_d493 : run Go.Proofs.Ythggbkoccgigaaa.pairDrawn.d493 = true := by kernel_rfl
set_option maxRecDepth 100000 in
theorem r_d497 : run Go.Proofs.Ythggbkoccgigaaa.pairDrawn.d497 = true := by kernel_rfl
set_option maxRecDepth 100000 in
theorem r_d501 : run Go.Proofs.Ythggbkoccgigaaa.pairDrawn.d501 = true := by kernel_rfl
set_option maxRecDepth 100000 in
theorem r_d505 : run Go.Proofs.Ythggbkoccgigaaa.pairDrawn.d505 = true := by kernel_rfl
set_option maxRecDepth 100000 in
theorem r_d509 : run Go.Proofs.Ythggbkoccgigaaa.pairDrawn.d509 = true := by kernel_rfl
set_option maxRecDepth 100000 in
theorem r_d513 : run Go.Proofs.Ythggbkoccgigaaa.pairDrawn.d513 = true := by kernel_rfl
set_option maxRecDepth 100000 in
theorem r_d517 : run Go.Proofs.Ythggbkoccgigaaa.pairDrawn.d517 = true := by kernel_rfl
set_option maxRecDepth 100000 in
theorem r_d521 : run Go.Proofs.Ythggbkoccgigaaa.pairDrawn.d521 = true := by kernel_rfl
set_option maxRecDepth 100000 in
theorem r_d525 : run Go.Proofs.Ythggbkoccgigaaa.pairDrawn.d525 = true := by kernel_rfl
set_option maxRecDepth 100000 in
theorem r_d529 : run Go.Proofs.Ythggbkoccgigaaa.pairDrawn.d529 = true := by kernel_rfl
set_option maxRecDepth 100000 in
theorem r_d533 : run Go.Proofs.Ythggbkoccgigaaa.pairDrawn.d533 = true := by kernel_rfl
set_option maxRecDepth 100000 in
theorem r_d537 : run Go.Proofs.Ythggbkoccgigaaa.pairDrawn.d537 = true := by kernel_rfl
set_option maxRecDepth 100000 in
theorem r_d541 : run Go.Proofs.Ythggbkoccgigaaa.pairDrawn.d541 = true := by kernel_rfl
set_option maxRecDepth 100000 in
theorem r_d545 : run Go.Proofs.Ythggbkoccgigaaa.pairDrawn.d545 = true := by kernel_rfl
set_option maxRecDepth 100000 in
theorem r_d549 : run Go.Proofs.Ythggbkoccgigaaa.pairDrawn.d549 = true := by kernel_rfl
set_option maxRecDepth 100000 in
theorem r_d553 : run Go.Proofs.Ythggbkoccgigaaa.pairDrawn.d553 = true := by kernel_rfl
set_option maxRecDepth 100000 in
theorem r_d557 : run Go.Proofs.Ythggbkoccgigaaa.pairDrawn.d557 = true := by kernel_rfl
set_option maxRecDepth 100000 in
theorem r_d561 : run Go.Proofs.Ythggbkoccgigaaa.pairDrawn.d561 = true := by kernel_rfl
set_option maxRecDepth 100000 in
theorem r_d565 : run Go.Proofs.Ythggbkoccgigaaa.pairDrawn.d565 = true := by kernel_rfl
set_option maxRecDepth 100000 in
theorem r_d569 : run Go.Proofs.Ythggbkoccgigaaa.pairDrawn.d569 = true := by kernel_rfl
set_option maxRecDepth 100000 in
theorem r_d573 : run Go.Proofs.Ythggbkoccgigaaa.pairDrawn.d573 = true := by kernel_rfl
set_option maxRecDepth 100000 in
theorem r_d577 : run Go.Proofs.Ythggbkoccgigaaa.pairDrawn.d577 = true := by kernel_rfl
set_option maxRecDepth 100000 in
theorem r_d581 : run Go.Proofs.Ythggbkoccgigaaa.pairDrawn.d581 = true := by kernel_rfl
set_option maxRecDepth 100000 in
theorem r_d585 : run Go.Proofs.Ythggbkoccgigaaa.pairDrawn.d585 = true := by kernel_rfl
set_option maxRecDepth 100000 in
theorem r_d589 : run Go.Proofs.Ythggbkoccgigaaa.pairDrawn.d589 = true := by kernel_rfl
set_option maxRecDepth 100000 in
theorem r_d593 : run Go.Proofs.Ythggbkoccgigaaa.pairDrawn.d593 = true := by kernel_rfl
set_option maxRecDepth 100000 in
theorem r_d597 : run Go.Proofs.Ythggbkoccgigaaa.pairDrawn.d597 = true := by kernel_rfl
set_option maxRecDepth 100000 in
theorem r_d601 : run Go.Proofs.Ythggbkoccgigaaa.pairDrawn.d601 = true := by kernel_rfl
set_option maxRecDepth 100000 in
theorem r_d605 : run Go.Proofs.Ythggbkoccgigaaa.pairDrawn.d605 = true := by kernel_rfl
set_option maxRecDepth 100000 in
theorem r_d609 : run Go.Proofs.Ythggbkoccgigaaa.pairDrawn.d609 = true := by kernel_rfl
set_option maxRecDepth 100000 in
theorem r_d613 : run Go.Proofs.Ythggbkoccgigaaa.pairDrawn.d613 = true := by kernel_rfl
set_option maxRecDepth 100000 in
theorem r_d617 : run Go.Proofs.Ythggbkoccgigaaa.pairDrawn.d617 = true := by kernel_rfl
set_option maxRecDepth 100000 in
theorem r_d621 : run Go.Proofs.Ythggbkoccgigaaa.pairDrawn.d621 = true := by kernel_rfl
set_option maxRecDepth 100000 in
theorem r_d625 : run Go.Proofs.Ythggbkoccgigaaa.pairDrawn.d625 = true := by kernel_rfl
set_option maxRecDepth 100000 in
theorem r_d629 : run Go.Proofs.Ythggbkoccgigaaa.pairDrawn.d629 = true := by kernel_rfl
set_option maxRecDepth 100000 in
theorem r_d633 : run Go.Proofs.Ythggbkoccgigaaa.pairDrawn.d633 = true := by kernel_rfl
set_option maxRecDepth 100000 in
theorem r_d637 : run Go.Proofs.Ythggbkoccgigaaa.pairDrawn.d637 = true := by kernel_rfl
set_option maxRecDepth 100000 in
theorem r_d641 : run Go.Proofs.Ythggbkoccgigaaa.pairDrawn.d641 = true := by kernel_rfl
set_option maxRecDepth 100000 in
theorem r_d645 : run Go.Proofs.Ythggbkoccgigaaa.pairDrawn.d645 = true := by kernel_rfl
set_option maxRecDepth 100000 in
theorem r_d649 : run Go.Proofs.Ythggbkoccgigaaa.pairDrawn.d649 = true := by kernel_rfl
set_option maxRecDepth 100000 in
theorem r_d653 : run Go.Proofs.Ythggbkoccgigaaa.pairDrawn.d653 = true := by kernel_rfl
set_option maxRecDepth 100000 in
theorem r_d657 : run Go.Proofs.Ythggbkoccgigaaa.pairDrawn.d657 = true := by kernel_rfl
set_option maxRecDepth 100000 in
theorem r_d661 : run Go.Proofs.Ythggbkoccgigaaa.pairDrawn.d661 = true := by kernel_rfl
set_option maxRecDepth 100000 in
theorem r_d665 : run Go.Proofs.Ythggbkoccgigaaa.pairDrawn.d665 = true := by kernel_rfl
set_option maxRecDepth 100000 in
theorem r_d669 : run Go.Proofs.Ythggbkoccgigaaa.pairDrawn.d669 = true := by kernel_rfl
set_option maxRecDepth 100000 in
theorem r_d673 : run Go.Proofs.Ythggbkoccgigaaa.pairDrawn.d673 = true := by kernel_rfl
set_option maxRecDepth 100000 in
theorem r_d677 : run Go.Proofs.Ythggbkoccgigaaa.pairDrawn.d677 = true := by kernel_rfl
set_option maxRecDepth 100000 in
theorem r_d681 : run Go.Proofs.Ythggbkoccgigaaa.pairDrawn.d681 = true := by kernel_rfl
set_option maxRecDepth 100000 in
theorem r_d685 : run Go.Proofs.Ythggbkoccgigaaa.pairDrawn.d685 = true := by kernel_rfl
set_option maxRecDepth 100000 in
theorem r_d689 : run Go.Proofs.Ythggbkoccgigaaa.pairDrawn.d689 = true := by kernel_rfl
set_option maxRecDepth 100000 in
theorem r_d693 : run Go.Proofs.Ythggbkoccgigaaa.pairDrawn.d693 = true := by kernel_rfl
set_option maxRecDepth 100000 in
theorem r_d697 : run Go.Proofs.Ythggbkoccgigaaa.pairDrawn.d697 = true := by kernel_rfl
set_option maxRecDepth 100000 in
theorem r_d701 : run Go.Proofs.Ythggbkoccgigaaa.pairDrawn.d701 = true := by kernel_rfl
set_option maxRecDepth 100000 in
theorem r_d705 : run Go.Proofs.Ythggbkoccgigaaa.pairDrawn.d705 = true := by kernel_rfl
set_option maxRecDepth 100000 in
theorem r_d709 : run Go.Proofs.Ythggbkoccgigaaa.pairDrawn.d709 = true := by kernel_rfl
set_option maxRecDepth 100000 in
theorem r_d713 : run Go.Proofs.Ythggbkoccgigaaa.pairDrawn.d713 = true := by kernel_rfl
set_option maxRecDepth 100000 in
theorem r_d717 : run Go.Proofs.Ythggbkoccgigaaa.pairDrawn.d717 = true := by kernel_rfl
set_option maxRecDepth 100000 in
theorem r_d721 : run Go.Proofs.Ythggbkoccgigaaa.pairDrawn.d721 = true := by kernel_rfl
set_option maxRecDepth 100000 in
theorem r_d725 : run Go.Proofs.Ythggbkoccgigaaa.pairDrawn.d725 = true := by kernel_rfl
set_option maxRecDepth 100000 in
theorem r_d729 : run Go.Proofs.Ythggbkoccgigaaa.pairDrawn.d729 = true := by kernel_rfl
set_option maxRecDepth 100000 in
theorem r_d733 : run Go.Proofs.Ythggbkoccgigaaa.pairDrawn.d733 = true := by kernel_rfl
set_option maxRecDepth 100000 in
theorem r_d737 : run Go.Proofs.Ythggbkoccgigaaa.pairDrawn.d737 = true := by kernel_rfl
set_option maxRecDepth 100000 in
theorem r_d741 : run Go.Proofs.Ythggbkoccgigaaa.pairDrawn.d741 = true := by kernel_rfl
set_option maxRecDepth 100000 in
theorem r_d745 : run Go.Proofs.Ythggbkoccgigaaa.pairDrawn.d745 = true := by kernel_rfl
set_option maxRecDepth 100000 in
theorem r_d749 : run Go.Proofs.Ythggbkoccgigaaa.pairDrawn.d749 = true := by kernel_rfl
set_option maxRecDepth 100000 in
theorem r_d753 : run Go.Proofs.Ythggbkoccgigaaa.pairDrawn.d753 = true := by kernel_rfl
set_option maxRecDepth 100000 in
theorem r_d757 : run Go.Proofs.Ythggbkoccgigaaa.pairDrawn.d757 = true := by kernel_rfl
set_option maxRecDepth 100000 in
theorem r_d761 : run Go.Proofs.Ythggbkoccgigaaa.pairDrawn.d761 = true := by kernel_rfl
set_option maxRecDepth 100000 in
theorem r_d765 : run Go.Proofs.Ythggbkoccgigaaa.pairDrawn.d765 = true := by kernel_rfl
set_option maxRecDepth 100000 in
theorem r_d769 : run Go.Proofs.Ythggbkoccgigaaa.pairDrawn.d769 = true := by kernel_rfl
set_option maxRecDepth 100000 in
theorem r_d773 : run Go.Proofs.Ythggbkoccgigaaa.pairDrawn.d773 = true := by kernel_rfl
set_option maxRecDepth 100000 in
theorem r_d777 : run Go.Proofs.Ythggbkoccgigaaa.pairDrawn.d777 = true := by kernel_rfl
set_option maxRecDepth 100000 in
theorem r_d781 : run Go.Proofs.Ythggbkoccgigaaa.pairDrawn.d781 = true := by kernel_rfl
set_option maxRecDepth 100000 in
theorem r_d785 : run Go.Proofs.Ythggbkoccgigaaa.pairDrawn.d785 = true := by kernel_rfl
set_option maxRecDepth 100000 in
theorem r_d789 : run Go.Proofs.Ythggbkoccgigaaa.pairDrawn.d789 = true := by kernel_rfl
set_option maxRecDepth 100000 in
theorem r_d793 : run Go.Proofs.Ythggbkoccgigaaa.pairDrawn.d793 = true := by kernel_rfl
set_option maxRecDepth 100000 in
theorem r_d797 : run Go.Proofs.Ythggbkoccgigaaa.pairDrawn.d797 = true := by kernel_rfl
set_option maxRecDepth 100000 in
theorem r_d801 : run Go.Proofs.Ythggbkoccgigaaa.pairDrawn.d801 = true := by kernel_rfl
set_option maxRecDepth 100000 in
theorem r_d805 : run Go.Proofs.Ythggbkoccgigaaa.pairDrawn.d805 = true := by kernel_rfl
set_option maxRecDepth 100000 in
theorem r_d809 : run Go.Proofs.Ythggbkoccgigaaa.pairDrawn.d809 = true := by kernel_rfl
set_option maxRecDepth 100000 in
theorem r_d813 : run Go.Proofs.Ythggbkoccgigaaa.pairDrawn.d813 = true := by kernel_rfl
set_option maxRecDepth 100000 in
theorem r_d817 : run Go.Proofs.Ythggbkoccgigaaa.pairDrawn.d817 = true := by kernel_rfl
set_option maxRecDepth 100000 in
theorem r_d821 : run Go.Proofs.Ythggbkoccgigaaa.pairDrawn.d821 = true := by kernel_rfl
set_option maxRecDepth 100000 in
theorem r_d825 : run Go.Proofs.Ythggbkoccgigaaa.pairDrawn.d825 = true := by kernel_rfl
set_option maxRecDepth 100000 in
theorem r_d829 : run Go.Proofs.Ythggbkoccgigaaa.pairDrawn.d829 = true := by kernel_rfl
set_option maxRecDepth 100000 in
theorem r_d833 : run Go.Proofs.Ythggbkoccgigaaa.pairDrawn.d833 = true := by kernel_rfl
set_option maxRecDepth 100000 in
theorem r_d837 : run Go.Proofs.Ythggbkoccgigaaa.pairDrawn.d837 = true := by kernel_rfl
set_option maxRecDepth 100000 in
theorem r_d841 : run Go.Proofs.Ythggbkoccgigaaa.pairDrawn.d841 = true := by kernel_rfl
set_option maxRecDepth 100000 in
theorem r_d845 : run Go.Proofs.Ythggbkoccgigaaa.pairDrawn.d845 = true := by kernel_rfl
set_option maxRecDepth 100000 in
theorem r_d849 : run Go.Proofs.Ythggbkoccgigaaa.pairDrawn.d849 = true := by kernel_rfl
set_option maxRecDepth 100000 in
theorem r_d853 : run Go.Proofs.Ythggbkoccgigaaa.pairDrawn.d853 = true := by kernel_rfl
set_option maxRecDepth 100000 in
theorem r_d857 : run Go.Proofs.Ythggbkoccgigaaa.pairDrawn.d857 = true := by kernel_rfl
set_option maxRecDepth 100000 in
theorem r_d861 : run Go.Proofs.Ythggbkoccgigaaa.pairDrawn.d861 = true := by kernel_rfl
set_option maxRecDepth 100000 in
theorem r_d865 : run Go.Proofs.Ythggbkoccgigaaa.pairDrawn.d865 = true := by kernel_rfl
set_option maxRecDepth 100000 in
theorem r_d869 : run Go.Proofs.Ythggbkoccgigaaa.pairDrawn.d869 = true := by kernel_rfl
set_option maxRecDepth 100000 in
theorem r_d873 : run Go.Proofs.Ythggbkoccgigaaa.pairDrawn.d873 = true := by kernel_rfl
set_option maxRecDepth 100000 in
theorem r_d877 : run Go.Proofs.Ythggbkoccgigaaa.pairDrawn.d877 = true := by kernel_rfl
set_option maxRecDepth 100000 in
theorem r_d881 : run Go.Proofs.Ythggbkoccgigaaa.pairDrawn.d881 = true := by kernel_rfl
set_option maxRecDepth 100000 in
theorem r_d885 : run Go.Proofs.Ythggbkoccgigaaa.pairDrawn.d885 = true := by kernel_rfl
set_option maxRecDepth 100000 in
theorem r_d889 : run Go.Proofs.Ythggbkoccgigaaa.pairDrawn.d889 = true := by kernel_rfl
set_option maxRecDepth 100000 in
theorem r_d893 : run Go.Proofs.Ythggbkoccgigaaa.pairDrawn.d893 = true := by kernel_rfl
set_option maxRecDepth 100000 in
theorem r_d897 : run Go.Proofs.Ythggbkoccgigaaa.pairDrawn.d897 = true := by kernel_rfl
set_option maxRecDepth 100000 in
theorem r_d901 : run Go.Proofs.Ythggbkoccgigaaa.pairDrawn.d901 = true := by kernel_rfl
set_option maxRecDepth 100000 in
theorem r_d905 : run Go.Proofs.Ythggbkoccgigaaa.pairDrawn.d905 = true := by kernel_rfl
set_option maxRecDepth 100000 in
theorem r_d909 : run Go.Proofs.Ythggbkoccgigaaa.pairDrawn.d909 = true := by kernel_rfl
set_option maxRecDepth 100000 in
theorem r_d913 : run Go.Proofs.Ythggbkoccgigaaa.pairDrawn.d913 = true := by kernel_rfl
set_option maxRecDepth 100000 in
theorem r_d917 : run Go.Proofs.Ythggbkoccgigaaa.pairDrawn.d917 = true := by kernel_rfl
set_option maxRecDepth 100000 in
theorem r_d921 : run Go.Proofs.Ythggbkoccgigaaa.pairDrawn.d921 = true := by kernel_rfl
set_option maxRecDepth 100000 in
theorem r_d925 : run Go.Proofs.Ythggbkoccgigaaa.pairDrawn.d925 = true := by kernel_rfl
set_option maxRecDepth 100000 in
theorem r_d929 : run Go.Proofs.Ythggbkoccgigaaa.pairDrawn.d929 = true := by kernel_rfl
set_option maxRecDepth 100000 in
theorem r_d933 : run Go.Proofs.Ythggbkoccgigaaa.pairDrawn.d933 = true := by kernel_rfl
set_option maxRecDepth 100000 in
theorem r_d937 : run Go.Proofs.Ythggbkoccgigaaa.pairDrawn.d937 = true := by kernel_rfl
set_option maxRecDepth 100000 in
theorem r_d941 : run Go.Proofs.Ythggbkoccgigaaa.pairDrawn.d941 = true := by kernel_rfl
set_option maxRecDepth 100000 in
theorem r_d945 : run Go.Proofs.Ythggbkoccgigaaa.pairDrawn.d945 = true := by kernel_rfl
set_option maxRecDepth 100000 in
theorem r_d949 : run Go.Proofs.Ythggbkoccgigaaa.pairDrawn.d949 = true := by kernel_rfl
set_option maxRecDepth 100000 in
theorem r_d953 : run Go.Proofs.Ythggbkoccgigaaa.pairDrawn.d953 = true := by kernel_rfl
set_option maxRecDepth 100000 in
theorem r_d957 : run Go.Proofs.Ythggbkoccgigaaa.pairDrawn.d957 = true := by kernel_rfl
end Go.Proofs.Ythggbkoccgigaaa.fnTableFullRuns
