/- Runs of the program at a seat. -/
import Derived.Test.YthggbkoccgigaaaFnTableFullP
namespace Go.Proofs.Ythggbkoccgigaaa.fnTableFullRuns
open Go Go.Eng
set_option linter.unusedVariables false
set_option linter.unusedSectionVars false
set_option linter.unusedSimpArgs false
set_option maxRecDepth 100000 in
theorem r_d3 : run Go.Proofs.Ythggbkoccgigaaa.pairDrawn.d3 = true := by kernel_rfl
set_option maxRecDepth 100000 in
theorem r_d7 : run Go.Proofs.Ythggbkoccgigaaa.pairDrawn.d7 = true := by kernel_rfl
set_option maxRecDepth 100000 in
theorem r_d11 : run Go.Proofs.Ythggbkoccgigaaa.pairDrawn.d11 = true := by kernel_rfl
set_option maxRecDepth 100000 in
theorem r_d15 : run Go.Proofs.Ythggbkoccgigaaa.pairDrawn.d15 = true := by kernel_rfl
set_option maxRecDepth 100000 in
theorem r_d19 : run Go.Proofs.Ythggbkoccgigaaa.pairDrawn.d19 = true := by kernel_rfl
set_option maxRecDepth 100000 in
theorem r_d23 : run Go.Proofs.Ythggbkoccgigaaa.pairDrawn.d23 = true := by kernel_rfl
set_option maxRecDepth 100000 in
theorem r_d27 : run Go.Proofs.Ythggbkoccgigaaa.pairDrawn.d27 = true := by kernel_rfl
set_option maxRecDepth 100000 in
theorem r_d31 : run Go.Proofs.Ythggbkoccgigaaa.pairDrawn.d31 = true := by kernel_rfl
set_option maxRecDepth 100000 in
theorem r_d35 : run Go.Proofs.Ythggbkoccgigaaa.pairDrawn.d35 = true := by kernel_rfl
set_option maxRecDepth 100000 in
theorem r_d39 : run Go.Proofs.Ythggbkoccgigaaa.pairDrawn.d39 = true := by kernel_rfl
set_option maxRecDepth 100000 in
theorem r_d43 : run Go.Proofs.Ythggbkoccgigaaa.pairDrawn.d43 = true := by kernel_rfl
set_option maxRecDepth 100000 in
theorem r_d47 : run Go.Proofs.Ythggbkoccgigaaa.pairDrawn.d47 = true := by kernel_rfl
set_option maxRecDepth 100000 in
theorem r_d51 : run Go.Proofs.Ythggbkoccgigaaa.pairDrawn.d51 = true := by kernel_rfl
set_option maxRecDepth 100000 in
theorem r_d55 : run Go.Proofs.Ythggbkoccgigaaa.pairDrawn.d55 = true := by kernel_rfl
set_option maxRecDepth 100000 in
theorem r_d59 : run Go.Proofs.Ythggbkoccgigaaa.pairDrawn.d59 = true := by kernel_rfl
set_option maxRecDepth 100000 in
theorem r_d63 : run Go.Proofs.Ythggbkoccgigaaa.pairDrawn.d63 = true := by kernel_rfl
set_option maxRecDepth 100000 in
theorem r_d67 : run Go.Proofs.Ythggbkoccgigaaa.pairDrawn.d67 = true := by kernel_rfl
set_option maxRecDepth 100000 in
theorem r_d71 : run Go.Proofs.Ythggbkoccgigaaa.pairDrawn.d71 = true := by kernel_rfl
set_option maxRecDepth 100000 in
theorem r_d75 : run Go.Proofs.Ythggbkoccgigaaa.pairDrawn.d75 = true := by kernel_rfl
set_option maxRecDepth 100000 in
theorem r_d79 : run Go.Proofs.Ythggbkoccgigaaa.pairDrawn.d79 = true := by kernel_rfl
set_option maxRecDepth 100000 in
theorem r_d83 : run Go.Proofs.Ythggbkoccgigaaa.pairDrawn.d83 = true := by kernel_rfl
set_option maxRecDepth 100000 in
theorem r_d87 : run Go.Proofs.Ythggbkoccgigaaa.pairDrawn.d87 = true := by kernel_rfl
set_option maxRecDepth 100000 in
theorem r_d91 : run Go.Proofs.Ythggbkoccgigaaa.pairDrawn.d91 = true := by kernel_rfl
set_option maxRecDepth 100000 in
theorem r_d95 : run Go.Proofs.Ythggbkoccgigaaa.pairDrawn.d95 = true := by kernel_rfl
set_option maxRecDepth 100000 in
theorem r_d99 : run Go.Proofs.Ythggbkoccgigaaa.pairDrawn.d99 = true := by kernel_rfl
set_option maxRecDepth 100000 in
theorem r_d103 : run Go.Proofs.Ythggbkoccgigaaa.pairDrawn.d103 = true := by kernel_rfl
set_option maxRecDepth 100000 in
theorem r_d107 : run Go.Proofs.Ythggbkoccgigaaa.pairDrawn.d107 = true := by kernel_rfl
set_option maxRecDepth 100000 in
theorem r_d111 : run Go.Proofs.Ythggbkoccgigaaa.pairDrawn.d111 = true := by kernel_rfl
set_option maxRecDepth 100000 in
theorem r_d115 : run Go.Proofs.Ythggbkoccgigaaa.pairDrawn.d115 = true := by kernel_rfl
set_option maxRecDepth 100000 in
theorem r_d119 : run Go.Proofs.Ythggbkoccgigaaa.pairDrawn.d119 = true := by kernel_rfl
set_option maxRecDepth 100000 in
theorem r_d123 : run Go.Proofs.Ythggbkoccgigaaa.pairDrawn.d123 = true := by kernel_rfl
set_option maxRecDepth 100000 in
theorem r_d127 : run Go.Proofs.Ythggbkoccgigaaa.pairDrawn.d127 = true := by kernel_rfl
set_option maxRecDepth 100000 in
theorem r_d131 : run Go.Proofs.Ythggbkoccgigaaa.pairDrawn.d131 = true := by kernel_rfl
set_option maxRecDepth 100000 in
theorem r_d135 : run Go.Proofs.Ythggbkoccgigaaa.pairDrawn.d135 = true := by kernel_rfl
set_option maxRecDepth 100000 in
theorem r_d139 : run Go.Proofs.Ythggbkoccgigaaa.pairDrawn.d139 = true := by kernel_rfl
set_option maxRecDepth 100000 in
theorem r_d143 : run Go.Proofs.Ythggbkoccgigaaa.pairDrawn.d143 = true := by kernel_rfl
set_option maxRecDepth 100000 in
theorem r_d147 : run Go.Proofs.Ythggbkoccgigaaa.pairDrawn.d147 = true := by kernel_rfl
set_option maxRecDepth 100000 in
theorem r_d151 : run Go.Proofs.Ythggbkoccgigaaa.pairDrawn.d151 = true := by kernel_rfl
set_option maxRecDepth 100000 in
theorem r_d155 : run Go.Proofs.Ythggbkoccgigaaa.pairDrawn.d155 = true := by kernel_rfl
set_option maxRecDepth 100000 in
theorem r_d159 : run Go.Proofs.Ythggbkoccgigaaa.pairDrawn.d159 = true := by kernel_rfl
set_option maxRecDepth 100000 in
theorem r_d163 : run Go.Proofs.Ythggbkoccgigaaa.pairDrawn.d163 = true := by kernel_rfl
set_option maxRecDepth 100000 in
theorem r_d167 : run Go.Proofs.Ythggbkoccgigaaa.pairDrawn.d167 = true := by kernel_rfl
set_option maxRecDepth 100000 in
theorem r_d171 : run Go.Proofs.Ythggbkoccgigaaa.pairDrawn.d171 = true := by kernel_rfl
set_option maxRecDepth 100000 in
theorem r_d175 : run Go.Proofs.Ythggbkoccgigaaa.pairDrawn.d175 = true := by kernel_rfl
set_option maxRecDepth 100000 in
theorem r_d179 : run Go.Proofs.Ythggbkoccgigaaa.pairDrawn.d179 = true := by kernel_rfl
set_option maxRecDepth 100000 in
theorem r_d183 : run Go.Proofs.Ythggbkoccgigaaa.pairDrawn.d183 = true := by kernel_rfl
set_option maxRecDepth 100000 in
theorem r_d187 : run Go.Proofs.Ythggbkoccgigaaa.pairDrawn.d187 = true := by kernel_rfl
set_option maxRecDepth 100000 in
theorem r_d191 : run Go.Proofs.Ythggbkoccgigaaa.pairDrawn.d191 = true := by kernel_rfl
set_option maxRecDepth 100000 in
theorem r_d195 : run Go.Proofs.Ythggbkoccgigaaa.pairDrawn.d195 = true := by kernel_rfl
set_option maxRecDepth 100000 in
theorem r_d199 : run Go.Proofs.Ythggbkoccgigaaa.pairDrawn.d199 = true := by kernel_rfl
set_option maxRecDepth 100000 in
theorem r_d203 : run Go.Proofs.Ythggbkoccgigaaa.pairDrawn.d203 = true := by kernel_rfl
set_option maxRecDepth 100000 in
theorem r_d207 : run Go.Proofs.Ythggbkoccgigaaa.pairDrawn.d207 = true := by kernel_rfl
set_option maxRecDepth 100000 in
theorem r_d211 : run Go.Proofs.Ythggbkoccgigaaa.pairDrawn.d211 = true := by kernel_rfl
set_option maxRecDepth 100000 in
theorem r_d215 : run Go.Proofs.Ythggbkoccgigaaa.pairDrawn.d215 = true := by kernel_rfl
set_option maxRecDepth 100000 in
theorem r_d219 : run Go.Proofs.Ythggbkoccgigaaa.pairDrawn.d219 = true := by kernel_rfl
set_option maxRecDepth 100000 in
theorem r_d223 : run Go.Proofs.Ythggbkoccgigaaa.pairDrawn.d223 = true := by kernel_rfl
set_option maxRecDepth 100000 in
theorem r_d227 : run Go.Proofs.Ythggbkoccgigaaa.pairDrawn.d227 = true := by kernel_rfl
set_option maxRecDepth 100000 in
theorem r_d231 : run Go.Proofs.Ythggbkoccgigaaa.pairDrawn.d231 = true := by kernel_rfl
set_option maxRecDepth 100000 in
theorem r_d235 : run Go.Proofs.Ythggbkoccgigaaa.pairDrawn.d235 = true := by kernel_rfl
set_option maxRecDepth 100000 in
theorem r_d239 : run Go.Proofs.Ythggbkoccgigaaa.pairDrawn.d239 = true := by kernel_rfl
set_option maxRecDepth 100000 in
theorem r_d243 : run Go.Proofs.Ythggbkoccgigaaa.pairDrawn.d243 = true := by kernel_rfl
set_option maxRecDepth 100000 in
theorem r_d247 : run Go.Proofs.Ythggbkoccgigaaa.pairDrawn.d247 = true := by kernel_rfl
set_option maxRecDepth 100000 in
theorem r_d251 : run Go.Proofs.Ythggbkoccgigaaa.pairDrawn.d251 = true := by kernel_rfl
set_option maxRecDepth 100000 in
theorem r_d255 : run Go.Proofs.Ythggbkoccgigaaa.pairDrawn.d255 = true := by kernel_rfl
set_option maxRecDepth 100000 in
theorem r_d259 : run Go.Proofs.Ythggbkoccgigaaa.pairDrawn.d259 = true := by kernel_rfl
set_option maxRecDepth 100000 in
theorem r_d263 : run Go.Proofs.Ythggbkoccgigaaa.pairDrawn.d263 = true := by kernel_rfl
set_option maxRecDepth 100000 in
theorem r_d267 : run Go.Proofs.Ythggbkoccgigaaa.pairDrawn.d267 = true := by kernel_rfl
set_option maxRecDepth 100000 in
theorem r_d271 : run Go.Proofs.Ythggbkoccgigaaa.pairDrawn.d271 = true := by kernel_rfl
set_option maxRecDepth 100000 in
theorem r_d275 : run Go.Proofs.Ythggbkoccgigaaa.pairDrawn.d275 = true := by kernel_rfl
set_option maxRecDepth 100000 in
theorem r_d279 : run Go.Proofs.Ythggbkoccgigaaa.pairDrawn.d279 = true := by kernel_rfl
set_option maxRecDepth 100000 in
theorem r_d283 : run Go.Proofs.Ythggbkoccgigaaa.pairDrawn.d283 = true := by kernel_rfl
set_option maxRecDepth 100000 in
theorem r_d287 : run Go.Proofs.Ythggbkoccgigaaa.pairDrawn.d287 = true := by kernel_rfl
set_option maxRecDepth 100000 in
theorem r_d291 : run Go.Proofs.Ythggbkoccgigaaa.pairDrawn.d291 = true := by kernel_rfl
set_option maxRecDepth 100000 in
theorem r_d295 : run Go.Proofs.Ythggbkoccgigaaa.pairDrawn.d295 = true := by kernel_rfl
set_option maxRecDepth 100000 in
theorem r_d299 : run Go.Proofs.Ythggbkoccgigaaa.pairDrawn.d299 = true := by kernel_rfl
set_option maxRecDepth 100000 in
theorem r_d303 : run Go.Proofs.Ythggbkoccgigaaa.pairDrawn.d303 = true := by kernel_rfl
set_option maxRecDepth 100000 in
theorem r_d307 : run Go.Proofs.Ythggbkoccgigaaa.pairDrawn.d307 = true := by kernel_rfl
set_option maxRecDepth 100000 in
theorem r_d311 : run Go.Proofs.Ythggbkoccgigaaa.pairDrawn.d311 = true := by kernel_rfl
set_option maxRecDepth 100000 in
theorem r_d315 : run Go.Proofs.Ythggbkoccgigaaa.pairDrawn.d315 = true := by kernel_rfl
set_option maxRecDepth 100000 in
theorem r_d319 : run Go.Proofs.Ythggbkoccgigaaa.pairDrawn.d319 = true := by kernel_rfl
set_option maxRecDepth 100000 in
theorem r_d323 : run Go.Proofs.Ythggbkoccgigaaa.pairDrawn.d323 = true := by kernel_rfl
set_option maxRecDepth 100000 in
theorem r_d327 : run Go.Proofs.Ythggbkoccgigaaa.pairDrawn.d327 = true := by kernel_rfl
set_option maxRecDepth 100000 in
theorem r_d331 : run Go.Proofs.Ythggbkoccgigaaa.pairDrawn.d331 = true := by kernel_rfl
set_option maxRecDepth 100000 in
theorem r_d335 : run Go.Proofs.Ythggbkoccgigaaa.pairDrawn.d335 = true := by kernel_rfl
set_option maxRecDepth 100000 in
theorem r_d339 : run Go.Proofs.Ythggbkoccgigaaa.pairDrawn.d339 = true := by kernel_rfl
set_option maxRecDepth 100000 in
theorem r_d343 : run Go.Proofs.Ythggbkoccgigaaa.pairDrawn.d343 = true := by kernel_rfl
set_option maxRecDepth 100000 in
theorem r_d347 : run Go.Proofs.Ythggbkoccgigaaa.pairDrawn.d347 = true := by kernel_rfl
set_option maxRecDepth 100000 in
theorem r_d351 : run Go.Proofs.Ythggbkoccgigaaa.pairDrawn.d351 = true := by kernel_rfl
set_option maxRecDepth 100000 in
theorem r_d355 : run Go.Proofs.Ythggbkoccgigaaa.pairDrawn.d355 = true := by kernel_rfl
set_option maxRecDepth 100000 in
theorem r_d359 : run Go.Proofs.Ythggbkoccgigaaa.pairDrawn.d359 = true := by kernel_rfl
set_option maxRecDepth 100000 in
theorem r_d363 : run Go.Proofs.Ythggbkoccgigaaa.pairDrawn.d363 = true := by kernel_rfl
set_option maxRecDepth 100000 in
theorem r_d367 : run Go.Proofs.Ythggbkoccgigaaa.pairDrawn.d367 = true := by kernel_rfl
set_option maxRecDepth 100000 in
theorem r_d371 : run Go.Proofs.Ythggbkoccgigaaa.pairDrawn.d371 = true := by kernel_rfl
set_option maxRecDepth 100000 in
theorem r_d375 : run Go.Proofs.Ythggbkoccgigaaa.pairDrawn.d375 = true := by kernel_rfl
set_option maxRecDepth 100000 in
theorem r_d379 : run Go.Proofs.Ythggbkoccgigaaa.pairDrawn.d379 = true := by kernel_rfl
set_option maxRecDepth 100000 in
theorem r_d383 : run Go.Proofs.Ythggbkoccgigaaa.pairDrawn.d383 = true := by kernel_rfl
set_option maxRecDepth 100000 in
theorem r_d387 : run Go.Proofs.Ythggbkoccgigaaa.pairDrawn.d387 = true := by kernel_rfl
set_option maxRecDepth 100000 in
theorem r_d391 : run Go.Proofs.Ythggbkoccgigaaa.pairDrawn.d391 = true := by kernel_rfl
set_option maxRecDepth 100000 in
theorem r_d395 : run Go.Proofs.Ythggbkoccgigaaa.pairDrawn.d395 = true := by kernel_rfl
set_option maxRecDepth 100000 in
theorem r_d399 : run Go.Proofs.Ythggbkoccgigaaa.pairDrawn.d399 = true := by kernel_rfl
set_option maxRecDepth 100000 in
theorem r_d403 : run Go.Proofs.Ythggbkoccgigaaa.pairDrawn.d403 = true := by kernel_rfl
set_option maxRecDepth 100000 in
theorem r_d407 : run Go.Proofs.Ythggbkoccgigaaa.pairDrawn.d407 = true := by kernel_rfl
set_option maxRecDepth 100000 in
theorem r_d411 : run Go.Proofs.Ythggbkoccgigaaa.pairDrawn.d411 = true := by kernel_rfl
set_option maxRecDepth 100000 in
theorem r_d415 : run Go.Proofs.Ythggbkoccgigaaa.pairDrawn.d415 = true := by kernel_rfl
set_option maxRecDepth 100000 in
theorem r_d419 : run Go.Proofs.Ythggbkoccgigaaa.pairDrawn.d419 = true := by kernel_rfl
set_option maxRecDepth 100000 in
theorem r_d423 : run Go.Proofs.Ythggbkoccgigaaa.pairDrawn.d423 = true := by kernel_rfl
set_option maxRecDepth 100000 in
theorem r_d427 : run Go.Proofs.Ythggbkoccgigaaa.pairDrawn.d427 = true := by kernel_rfl
set_option maxRecDepth 100000 in
theorem r_d431 : run Go.Proofs.Ythggbkoccgigaaa.pairDrawn.d431 = true := by kernel_rfl
set_option maxRecDepth 100000 in
theorem r_d435 : run Go.Proofs.Ythggbkoccgigaaa.pairDrawn.d435 = true := by kernel_rfl
set_option maxRecDepth 100000 in
theorem r_d439 : run Go.Proofs.Ythggbkoccgigaaa.pairDrawn.d439 = true := by kernel_rfl
set_option maxRecDepth 100000 in
theorem r_d443 : run Go.Proofs.Ythggbkoccgigaaa.pairDrawn.d443 = true := by kernel_rfl
set_option maxRecDepth 100000 in
theorem r_d447 : run Go.Proofs.Ythggbkoccgigaaa.pairDrawn.d447 = true := by kernel_rfl
set_option maxRecDepth 100000 in
theorem r_d451 : run Go.Proofs.Ythggbkoccgigaaa.pairDrawn.d451 = true := by kernel_rfl
set_option maxRecDepth 100000 in
theorem r_d455 : run Go.Proofs.Ythggbkoccgigaaa.pairDrawn.d455 = true := by kernel_rfl
set_option maxRecDepth 100000 in
theorem r_d459 : run Go.Proofs.Ythggbkoccgigaaa.pairDrawn.d459 = true := by kernel_rfl
set_option maxRecDepth 100000 in
theorem r_d463 : run Go.Proofs.Ythggbkoccgigaaa.pairDrawn.d463 = true := by kernel_rfl
set_option maxRecDepth 100000 in
theorem r_d467 : run Go.Proofs.Ythggbkoccgigaaa.pairDrawn.d467 = true := by kernel_rfl
set_option maxRecDepth 100000 in
theorem r_d471 : run Go.Proofs.Ythggbkoccgigaaa.pairDrawn.d471 = true := by kernel_rfl
set_option maxRecDepth 100000 in
theorem r_d475 : run Go.Proofs.Ythggbkoccgigaaa.pairDrawn.d475 = true := by kernel_rfl
set_option maxRecDepth 100000 in
theorem r_d479 : run Go.Proofs.Ythggbkoccgigaaa.pairDrawn.d479 = true := by kernel_rfl
set_option maxRecDepth 100000 in
theorem r_d483 : run Go.Proofs.Ythggbkoccgigaaa.pairDrawn.d483 = true := by kernel_rfl
set_option maxRecDepth 100000 in
theorem r_d487 : run Go.Proofs.Ythggbkoccgigaaa.pairDrawn.d487 = true := by kernel_rfl
set_option maxRecDepth 100000 in
theorem r_d491 : run Go.Proofs.Ythggbkoccgigaaa.pairDrawn.d491 = true := by kernel_rfl
set_option maxRecDepth 100000 in
theorem r_d495 : run Go.Proofs.Ythggbkoccgigaaa.pairDrawn.d495 = true := by kernel_rfl
set_option maxRecDepth 100000 in
theorem r_d499 : run Go.Proofs.Ythggbkoccgigaaa.pairDrawn.d499 = true := by kernel_rfl
set_option maxRecDepth 100000 in
theorem r_d503 : run Go.Proofs.Ythggbkoccgigaaa.pairDrawn.d503 = true := by kernel_rfl
set_option maxRecDepth 100000 in
theorem r_d507 : run Go.Proofs.Ythggbkoccgigaaa.pairDrawn.d507 = true := by kernel_rfl
set_option maxRecDepth 100000 in
theorem r_d511 : run Go.Proofs.Ythggbkoccgigaaa.pairDrawn.d511 = true := by kernel_rfl
set_option maxRecDepth 100000 in
theorem r_d515 : run Go.Proofs.Ythggbkoccgigaaa.pairDrawn.d515 = true := by kernel_rfl
set_option maxRecDepth 100000 in
theorem r_d519 : run Go.Proofs.Ythggbkoccgigaaa.pairDrawn.d519 = true := by kernel_rfl
set_option maxRecDepth 100000 in
theorem r_d523 : run Go.Proofs.Ythggbkoccgigaaa.pairDrawn.d523 = true := by kernel_rfl
set_option maxRecDepth 100000 in
theorem r_d527 : run Go.Proofs.Ythggbkoccgigaaa.pairDrawn.d527 = true := by kernel_rfl
set_option maxRecDepth 100000 in
theorem r_d531 : run Go.Proofs.Ythggbkoccgigaaa.pairDrawn.d531 = true := by kernel_rfl
set_option maxRecDepth 100000 in
theorem r_d535 : run Go.Proofs.Ythggbkoccgigaaa.pairDrawn.d535 = true := by kernel_rfl
set_option maxRecDepth 100000 in
theorem r_d539 : run Go.Proofs.Ythggbkoccgigaaa.pairDrawn.d539 = true := by kernel_rfl
set_option maxRecDepth 100000 in
theorem r_d543 : run Go.Proofs.Ythggbkoccgigaaa.pairDrawn.d543 = true := by kernel_rfl
set_option maxRecDepth 100000 in
theorem r_d547 : run Go.Proofs.Ythggbkoccgigaaa.pairDrawn.d547 = true := by kernel_rfl
set_option maxRecDepth 100000 in
theorem r_d551 : run Go.Proofs.Ythggbkoccgigaaa.pairDrawn.d551 = true := by kernel_rfl
set_option maxRecDepth 100000 in
theorem r_d555 : run Go.Proofs.Ythggbkoccgigaaa.pairDrawn.d555 = true := by kernel_rfl
set_option maxRecDepth 100000 in
theorem r_d559 : run Go.Proofs.Ythggbkoccgigaaa.pairDrawn.d559 = true := by kernel_rfl
set_option maxRecDepth 100000 in
theorem r_d563 : run Go.Proofs.Ythggbkoccgigaaa.pairDrawn.d563 = true := by kernel_rfl
set_option maxRecDepth 100000 in
theorem r_d567 : run Go.Proofs.Ythggbkoccgigaaa.pairDrawn.d567 = true := by kernel_rfl
set_option maxRecDepth 100000 in
theorem r_d571 : run Go.Proofs.Ythggbkoccgigaaa.pairDrawn.d571 = true := by kernel_rfl
set_option maxRecDepth 100000 in
theorem r_d575 : run Go.Proofs.Ythggbkoccgigaaa.pairDrawn.d575 = true := by kernel_rfl
set_option maxRecDepth 100000 in
theorem r_d579 : run Go.Proofs.Ythggbkoccgigaaa.pairDrawn.d579 = true := by kernel_rfl
set_option maxRecDepth 100000 in
theorem r_d583 : run Go.Proofs.Ythggbkoccgigaaa.pairDrawn.d583 = true := by kernel_rfl
set_option maxRecDepth 100000 in
theorem r_d587 : run Go.Proofs.Ythggbkoccgigaaa.pairDrawn.d587 = true := by kernel_rfl
set_option maxRecDepth 100000 in
theorem r_d591 : run Go.Proofs.Ythggbkoccgigaaa.pairDrawn.d591 = true := by kernel_rfl
set_option maxRecDepth 100000 in
theorem r_d595 : run Go.Proofs.Ythggbkoccgigaaa.pairDrawn.d595 = true := by kernel_rfl
set_option maxRecDepth 100000 in
theorem r_d599 : run Go.Proofs.Ythggbkoccgigaaa.pairDrawn.d599 = true := by kernel_rfl
set_option maxRecDepth 100000 in
theorem r_d603 : run Go.Proofs.Ythggbkoccgigaaa.pairDrawn.d603 = true := by kernel_rfl
set_option maxRecDepth 100000 in
theorem r_d607 : run Go.Proofs.Ythggbkoccgigaaa.pairDrawn.d607 = true := by kernel_rfl
set_option maxRecDepth 100000 in
theorem r_d611 : run Go.Proofs.Ythggbkoccgigaaa.pairDrawn.d611 = true := by kernel_rfl
set_option maxRecDepth 100000 in
theorem r_d615 : run Go.Proofs.Ythggbkoccgigaaa.pairDrawn.d615 = true := by kernel_rfl
set_option maxRecDepth 100000 in
theorem r_d619 : run Go.Proofs.Ythggbkoccgigaaa.pairDrawn.d619 = true := by kernel_rfl
set_option maxRecDepth 100000 in
theorem r_d623 : run Go.Proofs.Ythggbkoccgigaaa.pairDrawn.d623 = true := by kernel_rfl
set_option maxRecDepth 100000 in
theorem r_d627 : run Go.Proofs.Ythggbkoccgigaaa.pairDrawn.d627 = true := by kernel_rfl
set_option maxRecDepth 100000 in
theorem r_d631 : run Go.Proofs.Ythggbkoccgigaaa.pairDrawn.d631 = true := by kernel_rfl
set_option maxRecDepth 100000 in
theorem r_d635 : run Go.Proofs.Ythggbkoccgigaaa.pairDrawn.d635 = true := by kernel_rfl
set_option maxRecDepth 100000 in
theorem r_d639 : run Go.Proofs.Ythggbkoccgigaaa.pairDrawn.d639 = true := by kernel_rfl
set_option maxRecDepth 100000 in
theorem r_d643 : run Go.Proofs.Ythggbkoccgigaaa.pairDrawn.d643 = true := by kernel_rfl
set_option maxRecDepth 100000 in
theorem r_d647 : run Go.Proofs.Ythggbkoccgigaaa.pairDrawn.d647 = true := by kernel_rfl
set_option maxRecDepth 100000 in
theorem r_d651 : run Go.Proofs.Ythggbkoccgigaaa.pairDrawn.d651 = true := by kernel_rfl
set_option maxRecDepth 100000 in
theorem r_d655 : run Go.Proofs.Ythggbkoccgigaaa.pairDrawn.d655 = true := by kernel_rfl
set_option maxRecDepth 100000 in
theorem r_d659 : run Go.Proofs.Ythggbkoccgigaaa.pairDrawn.d659 = true := by kernel_rfl
set_option maxRecDepth 100000 in
theorem r_d663 : run Go.Proofs.Ythggbkoccgigaaa.pairDrawn.d663 = true := by kernel_rfl
set_option maxRecDepth 100000 in
theorem r_d667 : run Go.Proofs.Ythggbkoccgigaaa.pairDrawn.d667 = true := by kernel_rfl
set_option maxRecDepth 100000 in
theorem r_d671 : run Go.Proofs.Ythggbkoccgigaaa.pairDrawn.d671 = true := by kernel_rfl
set_option maxRecDepth 100000 in
theorem r_d675 : run Go.Proofs.Ythggbkoccgigaaa.pairDrawn.d675 = true := by kernel_rfl
set_option maxRecDepth 100000 in
theorem r_d679 : run Go.Proofs.Ythggbkoccgigaaa.pairDrawn.d679 = true := by kernel_rfl
set_option maxRecDepth 100000 in
theorem r_d683 : run Go.Proofs.Ythggbkoccgigaaa.pairDrawn.d683 = true := by kernel_rfl
set_option maxRecDepth 100000 in
theorem r_d687 : run Go.Proofs.Ythggbkoccgigaaa.pairDrawn.d687 = true := by kernel_rfl
set_option maxRecDepth 100000 in
theorem r_d691 : run Go.Proofs.Ythggbkoccgigaaa.pairDrawn.d691 = true := by kernel_rfl
set_option maxRecDepth 100000 in
theorem r_d695 : run Go.Proofs.Ythggbkoccgigaaa.pairDrawn.d695 = true := by kernel_rfl
set_option maxRecDepth 100000 in
theorem r_d699 : run Go.Proofs.Ythggbkoccgigaaa.pairDrawn.d699 = true := by kernel_rfl
set_option maxRecDepth 100000 in
theorem r_d703 : run Go.Proofs.Ythggbkoccgigaaa.pairDrawn.d703 = true := by kernel_rfl
set_option maxRecDepth 100000 in
theorem r_d707 : run Go.Proofs.Ythggbkoccgigaaa.pairDrawn.d707 = true := by kernel_rfl
set_option maxRecDepth 100000 in
theorem r_d711 : run Go.Proofs.Ythggbkoccgigaaa.pairDrawn.d711 = true := by kernel_rfl
set_option maxRecDepth 100000 in
theorem r_d715 : run Go.Proofs.Ythggbkoccgigaaa.pairDrawn.d715 = true := by kernel_rfl
set_option maxRecDepth 100000 in
theorem r_d719 : run Go.Proofs.Ythggbkoccgigaaa.pairDrawn.d719 = true := by kernel_rfl
set_option maxRecDepth 100000 in
theorem r_d723 : run Go.Proofs.Ythggbkoccgigaaa.pairDrawn.d723 = true := by kernel_rfl
set_option maxRecDepth 100000 in
theorem r_d727 : run Go.Proofs.Ythggbkoccgigaaa.pairDrawn.d727 = true := by kernel_rfl
set_option maxRecDepth 100000 in
theorem r_d731 : run Go.Proofs.Ythggbkoccgigaaa.pairDrawn.d731 = true := by kernel_rfl
set_option maxRecDepth 100000 in
theorem r_d735 : run Go.Proofs.Ythggbkoccgigaaa.pairDrawn.d735 = true := by kernel_rfl
set_option maxRecDepth 100000 in
theorem r_d739 : run Go.Proofs.Ythggbkoccgigaaa.pairDrawn.d739 = true := by kernel_rfl
set_option maxRecDepth 100000 in
theorem r_d743 : run Go.Proofs.Ythggbkoccgigaaa.pairDrawn.d743 = true := by kernel_rfl
set_option maxRecDepth 100000 in
theorem r_d747 : run Go.Proofs.Ythggbkoccgigaaa.pairDrawn.d747 = true := by kernel_rfl
set_option maxRecDepth 100000 in
theorem r_d751 : run Go.Proofs.Ythggbkoccgigaaa.pairDrawn.d751 = true := by kernel_rfl
set_option maxRecDepth 100000 in
theorem r_d755 : run Go.Proofs.Ythggbkoccgigaaa.pairDrawn.d755 = true := by kernel_rfl
set_option maxRecDepth 100000 in
theorem r_d759 : run Go.Proofs.Ythggbkoccgigaaa.pairDrawn.d759 = true := by kernel_rfl
set_option maxRecDepth 100000 in
theorem r_d763 : run Go.Proofs.Ythggbkoccgigaaa.pairDrawn.d763 = true := by kernel_rfl
set_option maxRecDepth 100000 in
theorem r_d767 : run Go.Proofs.Ythggbkoccgigaaa.pairDrawn.d767 = true := by kernel_rfl
set_option maxRecDepth 100000 in
theorem r_d771 : run Go.Proofs.Ythggbkoccgigaaa.pairDrawn.d771 = true := by kernel_rfl
set_option maxRecDepth 100000 in
theorem r_d775 : run Go.Proofs.Ythggbkoccgigaaa.pairDrawn.d775 = true := by kernel_rfl
set_option maxRecDepth 100000 in
theorem r_d779 : run Go.Proofs.Ythggbkoccgigaaa.pairDrawn.d779 = true := by kernel_rfl
set_option maxRecDepth 100000 in
theorem r_d783 : run Go.Proofs.Ythggbkoccgigaaa.pairDrawn.d783 = true := by kernel_rfl
set_option maxRecDepth 100000 in
theorem r_d787 : run Go.Proofs.Ythggbkoccgigaaa.pairDrawn.d787 = true := by kernel_rfl
set_option maxRecDepth 100000 in
theorem r_d791 : run Go.Proofs.Ythggbkoccgigaaa.pairDrawn.d791 = true := by kernel_rfl
set_option maxRecDepth 100000 in
theorem r_d795 : run Go.Proofs.Ythggbkoccgigaaa.pairDrawn.d795 = true := by kernel_rfl
set_option maxRecDepth 100000 in
theorem r_d799 : run Go.Proofs.Ythggbkoccgigaaa.pairDrawn.d799 = true := by kernel_rfl
set_option maxRecDepth 100000 in
theorem r_d803 : run Go.Proofs.Ythggbkoccgigaaa.pairDrawn.d803 = true := by kernel_rfl
set_option maxRecDepth 100000 in
theorem r_d807 : run Go.Proofs.Ythggbkoccgigaaa.pairDrawn.d807 = true := by kernel_rfl
set_option maxRecDepth 100000 in
theorem r_d811 : run Go.Proofs.Ythggbkoccgigaaa.pairDrawn.d811 = true := by kernel_rfl
set_option maxRecDepth 100000 in
theorem r_d815 : run Go.Proofs.Ythggbkoccgigaaa.pairDrawn.d815 = true := by kernel_rfl
set_option maxRecDepth 100000 in
theorem r_d819 : run Go.Proofs.Ythggbkoccgigaaa.pairDrawn.d819 = true := by kernel_rfl
set_option maxRecDepth 100000 in
theorem r_d823 : run Go.Proofs.Ythggbkoccgigaaa.pairDrawn.d823 = true := by kernel_rfl
set_option maxRecDepth 100000 in
theorem r_d827 : run Go.Proofs.Ythggbkoccgigaaa.pairDrawn.d827 = true := by kernel_rfl
set_option maxRecDepth 100000 in
theorem r_d831 : run Go.Proofs.Ythggbkoccgigaaa.pairDrawn.d831 = true := by kernel_rfl
set_option maxRecDepth 100000 in
theorem r_d835 : run Go.Proofs.Ythggbkoccgigaaa.pairDrawn.d835 = true := by kernel_rfl
set_option maxRecDepth 100000 in
theorem r_d839 : run Go.Proofs.Ythggbkoccgigaaa.pairDrawn.d839 = true := by kernel_rfl
set_option maxRecDepth 100000 in
theorem r_d843 : run Go.Proofs.Ythggbkoccgigaaa.pairDrawn.d843 = true := by kernel_rfl
set_option maxRecDepth 100000 in
theorem r_d847 : run Go.Proofs.Ythggbkoccgigaaa.pairDrawn.d847 = true := by kernel_rfl
set_option maxRecDepth 100000 in
theorem r_d851 : run Go.Proofs.Ythggbkoccgigaaa.pairDrawn.d851 = true := by kernel_rfl
set_option maxRecDepth 100000 in
theorem r_d855 : run Go.Proofs.Ythggbkoccgigaaa.pairDrawn.d855 = true := by kernel_rfl
set_option maxRecDepth 100000 in
theorem r_d859 : run Go.Proofs.Ythggbkoccgigaaa.pairDrawn.d859 = true := by kernel_rfl
set_option maxRecDepth 100000 in
theorem r_d863 : run Go.Proofs.Ythggbkoccgigaaa.pairDrawn.d863 = true := by kernel_rfl
set_option maxRecDepth 100000 in
theorem r_d867 : run Go.Proofs.Ythggbkoccgigaaa.pairDrawn.d867 = true := by kernel_rfl
set_option maxRecDepth 100000 in
theorem r_d871 : run Go.Proofs.Ythggbkoccgigaaa.pairDrawn.d871 = true := by kernel_rfl
set_option maxRecDepth 100000 in
theorem r_d875 : run Go.Proofs.Ythggbkoccgigaaa.pairDrawn.d875 = true := by kernel_rfl
set_option maxRecDepth 100000 in
theorem r_d879 : run Go.Proofs.Ythggbkoccgigaaa.pairDrawn.d879 = true := by kernel_rfl
set_option maxRecDepth 100000 in
theorem r_d883 : run Go.Proofs.Ythggbkoccgigaaa.pairDrawn.d883 = true := by kernel_rfl
set_option maxRecDepth 100000 in
theorem r_d887 : run Go.Proofs.Ythggbkoccgigaaa.pairDrawn.d887 = true := by kernel_rfl
set_option maxRecDepth 100000 in
theorem r_d891 : run Go.Proofs.Ythggbkoccgigaaa.pairDrawn.d891 = true := by kernel_rfl
set_option maxRecDepth 100000 in
theorem r_d895 : run Go.Proofs.Ythggbkoccgigaaa.pairDrawn.d895 = true := by kernel_rfl
set_option maxRecDepth 100000 in
theorem r_d899 : run Go.Proofs.Ythggbkoccgigaaa.pairDrawn.d899 = true := by kernel_rfl
set_option maxRecDepth 100000 in
theorem r_d903 : run Go.Proofs.Ythggbkoccgigaaa.pairDrawn.d903 = true := by kernel_rfl
set_option maxRecDepth 100000 in
theorem r_d907 : run Go.Proofs.Ythggbkoccgigaaa.pairDrawn.d907 = true := by kernel_rfl
set_option maxRecDepth 100000 in
theorem r_d911 : run Go.Proofs.Ythggbkoccgigaaa.pairDrawn.d911 = true := by kernel_rfl
set_option maxRecDepth 100000 in
theorem r_d915 : run Go.Proofs.Ythggbkoccgigaaa.pairDrawn.d915 = true := by kernel_rfl
set_option maxRecDepth 100000 in
theorem r_d919 : run Go.Proofs.Ythggbkoccgigaaa.pairDrawn.d919 = true := by kernel_rfl
set_option maxRecDepth 100000 in
theorem r_d923 : run Go.Proofs.Ythggbkoccgigaaa.pairDrawn.d923 = true := by kernel_rfl
set_option maxRecDepth 100000 in
theorem r_d927 : run Go.Proofs.Ythggbkoccgigaaa.pairDrawn.d927 = true := by kernel_rfl
set_option maxRecDepth 100000 in
theorem r_d931 : run Go.Proofs.Ythggbkoccgigaaa.pairDrawn.d931 = true := by kernel_rfl
set_option maxRecDepth 100000 in
theorem r_d935 : run Go.Proofs.Ythggbkoccgigaaa.pairDrawn.d935 = true := by kernel_rfl
set_option maxRecDepth 100000 in
theorem r_d939 : run Go.Proofs.Ythggbkoccgigaaa.pairDrawn.d939 = true := by kernel_rfl
set_option maxRecDepth 100000 in
theorem r_d943 : run Go.Proofs.Ythggbkoccgigaaa.pairDrawn.d943 = true := by kernel_rfl
set_option maxRecDepth 100000 in
theorem r_d947 : run Go.Proofs.Ythggbkoccgigaaa.pairDrawn.d947 = true := by kernel_rfl
set_option maxRecDepth 100000 in
theorem r_d951 : run Go.Proofs.Ythggbkoccgigaaa.pairDrawn.d951 = true := by kernel_rfl
set_option maxRecDepth 100000 in
theorem r_d955 : run Go.Proofs.Ythggbkoccgigaaa.pairDrawn.d955 = true := by kernel_rfl
set_option maxRecDepth 100000 in
theorem r_d959 : run Go.Proofs.Ythggbkoccgigaaa.pairDrawn.d959 = true := by kernel_rfl
end Go.Proofs.Ythggbkoccgigaaa.fnTableFullRuns
