/- Runs of the program at a seat. -/
import Derived.Test.YthcdiaahpodkoabFnPlainP
namespace Go.Proofs.Ythcdiaahpodkoab.fnPlainRuns
open Go Go.Eng
set_option linter.unusedVariables false
set_option linter.unusedSectionVars false
set_option linter.unusedSimpArgs false
set_option maxRecDepth 100000 in
theorem r_d1 : run Go.Proofs.Ythcdiaahpodkoab.atDrawn.d1 = true := by kernel_rfl
set_option maxRecDepth 100000 in
theorem r_d5 : run Go.Proofs.Ythcdiaahpodkoab.atDrawn.d5 = true := by kernel_rfl
set_option maxRecDepth 100000 in
theorem r_d9 : run Go.Proofs.Ythcdiaahpodkoab.atDrawn.d9 = true := by kernel_rfl
set_option maxRecDepth 100000 in
theorem r_d13 : run Go.Proofs.Ythcdiaahpodkoab.atDrawn.d13 = true := by kernel_rfl
set_option maxRecDepth 100000 in
theorem r_d17 : run Go.Proofs.Ythcdiaahpodkoab.atDrawn.d17 = true := by kernel_rfl
set_option maxRecDepth 100000 in
theorem r_d21 : run Go.Proofs.Ythcdiaahpodkoab.atDrawn.d21 = true := by kernel_rfl
set_option maxRecDepth 100000 in
theorem r_d25 : run Go.Proofs.Ythcdiaahpodkoab.atDrawn.d25 = true := by kernel_rfl
set_option maxRecDepth 100000 in
theorem r_d29 : run Go.Proofs.Ythcdiaahpodkoab.atDrawn.d29 = true := by kernel_rfl
set_option maxRecDepth 100000 in
theorem r_d33 : run Go.Proofs.Ythcdiaahpodkoab.atDrawn.d33 = true := by kernel_rfl
set_option maxRecDepth 100000 in
theorem r_d37 : run Go.Proofs.Ythcdiaahpodkoab.atDrawn.d37 = true := by kernel_rfl
set_option maxRecDepth 100000 in
theorem r_d41 : run Go.Proofs.Ythcdiaahpodkoab.atDrawn.d41 = true := by kernel_rfl
set_option maxRecDepth 100000 in
theorem r_d45 : run Go.Proofs.Ythcdiaahpodkoab.atDrawn.d45 = true := by kernel_rfl
set_option maxRecDepth 100000 in
theorem r_d49 : run Go.Proofs.Ythcdiaahpodkoab.atDrawn.d49 = true := by kernel_rfl
set_option maxRecDepth 100000 in
theorem r_d53 : run Go.Proofs.Ythcdiaahpodkoab.atDrawn.d53 = true := by kernel_rfl
set_option maxRecDepth 100000 in
theorem r_d57 : run Go.Proofs.Ythcdiaahpodkoab.atDrawn.d57 = true := by kernel_rfl
set_option maxRecDepth 100000 in
theorem r_d61 : run Go.Proofs.Ythcdiaahpodkoab.atDrawn.d61 = true := by kernel_rfl
set_option maxRecDepth 100000 in
theorem r_d65 : run Go.Proofs.Ythcdiaahpodkoab.atDrawn.d65 = true := by kernel_rfl
set_option maxRecDepth 100000 in
theorem r_d69 : run Go.Proofs.Ythcdiaahpodkoab.atDrawn.d69 = true := by kernel_rfl
set_option maxRecDepth 100000 in
theorem r_d73 : run Go.Proofs.Ythcdiaahpodkoab.atDrawn.d73 = true := by kernel_rfl
set_option maxRecDepth 100000 in
theorem r_d77 : run Go.Proofs.Ythcdiaahpodkoab.atDrawn.d77 = true := by kernel_rfl
set_option maxRecDepth 100000 in
theorem r_d81 : run Go.Proofs.Ythcdiaahpodkoab.atDrawn.d81 = true := by kernel_rfl
set_option maxRecDepth 100000 in
theorem r_d85 : run Go.Proofs.Ythcdiaahpodkoab.atDrawn.d85 = true := by kernel_rfl
set_option maxRecDepth 100000 in
theorem r_d89 : run Go.Proofs.Ythcdiaahpodkoab.atDrawn.d89 = true := by kernel_rfl
set_option maxRecDepth 100000 in
theorem r_d93 : run Go.Proofs.Ythcdiaahpodkoab.atDrawn.d93 = true := by kernel_rfl
set_option maxRecDepth 100000 in
theorem r_d97 : run Go.Proofs.Ythcdiaahpodkoab.atDrawn.d97 = true := by kernel_rfl
set_option maxRecDepth 100000 in
theorem r_d101 : run Go.Proofs.Ythcdiaahpodkoab.atDrawn.d101 = true := by kernel_rfl
set_option maxRecDepth 100000 in
theorem r_d105 : run Go.Proofs.Ythcdiaahpodkoab.atDrawn.d105 = true := by kernel_rfl
set_option maxRecDepth 100000 in
theorem r_d109 : run Go.Proofs.Ythcdiaahpodkoab.atDrawn.d109 = true := by kernel_rfl
set_option maxRecDepth 100000 in
theorem r_d113 : run Go.Proofs.Ythcdiaahpodkoab.atDrawn.d113 = true := by kernel_rfl
set_option maxRecDepth 100000 in
theorem r_d117 : run Go.Proofs.Ythcdiaahpodkoab.atDrawn.d117 = true := by kernel_rfl
set_option maxRecDepth 100000 in
theorem r_d121 : run Go.Proofs.Ythcdiaahpodkoab.atDrawn.d121 = true := by kernel_rfl
set_option maxRecDepth 100000 in
theorem r_d125 : run Go.Proofs.Ythcdiaahpodkoab.atDrawn.d125 = true := by kernel_rfl
set_option maxRecDepth 100000 in
theorem r_d129 : run Go.Proofs.Ythcdiaahpodkoab.atDrawn.d129 = true := by kernel_rfl
set_option maxRecDepth 100000 in
theorem r_d133 : run Go.Proofs.Ythcdiaahpodkoab.atDrawn.d133 = true := by kernel_rfl
set_option maxRecDepth 100000 in
theorem r_d137 : run Go.Proofs.Ythcdiaahpodkoab.atDrawn.d137 = true := by kernel_rfl
set_option maxRecDepth 100000 in
theorem r_d141 : run Go.Proofs.Ythcdiaahpodkoab.atDrawn.d141 = true := by kernel_rfl
set_option maxRecDepth 100000 in
theorem r_d145 : run Go.Proofs.Ythcdiaahpodkoab.atDrawn.d145 = true := by kernel_rfl
set_option maxRecDepth 100000 in
theorem r_d149 : run Go.Proofs.Ythcdiaahpodkoab.atDrawn.d149 = true := by kernel_rfl
set_option maxRecDepth 100000 in
theorem r_d153 : run Go.Proofs.Ythcdiaahpodkoab.atDrawn.d153 = true := by kernel_rfl
set_option maxRecDepth 100000 in
theorem r_d157 : run Go.Proofs.Ythcdiaahpodkoab.atDrawn.d157 = true := by kernel_rfl
set_option maxRecDepth 100000 in
theorem r_d161 : run Go.Proofs.Ythcdiaahpodkoab.atDrawn.d161 = true := by kernel_rfl
set_option maxRecDepth 100000 in
theorem r_d165 : run Go.Proofs.Ythcdiaahpodkoab.atDrawn.d165 = true := by kernel_rfl
set_option maxRecDepth 100000 in
theorem r_d169 : run Go.Proofs.Ythcdiaahpodkoab.atDrawn.d169 = true := by kernel_rfl
set_option maxRecDepth 100000 in
theorem r_d173 : run Go.Proofs.Ythcdiaahpodkoab.atDrawn.d173 = true := by kernel_rfl
set_option maxRecDepth 100000 in
theorem r_d177 : run Go.Proofs.Ythcdiaahpodkoab.atDrawn.d177 = true := by kernel_rfl
set_option maxRecDepth 100000 in
theorem r_d181 : run Go.Proofs.Ythcdiaahpodkoab.atDrawn.d181 = true := by kernel_rfl
set_option maxRecDepth 100000 in
theorem r_d185 : run Go.Proofs.Ythcdiaahpodkoab.atDrawn.d185 = true := by kernel_rfl
set_option maxRecDepth 100000 in
theorem r_d189 : run Go.Proofs.Ythcdiaahpodkoab.atDrawn.d189 = true := by kernel_rfl
set_option maxRecDepth 100000 in
theorem r_d193 : run Go.Proofs.Ythcdiaahpodkoab.atDrawn.d193 = true := by kernel_rfl
set_option maxRecDepth 100000 in
theorem r_d197 : run Go.Proofs.Ythcdiaahpodkoab.atDrawn.d197 = true := by kernel_rfl
set_option maxRecDepth 100000 in
theorem r_d201 : run Go.Proofs.Ythcdiaahpodkoab.atDrawn.d201 = true := by kernel_rfl
set_option maxRecDepth 100000 in
theorem r_d205 : run Go.Proofs.Ythcdiaahpodkoab.atDrawn.d205 = true := by kernel_rfl
set_option maxRecDepth 100000 in
theorem r_d209 : run Go.Proofs.Ythcdiaahpodkoab.atDrawn.d209 = true := by kernel_rfl
set_option maxRecDepth 100000 in
theorem r_d213 : run Go.Proofs.Ythcdiaahpodkoab.atDrawn.d213 = true := by kernel_rfl
set_option maxRecDepth 100000 in
theorem r_d217 : run Go.Proofs.Ythcdiaahpodkoab.atDrawn.d217 = true := by kernel_rfl
set_option maxRecDepth 100000 in
theorem r_d221 : run Go.Proofs.Ythcdiaahpodkoab.atDrawn.d221 = true := by kernel_rfl
set_option maxRecDepth 100000 in
theorem r_d225 : run Go.Proofs.Ythcdiaahpodkoab.atDrawn.d225 = true := by kernel_rfl
set_option maxRecDepth 100000 in
theorem r_d229 : run Go.Proofs.Ythcdiaahpodkoab.atDrawn.d229 = true := by kernel_rfl
set_option maxRecDepth 100000 in
theorem r_d233 : run Go.Proofs.Ythcdiaahpodkoab.atDrawn.d233 = true := by kernel_rfl
set_option maxRecDepth 100000 in
theorem r_d237 : run Go.Proofs.Ythcdiaahpodkoab.atDrawn.d237 = true := by kernel_rfl
set_option maxRecDepth 100000 in
theorem r_d241 : run Go.Proofs.Ythcdiaahpodkoab.atDrawn.d241 = true := by kernel_rfl
set_option maxRecDepth 100000 in
theorem r_d245 : run Go.Proofs.Ythcdiaahpodkoab.atDrawn.d245 = true := by kernel_rfl
set_option maxRecDepth 100000 in
theorem r_d249 : run Go.Proofs.Ythcdiaahpodkoab.atDrawn.d249 = true := by kernel_rfl
set_option maxRecDepth 100000 in
theorem r_d253 : run Go.Proofs.Ythcdiaahpodkoab.atDrawn.d253 = true := by kernel_rfl
set_option maxRecDepth 100000 in
theorem r_d257 : run Go.Proofs.Ythcdiaahpodkoab.atDrawn.d257 = true := by kernel_rfl
set_option maxRecDepth 100000 in
theorem r_d261 : run Go.Proofs.Ythcdiaahpodkoab.atDrawn.d261 = true := by kernel_rfl
set_option maxRecDepth 100000 in
theorem r_d265 : run Go.Proofs.Ythcdiaahpodkoab.atDrawn.d265 = true := by kernel_rfl
set_option maxRecDepth 100000 in
theorem r_d269 : run Go.Proofs.Ythcdiaahpodkoab.atDrawn.d269 = true := by kernel_rfl
set_option maxRecDepth 100000 in
theorem r_d273 : run Go.Proofs.Ythcdiaahpodkoab.atDrawn.d273 = true := by kernel_rfl
set_option maxRecDepth 100000 in
theorem r_d277 : run Go.Proofs.Ythcdiaahpodkoab.atDrawn.d277 = true := by kernel_rfl
set_option maxRecDepth 100000 in
theorem r_d281 : run Go.Proofs.Ythcdiaahpodkoab.atDrawn.d281 = true := by kernel_rfl
set_option maxRecDepth 100000 in
theorem r_d285 : run Go.Proofs.Ythcdiaahpodkoab.atDrawn.d285 = true := by kernel_rfl
set_option maxRecDepth 100000 in
theorem r_d289 : run Go.Proofs.Ythcdiaahpodkoab.atDrawn.d289 = true := by kernel_rfl
set_option maxRecDepth 100000 in
theorem r_d293 : run Go.Proofs.Ythcdiaahpodkoab.atDrawn.d293 = true := by kernel_rfl
set_option maxRecDepth 100000 in
theorem r_d297 : run Go.Proofs.Ythcdiaahpodkoab.atDrawn.d297 = true := by kernel_rfl
set_option maxRecDepth 100000 in
theorem r_d301 : run Go.Proofs.Ythcdiaahpodkoab.atDrawn.d301 = true := by kernel_rfl
set_option maxRecDepth 100000 in
theorem r_d305 : run Go.Proofs.Ythcdiaahpodkoab.atDrawn.d305 = true := by kernel_rfl
set_option maxRecDepth 100000 in
theorem r_d309 : run Go.Proofs.Ythcdiaahpodkoab.atDrawn.d309 = true := by kernel_rfl
set_option maxRecDepth 100000 in
theorem r_d313 : run Go.Proofs.Ythcdiaahpodkoab.atDrawn.d313 = true := by kernel_rfl
set_option maxRecDepth 100000 in
theorem r_d317 : run Go.Proofs.Ythcdiaahpodkoab.atDrawn.d317 = true := by kernel_rfl
set_option maxRecDepth 100000 in
theorem r_d321 : run Go.Proofs.Ythcdiaahpodkoab.atDrawn.d321 = true := by kernel_rfl
set_option maxRecDepth 100000 in
theorem r_d325 : run Go.Proofs.Ythcdiaahpodkoab.atDrawn.d325 = true := by kernel_rfl
set_option maxRecDepth 100000 in
theorem r_d329 : run Go.Proofs.Ythcdiaahpodkoab.atDrawn.d329 = true := by kernel_rfl
set_option maxRecDepth 100000 in
theorem r_d333 : run Go.Proofs.Ythcdiaahpodkoab.atDrawn.d333 = true := by kernel_rfl
set_option maxRecDepth 100000 in
theorem r_d337 : run Go.Proofs.Ythcdiaahpodkoab.atDrawn.d337 = true := by kernel_rfl
set_option maxRecDepth 100000 in
theorem r_d341 : run Go.Proofs.Ythcdiaahpodkoab.atDrawn.d341 = true := by kernel_rfl
set_option maxRecDepth 100000 in
theorem r_d345 : run Go.Proofs.Ythcdiaahpodkoab.atDrawn.d345 = true := by kernel_rfl
set_option maxRecDepth 100000 in
theorem r_d349 : run Go.Proofs.Ythcdiaahpodkoab.atDrawn.d349 = true := by kernel_rfl
end Go.Proofs.Ythcdiaahpodkoab.fnPlainRuns
