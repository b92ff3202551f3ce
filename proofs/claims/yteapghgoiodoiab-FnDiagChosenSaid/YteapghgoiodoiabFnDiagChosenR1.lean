/- Runs of the program at a seat. -/
import Derived.Test.YteapghgoiodoiabFnDiagChosenP
namespace Go.Proofs.Yteapghgoiodoiab.fnDiagChosenRuns
open Go Go.Eng
set_option linter.unusedVariables false
set_option linter.unusedSectionVars false
set_option linter.unusedSimpArgs false
set_option maxRecDepth 100000
open Go.Proofs.Yteapghgoiodoiab.atDrawn
theorem r_d1 : run d1 = true := by kernel_rfl
theorem r_d5 : run d5 = true := by kernel_rfl
theorem r_d9 : run d9 = true := by kernel_rfl
theorem r_d13 : run d13 = true := by kernel_rfl
theorem r_d17 : run d17 = true := by kernel_rfl
theorem r_d21 : run d21 = true := by kernel_rfl
theorem r_d25 : run d25 = true := by kernel_rfl
theorem r_d29 : run d29 = true := by kernel_rfl
theorem r_d33 : run d33 = true := by kernel_rfl
theorem r_d37 : run d37 = true := by kernel_rfl
theorem r_d41 : run d41 = true := by kernel_rfl
theorem r_d45 : run d45 = true := by kernel_rfl
theorem r_d49 : run d49 = true := by kernel_rfl
theorem r_d53 : run d53 = true := by kernel_rfl
theorem r_d57 : run d57 = true := by kernel_rfl
theorem r_d61 : run d61 = true := by kernel_rfl
theorem r_d65 : run d65 = true := by kernel_rfl
theorem r_d69 : run d69 = true := by kernel_rfl
theorem r_d73 : run d73 = true := by kernel_rfl
theorem r_d77 : run d77 = true := by kernel_rfl
theorem r_d81 : run d81 = true := by kernel_rfl
theorem r_d85 : run d85 = true := by kernel_rfl
theorem r_d89 : run d89 = true := by kernel_rfl
theorem r_d93 : run d93 = true := by kernel_rfl
theorem r_d97 : run d97 = true := by kernel_rfl
theorem r_d101 : run d101 = true := by kernel_rfl
theorem r_d105 : run d105 = true := by kernel_rfl
theorem r_d109 : run d109 = true := by kernel_rfl
theorem r_d113 : run d113 = true := by kernel_rfl
theorem r_d117 : run d117 = true := by kernel_rfl
theorem r_d121 : run d121 = true := by kernel_rfl
theorem r_d125 : run d125 = true := by kernel_rfl
theorem r_d129 : run d129 = true := by kernel_rfl
theorem r_d133 : run d133 = true := by kernel_rfl
theorem r_d137 : run d137 = true := by kernel_rfl
theorem r_d141 : run d141 = true := by kernel_rfl
theorem r_d145 : run d145 = true := by kernel_rfl
theorem r_d149 : run d149 = true := by kernel_rfl
theorem r_d153 : run d153 = true := by kernel_rfl
theorem r_d157 : run d157 = true := by kernel_rfl
theorem r_d161 : run d161 = true := by kernel_rfl
theorem r_d165 : run d165 = true := by kernel_rfl
theorem r_d169 : run d169 = true := by kernel_rfl
theorem r_d173 : run d173 = true := by kernel_rfl
theorem r_d177 : run d177 = true := by kernel_rfl
theorem r_d181 : run d181 = true := by kernel_rfl
theorem r_d185 : run d185 = true := by kernel_rfl
theorem r_d189 : run d189 = true := by kernel_rfl
theorem r_d193 : run d193 = true := by kernel_rfl
theorem r_d197 : run d197 = true := by kernel_rfl
theorem r_d201 : run d201 = true := by kernel_rfl
theorem r_d205 : run d205 = true := by kernel_rfl
theorem r_d209 : run d209 = true := by kernel_rfl
theorem r_d213 : run d213 = true := by kernel_rfl
theorem r_d217 : run d217 = true := by kernel_rfl
theorem r_d221 : run d221 = true := by kernel_rfl
theorem r_d225 : run d225 = true := by kernel_rfl
theorem r_d229 : run d229 = true := by kernel_rfl
theorem r_d233 : run d233 = true := by kernel_rfl
theorem r_d237 : run d237 = true := by kernel_rfl
theorem r_d241 : run d241 = true := by kernel_rfl
theorem r_d245 : run d245 = true := by kernel_rfl
theorem r_d249 : run d249 = true := by kernel_rfl
theorem r_d253 : run d253 = true := by kernel_rfl
theorem r_d257 : run d257 = true := by kernel_rfl
theorem r_d261 : run d261 = true := by kernel_rfl
theorem r_d265 : run d265 = true := by kernel_rfl
theorem r_d269 : run d269 = true := by kernel_rfl
theorem r_d273 : run d273 = true := by kernel_rfl
theorem r_d277 : run d277 = true := by kernel_rfl
theorem r_d281 : run d281 = true := by kernel_rfl
theorem r_d285 : run d285 = true := by kernel_rfl
theorem r_d289 : run d289 = true := by kernel_rfl
theorem r_d293 : run d293 = true := by kernel_rfl
theorem r_d297 : run d297 = true := by kernel_rfl
theorem r_d301 : run d301 = true := by kernel_rfl
theorem r_d305 : run d305 = true := by kernel_rfl
theorem r_d309 : run d309 = true := by kernel_rfl
theorem r_d313 : run d313 = true := by kernel_rfl
theorem r_d317 : run d317 = true := by kernel_rfl
theorem r_d321 : run d321 = true := by kernel_rfl
theorem r_d325 : run d325 = true := by kernel_rfl
theorem r_d329 : run d329 = true := by kernel_rfl
theorem r_d333 : run d333 = true := by kernel_rfl
theorem r_d337 : run d337 = true := by kernel_rfl
theorem r_d341 : run d341 = true := by kernel_rfl
theorem r_d345 : run d345 = true := by kernel_rfl
theorem r_d349 : run d349 = true := by kernel_rfl
end Go.Proofs.Yteapghgoiodoiab.fnDiagChosenRuns
