/- Runs of the program at a seat. -/
import Derived.Test.YthcdiaahpodkoaaFnAboveP
namespace Go.Proofs.Ythcdiaahpodkoaa.fnAboveRuns
open Go Go.Eng
set_option linter.unusedVariables false
set_option linter.unusedSectionVars false
set_option linter.unusedSimpArgs false
set_option maxRecDepth 100000 in
theorem r1000_d1 : run1000 Go.Proofs.Ythcdiaahpodkoaa.pair3Drawn.d1 = true := by kernel_rfl
set_option maxRecDepth 100000 in
theorem r1001_d1 : run1001 Go.Proofs.Ythcdiaahpodkoaa.pair3Drawn.d1 = true := by kernel_rfl
set_option maxRecDepth 100000 in
theorem r1000_d5 : run1000 Go.Proofs.Ythcdiaahpodkoaa.pair3Drawn.d5 = true := by kernel_rfl
set_option maxRecDepth 100000 in
theorem r1001_d5 : run1001 Go.Proofs.Ythcdiaahpodkoaa.pair3Drawn.d5 = true := by kernel_rfl
set_option maxRecDepth 100000 in
theorem r1000_d9 : run1000 Go.Proofs.Ythcdiaahpodkoaa.pair3Drawn.d9 = true := by kernel_rfl
set_option maxRecDepth 100000 in
theorem r1001_d9 : run1001 Go.Proofs.Ythcdiaahpodkoaa.pair3Drawn.d9 = true := by kernel_rfl
set_option maxRecDepth 100000 in
theorem r1000_d13 : run1000 Go.Proofs.Ythcdiaahpodkoaa.pair3Drawn.d13 = true := by kernel_rfl
set_option maxRecDepth 100000 in
theorem r1001_d13 : run1001 Go.Proofs.Ythcdiaahpodkoaa.pair3Drawn.d13 = true := by kernel_rfl
set_option maxRecDepth 100000 in
theorem r1000_d17 : run1000 Go.Proofs.Ythcdiaahpodkoaa.pair3Drawn.d17 = true := by kernel_rfl
set_option maxRecDepth 100000 in
theorem r1001_d17 : run1001 Go.Proofs.Ythcdiaahpodkoaa.pair3Drawn.d17 = true := by kernel_rfl
set_option maxRecDepth 100000 in
theorem r1000_d21 : run1000 Go.Proofs.Ythcdiaahpodkoaa.pair3Drawn.d21 = true := by kernel_rfl
set_option maxRecDepth 100000 in
theorem r1001_d21 : run1001 Go.Proofs.Ythcdiaahpodkoaa.pair3Drawn.d21 = true := by kernel_rfl
set_option maxRecDepth 100000 in
theorem r1000_d25 : run1000 Go.Proofs.Ythcdiaahpodkoaa.pair3Drawn.d25 = true := by kernel_rfl
set_option maxRecDepth 100000 in
theorem r1001_d25 : run1001 Go.Proofs.Ythcdiaahpodkoaa.pair3Drawn.d25 = true := by kernel_rfl
set_option maxRecDepth 100000 in
theorem r1000_d29 : run1000 Go.Proofs.Ythcdiaahpodkoaa.pair3Drawn.d29 = true := by kernel_rfl
set_option maxRecDepth 100000 in
theorem r1001_d29 : run1001 Go.Proofs.Ythcdiaahpodkoaa.pair3Drawn.d29 = true := by kernel_rfl
set_option maxRecDepth 100000 in
theorem r1000_d33 : run1000 Go.Proofs.Ythcdiaahpodkoaa.pair3Drawn.d33 = true := by kernel_rfl
set_option maxRecDepth 100000 in
theorem r1001_d33 : run1001 Go.Proofs.Ythcdiaahpodkoaa.pair3Drawn.d33 = true := by kernel_rfl
set_option maxRecDepth 100000 in
theorem r1000_d37 : run1000 Go.Proofs.Ythcdiaahpodkoaa.pair3Drawn.d37 = true := by kernel_rfl
set_option maxRecDepth 100000 in
theorem r1001_d37 : run1001 Go.Proofs.Ythcdiaahpodkoaa.pair3Drawn.d37 = true := by kernel_rfl
set_option maxRecDepth 100000 in
theorem r1000_d41 : run1000 Go.Proofs.Ythcdiaahpodkoaa.pair3Drawn.d41 = true := by kernel_rfl
set_option maxRecDepth 100000 in
theorem r1001_d41 : run1001 Go.Proofs.Ythcdiaahpodkoaa.pair3Drawn.d41 = true := by kernel_rfl
set_option maxRecDepth 100000 in
theorem r1000_d45 : run1000 Go.Proofs.Ythcdiaahpodkoaa.pair3Drawn.d45 = true := by kernel_rfl
set_option maxRecDepth 100000 in
theorem r1001_d45 : run1001 Go.Proofs.Ythcdiaahpodkoaa.pair3Drawn.d45 = true := by kernel_rfl
set_option maxRecDepth 100000 in
theorem r1000_d49 : run1000 Go.Proofs.Ythcdiaahpodkoaa.pair3Drawn.d49 = true := by kernel_rfl
set_option maxRecDepth 100000 in
theorem r1001_d49 : run1001 Go.Proofs.Ythcdiaahpodkoaa.pair3Drawn.d49 = true := by kernel_rfl
set_option maxRecDepth 100000 in
theorem r1000_d53 : run1000 Go.Proofs.Ythcdiaahpodkoaa.pair3Drawn.d53 = true := by kernel_rfl
set_option maxRecDepth 100000 in
theorem r1001_d53 : run1001 Go.Proofs.Ythcdiaahpodkoaa.pair3Drawn.d53 = true := by kernel_rfl
set_option maxRecDepth 100000 in
theorem r1000_d57 : run1000 Go.Proofs.Ythcdiaahpodkoaa.pair3Drawn.d57 = true := by kernel_rfl
set_option maxRecDepth 100000 in
theorem r1001_d57 : run1001 Go.Proofs.Ythcdiaahpodkoaa.pair3Drawn.d57 = true := by kernel_rfl
set_option maxRecDepth 100000 in
theorem r1000_d61 : run1000 Go.Proofs.Ythcdiaahpodkoaa.pair3Drawn.d61 = true := by kernel_rfl
set_option maxRecDepth 100000 in
theorem r1001_d61 : run1001 Go.Proofs.Ythcdiaahpodkoaa.pair3Drawn.d61 = true := by kernel_rfl
set_option maxRecDepth 100000 in
theorem r1000_d65 : run1000 Go.Proofs.Ythcdiaahpodkoaa.pair3Drawn.d65 = true := by kernel_rfl
set_option maxRecDepth 100000 in
theorem r1001_d65 : run1001 Go.Proofs.Ythcdiaahpodkoaa.pair3Drawn.d65 = true := by kernel_rfl
set_option maxRecDepth 100000 in
theorem r1000_d69 : run1000 Go.Proofs.Ythcdiaahpodkoaa.pair3Drawn.d69 = true := by kernel_rfl
set_option maxRecDepth 100000 in
theorem r1001_d69 : run1001 Go.Proofs.Ythcdiaahpodkoaa.pair3Drawn.d69 = true := by kernel_rfl
set_option maxRecDepth 100000 in
theorem r1000_d73 : run1000 Go.Proofs.Ythcdiaahpodkoaa.pair3Drawn.d73 = true := by kernel_rfl
set_option maxRecDepth 100000 in
theorem r1001_d73 : run1001 Go.Proofs.Ythcdiaahpodkoaa.pair3Drawn.d73 = true := by kernel_rfl
set_option maxRecDepth 100000 in
theorem r1000_d77 : run1000 Go.Proofs.Ythcdiaahpodkoaa.pair3Drawn.d77 = true := by kernel_rfl
set_option maxRecDepth 100000 in
theorem r1001_d77 : run1001 Go.Proofs.Ythcdiaahpodkoaa.pair3Drawn.d77 = true := by kernel_rfl
set_option maxRecDepth 100000 in
theorem r1000_d81 : run1000 Go.Proofs.Ythcdiaahpodkoaa.pair3Drawn.d81 = true := by kernel_rfl
set_option maxRecDepth 100000 in
theorem r1001_d81 : run1001 Go.Proofs.Ythcdiaahpodkoaa.pair3Drawn.d81 = true := by kernel_rfl
set_option maxRecDepth 100000 in
theorem r1000_d85 : run1000 Go.Proofs.Ythcdiaahpodkoaa.pair3Drawn.d85 = true := by kernel_rfl
set_option maxRecDepth 100000 in
theorem r1001_d85 : run1001 Go.Proofs.Ythcdiaahpodkoaa.pair3Drawn.d85 = true := by kernel_rfl
set_option maxRecDepth 100000 in
theorem r1000_d89 : run1000 Go.Proofs.Ythcdiaahpodkoaa.pair3Drawn.d89 = true := by kernel_rfl
set_option maxRecDepth 100000 in
theorem r1001_d89 : run1001 Go.Proofs.Ythcdiaahpodkoaa.pair3Drawn.d89 = true := by kernel_rfl
set_option maxRecDepth 100000 in
theorem r1000_d93 : run1000 Go.Proofs.Ythcdiaahpodkoaa.pair3Drawn.d93 = true := by kernel_rfl
set_option maxRecDepth 100000 in
theorem r1001_d93 : run1001 Go.Proofs.Ythcdiaahpodkoaa.pair3Drawn.d93 = true := by kernel_rfl
set_option maxRecDepth 100000 in
theorem r1000_d97 : run1000 Go.Proofs.Ythcdiaahpodkoaa.pair3Drawn.d97 = true := by kernel_rfl
set_option maxRecDepth 100000 in
theorem r1001_d97 : run1001 Go.Proofs.Ythcdiaahpodkoaa.pair3Drawn.d97 = true := by kernel_rfl
set_option maxRecDepth 100000 in
theorem r1000_d101 : run1000 Go.Proofs.Ythcdiaahpodkoaa.pair3Drawn.d101 = true := by kernel_rfl
set_option maxRecDepth 100000 in
theorem r1001_d101 : run1001 Go.Proofs.Ythcdiaahpodkoaa.pair3Drawn.d101 = true := by kernel_rfl
set_option maxRecDepth 100000 in
theorem r1000_d105 : run1000 Go.Proofs.Ythcdiaahpodkoaa.pair3Drawn.d105 = true := by kernel_rfl
set_option maxRecDepth 100000 in
theorem r1001_d105 : run1001 Go.Proofs.Ythcdiaahpodkoaa.pair3Drawn.d105 = true := by kernel_rfl
set_option maxRecDepth 100000 in
theorem r1000_d109 : run1000 Go.Proofs.Ythcdiaahpodkoaa.pair3Drawn.d109 = true := by kernel_rfl
set_option maxRecDepth 100000 in
theorem r1001_d109 : run1001 Go.Proofs.Ythcdiaahpodkoaa.pair3Drawn.d109 = true := by kernel_rfl
set_option maxRecDepth 100000 in
theorem r1000_d113 : run1000 Go.Proofs.Ythcdiaahpodkoaa.pair3Drawn.d113 = true := by kernel_rfl
set_option maxRecDepth 100000 in
theorem r1001_d113 : run1001 Go.Proofs.Ythcdiaahpodkoaa.pair3Drawn.d113 = true := by kernel_rfl
set_option maxRecDepth 100000 in
theorem r1000_d117 : run1000 Go.Proofs.Ythcdiaahpodkoaa.pair3Drawn.d117 = true := by kernel_rfl
set_option maxRecDepth 100000 in
theorem r1001_d117 : run1001 Go.Proofs.Ythcdiaahpodkoaa.pair3Drawn.d117 = true := by kernel_rfl
set_option maxRecDepth 100000 in
theorem r1000_d121 : run1000 Go.Proofs.Ythcdiaahpodkoaa.pair3Drawn.d121 = true := by kernel_rfl
set_option maxRecDepth 100000 in
theorem r1001_d121 : run1001 Go.Proofs.Ythcdiaahpodkoaa.pair3Drawn.d121 = true := by kernel_rfl
set_option maxRecDepth 100000 in
theorem r1000_d125 : run1000 Go.Proofs.Ythcdiaahpodkoaa.pair3Drawn.d125 = true := by kernel_rfl
set_option maxRecDepth 100000 in
theorem r1001_d125 : run1001 Go.Proofs.Ythcdiaahpodkoaa.pair3Drawn.d125 = true := by kernel_rfl
set_option maxRecDepth 100000 in
theorem r1000_d129 : run1000 Go.Proofs.Ythcdiaahpodkoaa.pair3Drawn.d129 = true := by kernel_rfl
set_option maxRecDepth 100000 in
theorem r1001_d129 : run1001 Go.Proofs.Ythcdiaahpodkoaa.pair3Drawn.d129 = true := by kernel_rfl
set_option maxRecDepth 100000 in
theorem r1000_d133 : run1000 Go.Proofs.Ythcdiaahpodkoaa.pair3Drawn.d133 = true := by kernel_rfl
set_option maxRecDepth 100000 in
theorem r1001_d133 : run1001 Go.Proofs.Ythcdiaahpodkoaa.pair3Drawn.d133 = true := by kernel_rfl
set_option maxRecDepth 100000 in
theorem r1000_d137 : run1000 Go.Proofs.Ythcdiaahpodkoaa.pair3Drawn.d137 = true := by kernel_rfl
set_option maxRecDepth 100000 in
theorem r1001_d137 : run1001 Go.Proofs.Ythcdiaahpodkoaa.pair3Drawn.d137 = true := by kernel_rfl
set_option maxRecDepth 100000 in
theorem r1000_d141 : run1000 Go.Proofs.Ythcdiaahpodkoaa.pair3Drawn.d141 = true := by kernel_rfl
set_option maxRecDepth 100000 in
theorem r1001_d141 : run1001 Go.Proofs.Ythcdiaahpodkoaa.pair3Drawn.d141 = true := by kernel_rfl
set_option maxRecDepth 100000 in
theorem r1000_d145 : run1000 Go.Proofs.Ythcdiaahpodkoaa.pair3Drawn.d145 = true := by kernel_rfl
set_option maxRecDepth 100000 in
theorem r1001_d145 : run1001 Go.Proofs.Ythcdiaahpodkoaa.pair3Drawn.d145 = true := by kernel_rfl
set_option maxRecDepth 100000 in
theorem r1000_d149 : run1000 Go.Proofs.Ythcdiaahpodkoaa.pair3Drawn.d149 = true := by kernel_rfl
set_option maxRecDepth 100000 in
theorem r1001_d149 : run1001 Go.Proofs.Ythcdiaahpodkoaa.pair3Drawn.d149 = true := by kernel_rfl
set_option maxRecDepth 100000 in
theorem r1000_d153 : run1000 Go.Proofs.Ythcdiaahpodkoaa.pair3Drawn.d153 = true := by kernel_rfl
set_option maxRecDepth 100000 in
theorem r1001_d153 : run1001 Go.Proofs.Ythcdiaahpodkoaa.pair3Drawn.d153 = true := by kernel_rfl
set_option maxRecDepth 100000 in
theorem r1000_d157 : run1000 Go.Proofs.Ythcdiaahpodkoaa.pair3Drawn.d157 = true := by kernel_rfl
set_option maxRecDepth 100000 in
theorem r1001_d157 : run1001 Go.Proofs.Ythcdiaahpodkoaa.pair3Drawn.d157 = true := by kernel_rfl
set_option maxRecDepth 100000 in
theorem r1000_d161 : run1000 Go.Proofs.Ythcdiaahpodkoaa.pair3Drawn.d161 = true := by kernel_rfl
set_option maxRecDepth 100000 in
theorem r1001_d161 : run1001 Go.Proofs.Ythcdiaahpodkoaa.pair3Drawn.d161 = true := by kernel_rfl
set_option maxRecDepth 100000 in
theorem r1000_d165 : run1000 Go.Proofs.Ythcdiaahpodkoaa.pair3Drawn.d165 = true := by kernel_rfl
set_option maxRecDepth 100000 in
theorem r1001_d165 : run1001 Go.Proofs.Ythcdiaahpodkoaa.pair3Drawn.d165 = true := by kernel_rfl
set_option maxRecDepth 100000 in
theorem r1000_d169 : run1000 Go.Proofs.Ythcdiaahpodkoaa.pair3Drawn.d169 = true := by kernel_rfl
set_option maxRecDepth 100000 in
theorem r1001_d169 : run1001 Go.Proofs.Ythcdiaahpodkoaa.pair3Drawn.d169 = true := by kernel_rfl
set_option maxRecDepth 100000 in
theorem r1000_d173 : run1000 Go.Proofs.Ythcdiaahpodkoaa.pair3Drawn.d173 = true := by kernel_rfl
set_option maxRecDepth 100000 in
theorem r1001_d173 : run1001 Go.Proofs.Ythcdiaahpodkoaa.pair3Drawn.d173 = true := by kernel_rfl
set_option maxRecDepth 100000 in
theorem r1000_d177 : run1000 Go.Proofs.Ythcdiaahpodkoaa.pair3Drawn.d177 = true := by kernel_rfl
set_option maxRecDepth 100000 in
theorem r1001_d177 : run1001 Go.Proofs.Ythcdiaahpodkoaa.pair3Drawn.d177 = true := by kernel_rfl
set_option maxRecDepth 100000 in
theorem r1000_d181 : run1000 Go.Proofs.Ythcdiaahpodkoaa.pair3Drawn.d181 = true := by kernel_rfl
set_option maxRecDepth 100000 in
theorem r1001_d181 : run1001 Go.Proofs.Ythcdiaahpodkoaa.pair3Drawn.d181 = true := by kernel_rfl
set_option maxRecDepth 100000 in
theorem r1000_d185 : run1000 Go.Proofs.Ythcdiaahpodkoaa.pair3Drawn.d185 = true := by kernel_rfl
set_option maxRecDepth 100000 in
theorem r1001_d185 : run1001 Go.Proofs.Ythcdiaahpodkoaa.pair3Drawn.d185 = true := by kernel_rfl
set_option maxRecDepth 100000 in
theorem r1000_d189 : run1000 Go.Proofs.Ythcdiaahpodkoaa.pair3Drawn.d189 = true := by kernel_rfl
set_option maxRecDepth 100000 in
theorem r1001_d189 : run1001 Go.Proofs.Ythcdiaahpodkoaa.pair3Drawn.d189 = true := by kernel_rfl
set_option maxRecDepth 100000 in
theorem r1000_d193 : run1000 Go.Proofs.Ythcdiaahpodkoaa.pair3Drawn.d193 = true := by kernel_rfl
set_option maxRecDepth 100000 in
theorem r1001_d193 : run1001 Go.Proofs.Ythcdiaahpodkoaa.pair3Drawn.d193 = true := by kernel_rfl
set_option maxRecDepth 100000 in
theorem r1000_d197 : run1000 Go.Proofs.Ythcdiaahpodkoaa.pair3Drawn.d197 = true := by kernel_rfl
set_option maxRecDepth 100000 in
theorem r1001_d197 : run1001 Go.Proofs.Ythcdiaahpodkoaa.pair3Drawn.d197 = true := by kernel_rfl
set_option maxRecDepth 100000 in
theorem r1000_d201 : run1000 Go.Proofs.Ythcdiaahpodkoaa.pair3Drawn.d201 = true := by kernel_rfl
set_option maxRecDepth 100000 in
theorem r1001_d201 : run1001 Go.Proofs.Ythcdiaahpodkoaa.pair3Drawn.d201 = true := by kernel_rfl
set_option maxRecDepth 100000 in
theorem r1000_d205 : run1000 Go.Proofs.Ythcdiaahpodkoaa.pair3Drawn.d205 = true := by kernel_rfl
set_option maxRecDepth 100000 in
theorem r1001_d205 : run1001 Go.Proofs.Ythcdiaahpodkoaa.pair3Drawn.d205 = true := by kernel_rfl
set_option maxRecDepth 100000 in
theorem r1000_d209 : run1000 Go.Proofs.Ythcdiaahpodkoaa.pair3Drawn.d209 = true := by kernel_rfl
set_option maxRecDepth 100000 in
theorem r1001_d209 : run1001 Go.Proofs.Ythcdiaahpodkoaa.pair3Drawn.d209 = true := by kernel_rfl
set_option maxRecDepth 100000 in
theorem r1000_d213 : run1000 Go.Proofs.Ythcdiaahpodkoaa.pair3Drawn.d213 = true := by kernel_rfl
set_option maxRecDepth 100000 in
theorem r1001_d213 : run1001 Go.Proofs.Ythcdiaahpodkoaa.pair3Drawn.d213 = true := by kernel_rfl
set_option maxRecDepth 100000 in
theorem r1000_d217 : run1000 Go.Proofs.Ythcdiaahpodkoaa.pair3Drawn.d217 = true := by kernel_rfl
set_option maxRecDepth 100000 in
theorem r1001_d217 : run1001 Go.Proofs.Ythcdiaahpodkoaa.pair3Drawn.d217 = true := by kernel_rfl
set_option maxRecDepth 100000 in
theorem r1000_d221 : run1000 Go.Proofs.Ythcdiaahpodkoaa.pair3Drawn.d221 = true := by kernel_rfl
set_option maxRecDepth 100000 in
theorem r1001_d221 : run1001 Go.Proofs.Ythcdiaahpodkoaa.pair3Drawn.d221 = true := by kernel_rfl
set_option maxRecDepth 100000 in
theorem r1000_d225 : run1000 Go.Proofs.Ythcdiaahpodkoaa.pair3Drawn.d225 = true := by kernel_rfl
set_option maxRecDepth 100000 in
theorem r1001_d225 : run1001 Go.Proofs.Ythcdiaahpodkoaa.pair3Drawn.d225 = true := by kernel_rfl
set_option maxRecDepth 100000 in
theorem r1000_d229 : run1000 Go.Proofs.Ythcdiaahpodkoaa.pair3Drawn.d229 = true := by kernel_rfl
set_option maxRecDepth 100000 in
theorem r1001_d229 : run1001 Go.Proofs.Ythcdiaahpodkoaa.pair3Drawn.d229 = true := by kernel_rfl
set_option maxRecDepth 100000 in
theorem r1000_d233 : run1000 Go.Proofs.Ythcdiaahpodkoaa.pair3Drawn.d233 = true := by kernel_rfl
set_option maxRecDepth 100000 in
theorem r1001_d233 : run1001 Go.Proofs.Ythcdiaahpodkoaa.pair3Drawn.d233 = true := by kernel_rfl
set_option maxRecDepth 100000 in
theorem r1000_d237 : run1000 Go.Proofs.Ythcdiaahpodkoaa.pair3Drawn.d237 = true := by kernel_rfl
set_option maxRecDepth 100000 in
theorem r1001_d237 : run1001 Go.Proofs.Ythcdiaahpodkoaa.pair3Drawn.d237 = true := by kernel_rfl
set_option maxRecDepth 100000 in
theorem r1000_d241 : run1000 Go.Proofs.Ythcdiaahpodkoaa.pair3Drawn.d241 = true := by kernel_rfl
set_option maxRecDepth 100000 in
theorem r1001_d241 : run1001 Go.Proofs.Ythcdiaahpodkoaa.pair3Drawn.d241 = true := by kernel_rfl
set_option maxRecDepth 100000 in
theorem r1000_d245 : run1000 Go.Proofs.Ythcdiaahpodkoaa.pair3Drawn.d245 = true := by kernel_rfl
set_option maxRecDepth 100000 in
theorem r1001_d245 : run1001 Go.Proofs.Ythcdiaahpodkoaa.pair3Drawn.d245 = true := by kernel_rfl
set_option maxRecDepth 100000 in
theorem r1000_d249 : run1000 Go.Proofs.Ythcdiaahpodkoaa.pair3Drawn.d249 = true := by kernel_rfl
set_option maxRecDepth 100000 in
theorem r1001_d249 : run1001 Go.Proofs.Ythcdiaahpodkoaa.pair3Drawn.d249 = true := by kernel_rfl
set_option maxRecDepth 100000 in
theorem r1000_d253 : run1000 Go.Proofs.Ythcdiaahpodkoaa.pair3Drawn.d253 = true := by kernel_rfl
set_option maxRecDepth 100000 in
theorem r1001_d253 : run1001 Go.Proofs.Ythcdiaahpodkoaa.pair3Drawn.d253 = true := by kernel_rfl
set_option maxRecDepth 100000 in
theorem r1000_d257 : run1000 Go.Proofs.Ythcdiaahpodkoaa.pair3Drawn.d257 = true := by kernel_rfl
set_option maxRecDepth 100000 in
theorem r1001_d257 : run1001 Go.Proofs.Ythcdiaahpodkoaa.pair3Drawn.d257 = true := by kernel_rfl
set_option maxRecDepth 100000 in
theorem r1000_d261 : run1000 Go.Proofs.Ythcdiaahpodkoaa.pair3Drawn.d261 = true := by kernel_rfl
set_option maxRecDepth 100000 in
theorem r1001_d261 : run1001 Go.Proofs.Ythcdiaahpodkoaa.pair3Drawn.d261 = true := by kernel_rfl
set_option maxRecDepth 100000 in
theorem r1000_d265 : run1000 Go.Proofs.Ythcdiaahpodkoaa.pair3Drawn.d265 = true := by kernel_rfl
set_option maxRecDepth 100000 in
theorem r1001_d265 : run1001 Go.Proofs.Ythcdiaahpodkoaa.pair3Drawn.d265 = true := by kernel_rfl
set_option maxRecDepth 100000 in
theorem r1000_d269 : run1000 Go.Proofs.Ythcdiaahpodkoaa.pair3Drawn.d269 = true := by kernel_rfl
set_option maxRecDepth 100000 in
theorem r1001_d269 : run1001 Go.Proofs.Ythcdiaahpodkoaa.pair3Drawn.d269 = true := by kernel_rfl
set_option maxRecDepth 100000 in
theorem r1000_d273 : run1000 Go.Proofs.Ythcdiaahpodkoaa.pair3Drawn.d273 = true := by kernel_rfl
set_option maxRecDepth 100000 in
theorem r1001_d273 : run1001 Go.Proofs.Ythcdiaahpodkoaa.pair3Drawn.d273 = true := by kernel_rfl
set_option maxRecDepth 100000 in
theorem r1000_d277 : run1000 Go.Proofs.Ythcdiaahpodkoaa.pair3Drawn.d277 = true := by kernel_rfl
set_option maxRecDepth 100000 in
theorem r1001_d277 : run1001 Go.Proofs.Ythcdiaahpodkoaa.pair3Drawn.d277 = true := by kernel_rfl
set_option maxRecDepth 100000 in
theorem r1000_d281 : run1000 Go.Proofs.Ythcdiaahpodkoaa.pair3Drawn.d281 = true := by kernel_rfl
set_option maxRecDepth 100000 in
theorem r1001_d281 : run1001 Go.Proofs.Ythcdiaahpodkoaa.pair3Drawn.d281 = true := by kernel_rfl
set_option maxRecDepth 100000 in
theorem r1000_d285 : run1000 Go.Proofs.Ythcdiaahpodkoaa.pair3Drawn.d285 = true := by kernel_rfl
set_option maxRecDepth 100000 in
theorem r1001_d285 : run1001 Go.Proofs.Ythcdiaahpodkoaa.pair3Drawn.d285 = true := by kernel_rfl
set_option maxRecDepth 100000 in
theorem r1000_d289 : run1000 Go.Proofs.Ythcdiaahpodkoaa.pair3Drawn.d289 = true := by kernel_rfl
set_option maxRecDepth 100000 in
theorem r1001_d289 : run1001 Go.Proofs.Ythcdiaahpodkoaa.pair3Drawn.d289 = true := by kernel_rfl
set_option maxRecDepth 100000 in
theorem r1000_d293 : run1000 Go.Proofs.Ythcdiaahpodkoaa.pair3Drawn.d293 = true := by kernel_rfl
set_option maxRecDepth 100000 in
theorem r1001_d293 : run1001 Go.Proofs.Ythcdiaahpodkoaa.pair3Drawn.d293 = true := by kernel_rfl
set_option maxRecDepth 100000 in
theorem r1000_d297 : run1000 Go.Proofs.Ythcdiaahpodkoaa.pair3Drawn.d297 = true := by kernel_rfl
set_option maxRecDepth 100000 in
theorem r1001_d297 : run1001 Go.Proofs.Ythcdiaahpodkoaa.pair3Drawn.d297 = true := by kernel_rfl
set_option maxRecDepth 100000 in
theorem r1000_d301 : run1000 Go.Proofs.Ythcdiaahpodkoaa.pair3Drawn.d301 = true := by kernel_rfl
set_option maxRecDepth 100000 in
theorem r1001_d301 : run1001 Go.Proofs.Ythcdiaahpodkoaa.pair3Drawn.d301 = true := by kernel_rfl
set_option maxRecDepth 100000 in
theorem r1000_d305 : run1000 Go.Proofs.Ythcdiaahpodkoaa.pair3Drawn.d305 = true := by kernel_rfl
set_option maxRecDepth 100000 in
theorem r1001_d305 : run1001 Go.Proofs.Ythcdiaahpodkoaa.pair3Drawn.d305 = true := by kernel_rfl
set_option maxRecDepth 100000 in
theorem r1000_d309 : run1000 Go.Proofs.Ythcdiaahpodkoaa.pair3Drawn.d309 = true := by kernel_rfl
set_option maxRecDepth 100000 in
theorem r1001_d309 : run1001 Go.Proofs.Ythcdiaahpodkoaa.pair3Drawn.d309 = true := by kernel_rfl
set_option maxRecDepth 100000 in
theorem r1000_d313 : run1000 Go.Proofs.Ythcdiaahpodkoaa.pair3Drawn.d313 = true := by kernel_rfl
set_option maxRecDepth 100000 in
theorem r1001_d313 : run1001 Go.Proofs.Ythcdiaahpodkoaa.pair3Drawn.d313 = true := by kernel_rfl
set_option maxRecDepth 100000 in
theorem r1000_d317 : run1000 Go.Proofs.Ythcdiaahpodkoaa.pair3Drawn.d317 = true := by kernel_rfl
set_option maxRecDepth 100000 in
theorem r1001_d317 : run1001 Go.Proofs.Ythcdiaahpodkoaa.pair3Drawn.d317 = true := by kernel_rfl
set_option maxRecDepth 100000 in
theorem r1000_d321 : run1000 Go.Proofs.Ythcdiaahpodkoaa.pair3Drawn.d321 = true := by kernel_rfl
set_option maxRecDepth 100000 in
theorem r1001_d321 : run1001 Go.Proofs.Ythcdiaahpodkoaa.pair3Drawn.d321 = true := by kernel_rfl
set_option maxRecDepth 100000 in
theorem r1000_d325 : run1000 Go.Proofs.Ythcdiaahpodkoaa.pair3Drawn.d325 = true := by kernel_rfl
set_option maxRecDepth 100000 in
theorem r1001_d325 : run1001 Go.Proofs.Ythcdiaahpodkoaa.pair3Drawn.d325 = true := by kernel_rfl
set_option maxRecDepth 100000 in
theorem r1000_d329 : run1000 Go.Proofs.Ythcdiaahpodkoaa.pair3Drawn.d329 = true := by kernel_rfl
set_option maxRecDepth 100000 in
theorem r1001_d329 : run1001 Go.Proofs.Ythcdiaahpodkoaa.pair3Drawn.d329 = true := by kernel_rfl
set_option maxRecDepth 100000 in
theorem r1000_d333 : run1000 Go.Proofs.Ythcdiaahpodkoaa.pair3Drawn.d333 = true := by kernel_rfl
set_option maxRecDepth 100000 in
theorem r1001_d333 : run1001 Go.Proofs.Ythcdiaahpodkoaa.pair3Drawn.d333 = true := by kernel_rfl
set_option maxRecDepth 100000 in
theorem r1000_d337 : run1000 Go.Proofs.Ythcdiaahpodkoaa.pair3Drawn.d337 = true := by kernel_rfl
set_option maxRecDepth 100000 in
theorem r1001_d337 : run1001 Go.Proofs.Ythcdiaahpodkoaa.pair3Drawn.d337 = true := by kernel_rfl
set_option maxRecDepth 100000 in
theorem r1000_d341 : run1000 Go.Proofs.Ythcdiaahpodkoaa.pair3Drawn.d341 = true := by kernel_rfl
set_option maxRecDepth 100000 in
theorem r1001_d341 : run1001 Go.Proofs.Ythcdiaahpodkoaa.pair3Drawn.d341 = true := by kernel_rfl
set_option maxRecDepth 100000 in
theorem r1000_d345 : run1000 Go.Proofs.Ythcdiaahpodkoaa.pair3Drawn.d345 = true := by kernel_rfl
set_option maxRecDepth 100000 in
theorem r1001_d345 : run1001 Go.Proofs.Ythcdiaahpodkoaa.pair3Drawn.d345 = true := by kernel_rfl
set_option maxRecDepth 100000 in
theorem r1000_d349 : run1000 Go.Proofs.Ythcdiaahpodkoaa.pair3Drawn.d349 = true := by kernel_rfl
set_option maxRecDepth 100000 in
theorem r1001_d349 : run1001 Go.Proofs.Ythcdiaahpodkoaa.pair3Drawn.d349 = true := by kernel_rfl
set_option maxRecDepth 100000 in
theorem r1000_d353 : run1000 Go.Proofs.Ythcdiaahpodkoaa.pair3Drawn.d353 = true := by kernel_rfl
set_option maxRecDepth 100000 in
theorem r1001_d353 : run1001 Go.Proofs.Ythcdiaahpodkoaa.pair3Drawn.d353 = true := by kernel_rfl
set_option maxRecDepth 100000 in
theorem r1000_d357 : run1000 Go.Proofs.Ythcdiaahpodkoaa.pair3Drawn.d357 = true := by kernel_rfl
set_option maxRecDepth 100000 in
theorem r1001_d357 : run1001 Go.Proofs.Ythcdiaahpodkoaa.pair3Drawn.d357 = true := by kernel_rfl
set_option maxRecDepth 100000 in
theorem r1000_d361 : run1000 Go.Proofs.Ythcdiaahpodkoaa.pair3Drawn.d361 = true := by kernel_rfl
set_option maxRecDepth 100000 in
theorem r1001_d361 : run1001 Go.Proofs.Ythcdiaahpodkoaa.pair3Drawn.d361 = true := by kernel_rfl
set_option maxRecDepth 100000 in
theorem r1000_d365 : run1000 Go.Proofs.Ythcdiaahpodkoaa.pair3Drawn.d365 = true := by kernel_rfl
set_option maxRecDepth 100000 in
theorem r1001_d365 : run1001 Go.Proofs.Ythcdiaahpodkoaa.pair3Drawn.d365 = true := by kernel_rfl
set_option maxRecDepth 100000 in
theorem r1000_d369 : run1000 Go.Proofs.Ythcdiaahpodkoaa.pair3Drawn.d369 = true := by kernel_rfl
set_option maxRecDepth 100000 in
theorem r1001_d369 : run1001 Go.Proofs.Ythcdiaahpodkoaa.pair3Drawn.d369 = true := by kernel_rfl
set_option maxRecDepth 100000 in
theorem r1000_d373 : run1000 Go.Proofs.Ythcdiaahpodkoaa.pair3Drawn.d373 = true := by kernel_rfl
set_option maxRecDepth 100000 in
theorem r1001_d373 : run1001 Go.Proofs.Ythcdiaahpodkoaa.pair3Drawn.d373 = true := by kernel_rfl
set_option maxRecDepth 100000 in
theorem r1000_d377 : run1000 Go.Proofs.Ythcdiaahpodkoaa.pair3Drawn.d377 = true := by kernel_rfl
set_option maxRecDepth 100000 in
theorem r1001_d377 : run1001 Go.Proofs.Ythcdiaahpodkoaa.pair3Drawn.d377 = true := by kernel_rfl
set_option maxRecDepth 100000 in
theorem r1000_d381 : run1000 Go.Proofs.Ythcdiaahpodkoaa.pair3Drawn.d381 = true := by kernel_rfl
set_option maxRecDepth 100000 in
theorem r1001_d381 : run1001 Go.Proofs.Ythcdiaahpodkoaa.pair3Drawn.d381 = true := by kernel_rfl
set_option maxRecDepth 100000 in
theorem r1000_d385 : run1000 Go.Proofs.Ythcdiaahpodkoaa.pair3Drawn.d385 = true := by kernel_rfl
set_option maxRecDepth 100000 in
theorem r1001_d385 : run1001 Go.Proofs.Ythcdiaahpodkoaa.pair3Drawn.d385 = true := by kernel_rfl
set_option maxRecDepth 100000 in
theorem r1000_d389 : run1000 Go.Proofs.Ythcdiaahpodkoaa.pair3Drawn.d389 = true := by kernel_rfl
set_option maxRecDepth 100000 in
theorem r1001_d389 : run1001 Go.Proofs.Ythcdiaahpodkoaa.pair3Drawn.d389 = true := by kernel_rfl
set_option maxRecDepth 100000 in
theorem r1000_d393 : run1000 Go.Proofs.Ythcdiaahpodkoaa.pair3Drawn.d393 = true := by kernel_rfl
set_option maxRecDepth 100000 in
theorem r1001_d393 : run1001 Go.Proofs.Ythcdiaahpodkoaa.pair3Drawn.d393 = true := by kernel_rfl
set_option maxRecDepth 100000 in
theorem r1000_d397 : run1000 Go.Proofs.Ythcdiaahpodkoaa.pair3Drawn.d397 = true := by kernel_rfl
set_option maxRecDepth 100000 in
theorem r1001_d397 : run1001 Go.Proofs.Ythcdiaahpodkoaa.pair3Drawn.d397 = true := by kernel_rfl
set_option maxRecDepth 100000 in
theorem r1000_d401 : run1000 Go.Proofs.Ythcdiaahpodkoaa.pair3Drawn.d401 = true := by kernel_rfl
set_option maxRecDepth 100000 in
theorem r1001_d401 : run1001 Go.Proofs.Ythcdiaahpodkoaa.pair3Drawn.d401 = true := by kernel_rfl
set_option maxRecDepth 100000 in
theorem r1000_d405 : run1000 Go.Proofs.Ythcdiaahpodkoaa.pair3Drawn.d405 = true := by kernel_rfl
set_option maxRecDepth 100000 in
theorem r1001_d405 : run1001 Go.Proofs.Ythcdiaahpodkoaa.pair3Drawn.d405 = true := by kernel_rfl
set_option maxRecDepth 100000 in
theorem r1000_d409 : run1000 Go.Proofs.Ythcdiaahpodkoaa.pair3Drawn.d409 = true := by kernel_rfl
set_option maxRecDepth 100000 in
theorem r1001_d409 : run1001 Go.Proofs.Ythcdiaahpodkoaa.pair3Drawn.d409 = true := by kernel_rfl
set_option maxRecDepth 100000 in
theorem r1000_d413 : run1000 Go.Proofs.Ythcdiaahpodkoaa.pair3Drawn.d413 = true := by kernel_rfl
set_option maxRecDepth 100000 in
theorem r1001_d413 : run1001 Go.Proofs.Ythcdiaahpodkoaa.pair3Drawn.d413 = true := by kernel_rfl
set_option maxRecDepth 100000 in
theorem r1000_d417 : run1000 Go.Proofs.Ythcdiaahpodkoaa.pair3Drawn.d417 = true := by kernel_rfl
set_option maxRecDepth 100000 in
theorem r1001_d417 : run1001 Go.Proofs.Ythcdiaahpodkoaa.pair3Drawn.d417 = true := by kernel_rfl
set_option maxRecDepth 100000 in
theorem r1000_d421 : run1000 Go.Proofs.Ythcdiaahpodkoaa.pair3Drawn.d421 = true := by kernel_rfl
set_option maxRecDepth 100000 in
theorem r1001_d421 : run1001 Go.Proofs.Ythcdiaahpodkoaa.pair3Drawn.d421 = true := by kernel_rfl
set_option maxRecDepth 100000 in
theorem r1000_d425 : run1000 Go.Proofs.Ythcdiaahpodkoaa.pair3Drawn.d425 = true := by kernel_rfl
set_option maxRecDepth 100000 in
theorem r1001_d425 : run1001 Go.Proofs.Ythcdiaahpodkoaa.pair3Drawn.d425 = true := by kernel_rfl
set_option maxRecDepth 100000 in
theorem r1000_d429 : run1000 Go.Proofs.Ythcdiaahpodkoaa.pair3Drawn.d429 = true := by kernel_rfl
set_option maxRecDepth 100000 in
theorem r1001_d429 : run1001 Go.Proofs.Ythcdiaahpodkoaa.pair3Drawn.d429 = true := by kernel_rfl
set_option maxRecDepth 100000 in
theorem r1000_d433 : run1000 Go.Proofs.Ythcdiaahpodkoaa.pair3Drawn.d433 = true := by kernel_rfl
set_option maxRecDepth 100000 in
theorem r1001_d433 : run1001 Go.Proofs.Ythcdiaahpodkoaa.pair3Drawn.d433 = true := by kernel_rfl
set_option maxRecDepth 100000 in
theorem r1000_d437 : run1000 Go.Proofs.Ythcdiaahpodkoaa.pair3Drawn.d437 = true := by kernel_rfl
set_option maxRecDepth 100000 in
theorem r1001_d437 : run1001 Go.Proofs.Ythcdiaahpodkoaa.pair3Drawn.d437 = true := by kernel_rfl
set_option maxRecDepth 100000 in
theorem r1000_d441 : run1000 Go.Proofs.Ythcdiaahpodkoaa.pair3Drawn.d441 = true := by kernel_rfl
set_option maxRecDepth 100000 in
theorem r1001_d441 : run1001 Go.Proofs.Ythcdiaahpodkoaa.pair3Drawn.d441 = true := by kernel_rfl
set_option maxRecDepth 100000 in
theorem r1000_d445 : run1000 Go.Proofs.Ythcdiaahpodkoaa.pair3Drawn.d445 = true := by kernel_rfl
set_option maxRecDepth 100000 in
theorem r1001_d445 : run1001 Go.Proofs.Ythcdiaahpodkoaa.pair3Drawn.d445 = true := by kernel_rfl
set_option maxRecDepth 100000 in
theorem r1000_d449 : run1000 Go.Proofs.Ythcdiaahpodkoaa.pair3Drawn.d449 = true := by kernel_rfl
set_option maxRecDepth 100000 in
theorem r1001_d449 : run1001 Go.Proofs.Ythcdiaahpodkoaa.pair3Drawn.d449 = true := by kernel_rfl
set_option maxRecDepth 100000 in
theorem r1000_d453 : run1000 Go.Proofs.Ythcdiaahpodkoaa.pair3Drawn.d453 = true := by kernel_rfl
set_option maxRecDepth 100000 in
theorem r1001_d453 : run1001 Go.Proofs.Ythcdiaahpodkoaa.pair3Drawn.d453 = true := by kernel_rfl
set_option maxRecDepth 100000 in
theorem r1000_d457 : run1000 Go.Proofs.Ythcdiaahpodkoaa.pair3Drawn.d457 = true := by kernel_rfl
set_option maxRecDepth 100000 in
theorem r1001_d457 : run1001 Go.Proofs.Ythcdiaahpodkoaa.pair3Drawn.d457 = true := by kernel_rfl
set_option maxRecDepth 100000 in
theorem r1000_d461 : run1000 Go.Proofs.Ythcdiaahpodkoaa.pair3Drawn.d461 = true := by kernel_rfl
set_option maxRecDepth 100000 in
theorem r1001_d461 : run1001 Go.Proofs.Ythcdiaahpodkoaa.pair3Drawn.d461 = true := by kernel_rfl
set_option maxRecDepth 100000 in
theorem r1000_d465 : run1000 Go.Proofs.Ythcdiaahpodkoaa.pair3Drawn.d465 = true := by kernel_rfl
set_option maxRecDepth 100000 in
theorem r1001_d465 : run1001 Go.Proofs.Ythcdiaahpodkoaa.pair3Drawn.d465 = true := by kernel_rfl
set_option maxRecDepth 100000 in
theorem r1000_d469 : run1000 Go.Proofs.Ythcdiaahpodkoaa.pair3Drawn.d469 = true := by kernel_rfl
set_option maxRecDepth 100000 in
theorem r1001_d469 : run1001 Go.Proofs.Ythcdiaahpodkoaa.pair3Drawn.d469 = true := by kernel_rfl
set_option maxRecDepth 100000 in
theorem r1000_d473 : run1000 Go.Proofs.Ythcdiaahpodkoaa.pair3Drawn.d473 = true := by kernel_rfl
set_option maxRecDepth 100000 in
theorem r1001_d473 : run1001 Go.Proofs.Ythcdiaahpodkoaa.pair3Drawn.d473 = true := by kernel_rfl
set_option maxRecDepth 100000 in
theorem r1000_d477 : run1000 Go.Proofs.Ythcdiaahpodkoaa.pair3Drawn.d477 = true := by kernel_rfl
set_option maxRecDepth 100000 in
theorem r1001_d477 : run1001 Go.Proofs.Ythcdiaahpodkoaa.pair3Drawn.d477 = true := by kernel_rfl
set_option maxRecDepth 100000 in
theorem r1000_d481 : run1000 Go.Proofs.Ythcdiaahpodkoaa.pair3Drawn.d481 = true := by kernel_rfl
set_option maxRecDepth 100000 in
theorem r1001_d481 : run1001 Go.Proofs.Ythcdiaahpodkoaa.pair3Drawn.d481 = true := by kernel_rfl
set_option maxRecDepth 100000 in
theorem r1000_d485 : run1000 Go.Proofs.Ythcdiaahpodkoaa.pair3Drawn.d485 = true := by kernel_rfl
set_option maxRecDepth 100000 in
theorem r1001_d485 : run1001 Go.Proofs.Ythcdiaahpodkoaa.pair3Drawn.d485 = true := by kernel_rfl
set_option maxRecDepth 100000 in
theorem r1000_d489 : run1000 Go.Proofs.Ythcdiaahpodkoaa.pair3Drawn.d489 = true := by kernel_rfl
set_option maxRecDepth 100000 in
theorem r1001_d489 : run1001 Go.Proofs.Ythcdiaahpodkoaa.pair3Drawn.d489 = true := by kernel_rfl
set_option maxRecDepth 100000 in
theorem r1000_d493 : run1000 Go.Proofs.Ythcdiaahpodkoaa.pair3Drawn.d493 = true := by kernel_rfl
set_option maxRecDepth 100000 in
theorem r1001_d493 : run1001 Go.Proofs.Ythcdiaahpodkoaa.pair3Drawn.d493 = true := by kernel_rfl
set_option maxRecDepth 100000 in
theorem r1000_d497 : run1000 Go.Proofs.Ythcdiaahpodkoaa.pair3Drawn.d497 = true := by kernel_rfl
set_option maxRecDepth 100000 in
theorem r1001_d497 : run1001 Go.Proofs.Ythcdiaahpodkoaa.pair3Drawn.d497 = true := by kernel_rfl
set_option maxRecDepth 100000 in
theorem r1000_d501 : run1000 Go.Proofs.Ythcdiaahpodkoaa.pair3Drawn.d501 = true := by kernel_rfl
set_option maxRecDepth 100000 in
theorem r1001_d501 : run1001 Go.Proofs.Ythcdiaahpodkoaa.pair3Drawn.d501 = true := by kernel_rfl
set_option maxRecDepth 100000 in
theorem r1000_d505 : run1000 Go.Proofs.Ythcdiaahpodkoaa.pair3Drawn.d505 = true := by kernel_rfl
set_option maxRecDepth 100000 in
theorem r1001_d505 : run1001 Go.Proofs.Ythcdiaahpodkoaa.pair3Drawn.d505 = true := by kernel_rfl
set_option maxRecDepth 100000 in
theorem r1000_d509 : run1000 Go.Proofs.Ythcdiaahpodkoaa.pair3Drawn.d509 = true := by kernel_rfl
set_option maxRecDepth 100000 in
theorem r1001_d509 : run1001 Go.Proofs.Ythcdiaahpodkoaa.pair3Drawn.d509 = true := by kernel_rfl
set_option maxRecDepth 100000 in
theorem r1000_d513 : run1000 Go.Proofs.Ythcdiaahpodkoaa.pair3Drawn.d513 = true := by kernel_rfl
set_option maxRecDepth 100000 in
theorem r1001_d513 : run1001 Go.Proofs.Ythcdiaahpodkoaa.pair3Drawn.d513 = true := by kernel_rfl
set_option maxRecDepth 100000 in
theorem r1000_d517 : run1000 Go.Proofs.Ythcdiaahpodkoaa.pair3Drawn.d517 = true := by kernel_rfl
set_option maxRecDepth 100000 in
theorem r1001_d517 : run1001 Go.Proofs.Ythcdiaahpodkoaa.pair3Drawn.d517 = true := by kernel_rfl
set_option maxRecDepth 100000 in
theorem r1000_d521 : run1000 Go.Proofs.Ythcdiaahpodkoaa.pair3Drawn.d521 = true := by kernel_rfl
set_option maxRecDepth 100000 in
theorem r1001_d521 : run1001 Go.Proofs.Ythcdiaahpodkoaa.pair3Drawn.d521 = true := by kernel_rfl
set_option maxRecDepth 100000 in
theorem r1000_d525 : run1000 Go.Proofs.Ythcdiaahpodkoaa.pair3Drawn.d525 = true := by kernel_rfl
set_option maxRecDepth 100000 in
theorem r1001_d525 : run1001 Go.Proofs.Ythcdiaahpodkoaa.pair3Drawn.d525 = true := by kernel_rfl
set_option maxRecDepth 100000 in
theorem r1000_d529 : run1000 Go.Proofs.Ythcdiaahpodkoaa.pair3Drawn.d529 = true := by kernel_rfl
set_option maxRecDepth 100000 in
theorem r1001_d529 : run1001 Go.Proofs.Ythcdiaahpodkoaa.pair3Drawn.d529 = true := by kernel_rfl
set_option maxRecDepth 100000 in
theorem r1000_d533 : run1000 Go.Proofs.Ythcdiaahpodkoaa.pair3Drawn.d533 = true := by kernel_rfl
set_option maxRecDepth 100000 in
theorem r1001_d533 : run1001 Go.Proofs.Ythcdiaahpodkoaa.pair3Drawn.d533 = true := by kernel_rfl
set_option maxRecDepth 100000 in
theorem r1000_d537 : run1000 Go.Proofs.Ythcdiaahpodkoaa.pair3Drawn.d537 = true := by kernel_rfl
set_option maxRecDepth 100000 in
theorem r1001_d537 : run1001 Go.Proofs.Ythcdiaahpodkoaa.pair3Drawn.d537 = true := by kernel_rfl
set_option maxRecDepth 100000 in
theorem r1000_d541 : run1000 Go.Proofs.Ythcdiaahpodkoaa.pair3Drawn.d541 = true := by kernel_rfl
set_option maxRecDepth 100000 in
theorem r1001_d541 : run1001 Go.Proofs.Ythcdiaahpodkoaa.pair3Drawn.d541 = true := by kernel_rfl
set_option maxRecDepth 100000 in
theorem r1000_d545 : run1000 Go.Proofs.Ythcdiaahpodkoaa.pair3Drawn.d545 = true := by kernel_rfl
set_option maxRecDepth 100000 in
theorem r1001_d545 : run1001 Go.Proofs.Ythcdiaahpodkoaa.pair3Drawn.d545 = true := by kernel_rfl
set_option maxRecDepth 100000 in
theorem r1000_d549 : run1000 Go.Proofs.Ythcdiaahpodkoaa.pair3Drawn.d549 = true := by kernel_rfl
set_option maxRecDepth 100000 in
theorem r1001_d549 : run1001 Go.Proofs.Ythcdiaahpodkoaa.pair3Drawn.d549 = true := by kernel_rfl
set_option maxRecDepth 100000 in
theorem r1000_d553 : run1000 Go.Proofs.Ythcdiaahpodkoaa.pair3Drawn.d553 = true := by kernel_rfl
set_option maxRecDepth 100000 in
theorem r1001_d553 : run1001 Go.Proofs.Ythcdiaahpodkoaa.pair3Drawn.d553 = true := by kernel_rfl
set_option maxRecDepth 100000 in
theorem r1000_d557 : run1000 Go.Proofs.Ythcdiaahpodkoaa.pair3Drawn.d557 = true := by kernel_rfl
set_option maxRecDepth 100000 in
theorem r1001_d557 : run1001 Go.Proofs.Ythcdiaahpodkoaa.pair3Drawn.d557 = true := by kernel_rfl
set_option maxRecDepth 100000 in
theorem r1000_d561 : run1000 Go.Proofs.Ythcdiaahpodkoaa.pair3Drawn.d561 = true := by kernel_rfl
set_option maxRecDepth 100000 in
theorem r1001_d561 : run1001 Go.Proofs.Ythcdiaahpodkoaa.pair3Drawn.d561 = true := by kernel_rfl
set_option maxRecDepth 100000 in
theorem r1000_d565 : run1000 Go.Proofs.Ythcdiaahpodkoaa.pair3Drawn.d565 = true := by kernel_rfl
set_option maxRecDepth 100000 in
theorem r1001_d565 : run1001 Go.Proofs.Ythcdiaahpodkoaa.pair3Drawn.d565 = true := by kernel_rfl
set_option maxRecDepth 100000 in
theorem r1000_d569 : run1000 Go.Proofs.Ythcdiaahpodkoaa.pair3Drawn.d569 = true := by kernel_rfl
set_option maxRecDepth 100000 in
theorem r1001_d569 : run1001 Go.Proofs.Ythcdiaahpodkoaa.pair3Drawn.d569 = true := by kernel_rfl
set_option maxRecDepth 100000 in
theorem r1000_d573 : run1000 Go.Proofs.Ythcdiaahpodkoaa.pair3Drawn.d573 = true := by kernel_rfl
set_option maxRecDepth 100000 in
theorem r1001_d573 : run1001 Go.Proofs.Ythcdiaahpodkoaa.pair3Drawn.d573 = true := by kernel_rfl
set_option maxRecDepth 100000 in
theorem r1000_d577 : run1000 Go.Proofs.Ythcdiaahpodkoaa.pair3Drawn.d577 = true := by kernel_rfl
set_option maxRecDepth 100000 in
theorem r1001_d577 : run1001 Go.Proofs.Ythcdiaahpodkoaa.pair3Drawn.d577 = true := by kernel_rfl
set_option maxRecDepth 100000 in
theorem r1000_d581 : run1000 Go.Proofs.Ythcdiaahpodkoaa.pair3Drawn.d581 = true := by kernel_rfl
set_option maxRecDepth 100000 in
theorem r1001_d581 : run1001 Go.Proofs.Ythcdiaahpodkoaa.pair3Drawn.d581 = true := by kernel_rfl
set_option maxRecDepth 100000 in
theorem r1000_d585 : run1000 Go.Proofs.Ythcdiaahpodkoaa.pair3Drawn.d585 = true := by kernel_rfl
set_option maxRecDepth 100000 in
theorem r1001_d585 : run1001 Go.Proofs.Ythcdiaahpodkoaa.pair3Drawn.d585 = true := by kernel_rfl
set_option maxRecDepth 100000 in
theorem r1000_d589 : run1000 Go.Proofs.Ythcdiaahpodkoaa.pair3Drawn.d589 = true := by kernel_rfl
set_option maxRecDepth 100000 in
theorem r1001_d589 : run1001 Go.Proofs.Ythcdiaahpodkoaa.pair3Drawn.d589 = true := by kernel_rfl
set_option maxRecDepth 100000 in
theorem r1000_d593 : run1000 Go.Proofs.Ythcdiaahpodkoaa.pair3Drawn.d593 = true := by kernel_rfl
set_option maxRecDepth 100000 in
theorem r1001_d593 : run1001 Go.Proofs.Ythcdiaahpodkoaa.pair3Drawn.d593 = true := by kernel_rfl
set_option maxRecDepth 100000 in
theorem r1000_d597 : run1000 Go.Proofs.Ythcdiaahpodkoaa.pair3Drawn.d597 = true := by kernel_rfl
set_option maxRecDepth 100000 in
theorem r1001_d597 : run1001 Go.Proofs.Ythcdiaahpodkoaa.pair3Drawn.d597 = true := by kernel_rfl
set_option maxRecDepth 100000 in
theorem r1000_d601 : run1000 Go.Proofs.Ythcdiaahpodkoaa.pair3Drawn.d601 = true := by kernel_rfl
set_option maxRecDepth 100000 in
theorem r1001_d601 : run1001 Go.Proofs.Ythcdiaahpodkoaa.pair3Drawn.d601 = true := by kernel_rfl
set_option maxRecDepth 100000 in
theorem r1000_d605 : run1000 Go.Proofs.Ythcdiaahpodkoaa.pair3Drawn.d605 = true := by kernel_rfl
set_option maxRecDepth 100000 in
theorem r1001_d605 : run1001 Go.Proofs.Ythcdiaahpodkoaa.pair3Drawn.d605 = true := by kernel_rfl
set_option maxRecDepth 100000 in
theorem r1000_d609 : run1000 Go.Proofs.Ythcdiaahpodkoaa.pair3Drawn.d609 = true := by kernel_rfl
set_option maxRecDepth 100000 in
theorem r1001_d609 : run1001 Go.Proofs.Ythcdiaahpodkoaa.pair3Drawn.d609 = true := by kernel_rfl
set_option maxRecDepth 100000 in
theorem r1000_d613 : run1000 Go.Proofs.Ythcdiaahpodkoaa.pair3Drawn.d613 = true := by kernel_rfl
set_option maxRecDepth 100000 in
theorem r1001_d613 : run1001 Go.Proofs.Ythcdiaahpodkoaa.pair3Drawn.d613 = true := by kernel_rfl
set_option maxRecDepth 100000 in
theorem r1000_d617 : run1000 Go.Proofs.Ythcdiaahpodkoaa.pair3Drawn.d617 = true := by kernel_rfl
set_option maxRecDepth 100000 in
theorem r1001_d617 : run1001 Go.Proofs.Ythcdiaahpodkoaa.pair3Drawn.d617 = true := by kernel_rfl
set_option maxRecDepth 100000 in
theorem r1000_d621 : run1000 Go.Proofs.Ythcdiaahpodkoaa.pair3Drawn.d621 = true := by kernel_rfl
set_option maxRecDepth 100000 in
theorem r1001_d621 : run1001 Go.Proofs.Ythcdiaahpodkoaa.pair3Drawn.d621 = true := by kernel_rfl
set_option maxRecDepth 100000 in
theorem r1000_d625 : run1000 Go.Proofs.Ythcdiaahpodkoaa.pair3Drawn.d625 = true := by kernel_rfl
set_option maxRecDepth 100000 in
theorem r1001_d625 : run1001 Go.Proofs.Ythcdiaahpodkoaa.pair3Drawn.d625 = true := by kernel_rfl
set_option maxRecDepth 100000 in
theorem r1000_d629 : run1000 Go.Proofs.Ythcdiaahpodkoaa.pair3Drawn.d629 = true := by kernel_rfl
set_option maxRecDepth 100000 in
theorem r1001_d629 : run1001 Go.Proofs.Ythcdiaahpodkoaa.pair3Drawn.d629 = true := by kernel_rfl
set_option maxRecDepth 100000 in
theorem r1000_d633 : run1000 Go.Proofs.Ythcdiaahpodkoaa.pair3Drawn.d633 = true := by kernel_rfl
set_option maxRecDepth 100000 in
theorem r1001_d633 : run1001 Go.Proofs.Ythcdiaahpodkoaa.pair3Drawn.d633 = true := by kernel_rfl
set_option maxRecDepth 100000 in
theorem r1000_d637 : run1000 Go.Proofs.Ythcdiaahpodkoaa.pair3Drawn.d637 = true := by kernel_rfl
set_option maxRecDepth 100000 in
theorem r1001_d637 : run1001 Go.Proofs.Ythcdiaahpodkoaa.pair3Drawn.d637 = true := by kernel_rfl
set_option maxRecDepth 100000 in
theorem r1000_d641 : run1000 Go.Proofs.Ythcdiaahpodkoaa.pair3Drawn.d641 = true := by kernel_rfl
set_option maxRecDepth 100000 in
theorem r1001_d641 : run1001 Go.Proofs.Ythcdiaahpodkoaa.pair3Drawn.d641 = true := by kernel_rfl
set_option maxRecDepth 100000 in
theorem r1000_d645 : run1000 Go.Proofs.Ythcdiaahpodkoaa.pair3Drawn.d645 = true := by kernel_rfl
set_option maxRecDepth 100000 in
theorem r1001_d645 : run1001 Go.Proofs.Ythcdiaahpodkoaa.pair3Drawn.d645 = true := by kernel_rfl
set_option maxRecDepth 100000 in
theorem r1000_d649 : run1000 Go.Proofs.Ythcdiaahpodkoaa.pair3Drawn.d649 = true := by kernel_rfl
set_option maxRecDepth 100000 in
theorem r1001_d649 : run1001 Go.Proofs.Ythcdiaahpodkoaa.pair3Drawn.d649 = true := by kernel_rfl
set_option maxRecDepth 100000 in
theorem r1000_d653 : run1000 Go.Proofs.Ythcdiaahpodkoaa.pair3Drawn.d653 = true := by kernel_rfl
set_option maxRecDepth 100000 in
theorem r1001_d653 : run1001 Go.Proofs.Ythcdiaahpodkoaa.pair3Drawn.d653 = true := by kernel_rfl
set_option maxRecDepth 100000 in
theorem r1000_d657 : run1000 Go.Proofs.Ythcdiaahpodkoaa.pair3Drawn.d657 = true := by kernel_rfl
set_option maxRecDepth 100000 in
theorem r1001_d657 : run1001 Go.Proofs.Ythcdiaahpodkoaa.pair3Drawn.d657 = true := by kernel_rfl
set_option maxRecDepth 100000 in
theorem r1000_d661 : run1000 Go.Proofs.Ythcdiaahpodkoaa.pair3Drawn.d661 = true := by kernel_rfl
set_option maxRecDepth 100000 in
theorem r1001_d661 : run1001 Go.Proofs.Ythcdiaahpodkoaa.pair3Drawn.d661 = true := by kernel_rfl
set_option maxRecDepth 100000 in
theorem r1000_d665 : run1000 Go.Proofs.Ythcdiaahpodkoaa.pair3Drawn.d665 = true := by kernel_rfl
set_option maxRecDepth 100000 in
theorem r1001_d665 : run1001 Go.Proofs.Ythcdiaahpodkoaa.pair3Drawn.d665 = true := by kernel_rfl
set_option maxRecDepth 100000 in
theorem r1000_d669 : run1000 Go.Proofs.Ythcdiaahpodkoaa.pair3Drawn.d669 = true := by kernel_rfl
set_option maxRecDepth 100000 in
theorem r1001_d669 : run1001 Go.Proofs.Ythcdiaahpodkoaa.pair3Drawn.d669 = true := by kernel_rfl
set_option maxRecDepth 100000 in
theorem r1000_d673 : run1000 Go.Proofs.Ythcdiaahpodkoaa.pair3Drawn.d673 = true := by kernel_rfl
set_option maxRecDepth 100000 in
theorem r1001_d673 : run1001 Go.Proofs.Ythcdiaahpodkoaa.pair3Drawn.d673 = true := by kernel_rfl
set_option maxRecDepth 100000 in
theorem r1000_d677 : run1000 Go.Proofs.Ythcdiaahpodkoaa.pair3Drawn.d677 = true := by kernel_rfl
set_option maxRecDepth 100000 in
theorem r1001_d677 : run1001 Go.Proofs.Ythcdiaahpodkoaa.pair3Drawn.d677 = true := by kernel_rfl
set_option maxRecDepth 100000 in
theorem r1000_d681 : run1000 Go.Proofs.Ythcdiaahpodkoaa.pair3Drawn.d681 = true := by kernel_rfl
set_option maxRecDepth 100000 in
theorem r1001_d681 : run1001 Go.Proofs.Ythcdiaahpodkoaa.pair3Drawn.d681 = true := by kernel_rfl
set_option maxRecDepth 100000 in
theorem r1000_d685 : run1000 Go.Proofs.Ythcdiaahpodkoaa.pair3Drawn.d685 = true := by kernel_rfl
set_option maxRecDepth 100000 in
theorem r1001_d685 : run1001 Go.Proofs.Ythcdiaahpodkoaa.pair3Drawn.d685 = true := by kernel_rfl
set_option maxRecDepth 100000 in
theorem r1000_d689 : run1000 Go.Proofs.Ythcdiaahpodkoaa.pair3Drawn.d689 = true := by kernel_rfl
set_option maxRecDepth 100000 in
theorem r1001_d689 : run1001 Go.Proofs.Ythcdiaahpodkoaa.pair3Drawn.d689 = true := by kernel_rfl
set_option maxRecDepth 100000 in
theorem r1000_d693 : run1000 Go.Proofs.Ythcdiaahpodkoaa.pair3Drawn.d693 = true := by kernel_rfl
set_option maxRecDepth 100000 in
theorem r1001_d693 : run1001 Go.Proofs.Ythcdiaahpodkoaa.pair3Drawn.d693 = true := by kernel_rfl
set_option maxRecDepth 100000 in
theorem r1000_d697 : run1000 Go.Proofs.Ythcdiaahpodkoaa.pair3Drawn.d697 = true := by kernel_rfl
set_option maxRecDepth 100000 in
theorem r1001_d697 : run1001 Go.Proofs.Ythcdiaahpodkoaa.pair3Drawn.d697 = true := by kernel_rfl
set_option maxRecDepth 100000 in
theorem r1000_d701 : run1000 Go.Proofs.Ythcdiaahpodkoaa.pair3Drawn.d701 = true := by kernel_rfl
set_option maxRecDepth 100000 in
theorem r1001_d701 : run1001 Go.Proofs.Ythcdiaahpodkoaa.pair3Drawn.d701 = true := by kernel_rfl
set_option maxRecDepth 100000 in
theorem r1000_d705 : run1000 Go.Proofs.Ythcdiaahpodkoaa.pair3Drawn.d705 = true := by kernel_rfl
set_option maxRecDepth 100000 in
theorem r1001_d705 : run1001 Go.Proofs.Ythcdiaahpodkoaa.pair3Drawn.d705 = true := by kernel_rfl
set_option maxRecDepth 100000 in
theorem r1000_d709 : run1000 Go.Proofs.Ythcdiaahpodkoaa.pair3Drawn.d709 = true := by kernel_rfl
set_option maxRecDepth 100000 in
theorem r1001_d709 : run1001 Go.Proofs.Ythcdiaahpodkoaa.pair3Drawn.d709 = true := by kernel_rfl
set_option maxRecDepth 100000 in
theorem r1000_d713 : run1000 Go.Proofs.Ythcdiaahpodkoaa.pair3Drawn.d713 = true := by kernel_rfl
set_option maxRecDepth 100000 in
theorem r1001_d713 : run1001 Go.Proofs.Ythcdiaahpodkoaa.pair3Drawn.d713 = true := by kernel_rfl
set_option maxRecDepth 100000 in
theorem r1000_d717 : run1000 Go.Proofs.Ythcdiaahpodkoaa.pair3Drawn.d717 = true := by kernel_rfl
set_option maxRecDepth 100000 in
theorem r1001_d717 : run1001 Go.Proofs.Ythcdiaahpodkoaa.pair3Drawn.d717 = true := by kernel_rfl
set_option maxRecDepth 100000 in
theorem r1000_d721 : run1000 Go.Proofs.Ythcdiaahpodkoaa.pair3Drawn.d721 = true := by kernel_rfl
set_option maxRecDepth 100000 in
theorem r1001_d721 : run1001 Go.Proofs.Ythcdiaahpodkoaa.pair3Drawn.d721 = true := by kernel_rfl
set_option maxRecDepth 100000 in
theorem r1000_d725 : run1000 Go.Proofs.Ythcdiaahpodkoaa.pair3Drawn.d725 = true := by kernel_rfl
set_option maxRecDepth 100000 in
theorem r1001_d725 : run1001 Go.Proofs.Ythcdiaahpodkoaa.pair3Drawn.d725 = true := by kernel_rfl
set_option maxRecDepth 100000 in
theorem r1000_d729 : run1000 Go.Proofs.Ythcdiaahpodkoaa.pair3Drawn.d729 = true := by kernel_rfl
set_option maxRecDepth 100000 in
theorem r1001_d729 : run1001 Go.Proofs.Ythcdiaahpodkoaa.pair3Drawn.d729 = true := by kernel_rfl
set_option maxRecDepth 100000 in
theorem r1000_d733 : run1000 Go.Proofs.Ythcdiaahpodkoaa.pair3Drawn.d733 = true := by kernel_rfl
set_option maxRecDepth 100000 in
theorem r1001_d733 : run1001 Go.Proofs.Ythcdiaahpodkoaa.pair3Drawn.d733 = true := by kernel_rfl
set_option maxRecDepth 100000 in
theorem r1000_d737 : run1000 Go.Proofs.Ythcdiaahpodkoaa.pair3Drawn.d737 = true := by kernel_rfl
set_option maxRecDepth 100000 in
theorem r1001_d737 : run1001 Go.Proofs.Ythcdiaahpodkoaa.pair3Drawn.d737 = true := by kernel_rfl
set_option maxRecDepth 100000 in
theorem r1000_d741 : run1000 Go.Proofs.Ythcdiaahpodkoaa.pair3Drawn.d741 = true := by kernel_rfl
set_option maxRecDepth 100000 in
theorem r1001_d741 : run1001 Go.Proofs.Ythcdiaahpodkoaa.pair3Drawn.d741 = true := by kernel_rfl
set_option maxRecDepth 100000 in
theorem r1000_d745 : run1000 Go.Proofs.Ythcdiaahpodkoaa.pair3Drawn.d745 = true := by kernel_rfl
set_option maxRecDepth 100000 in
theorem r1001_d745 : run1001 Go.Proofs.Ythcdiaahpodkoaa.pair3Drawn.d745 = true := by kernel_rfl
set_option maxRecDepth 100000 in
theorem r1000_d749 : run1000 Go.Proofs.Ythcdiaahpodkoaa.pair3Drawn.d749 = true := by kernel_rfl
set_option maxRecDepth 100000 in
theorem r1001_d749 : run1001 Go.Proofs.Ythcdiaahpodkoaa.pair3Drawn.d749 = true := by kernel_rfl
set_option maxRecDepth 100000 in
theorem r1000_d753 : run1000 Go.Proofs.Ythcdiaahpodkoaa.pair3Drawn.d753 = true := by kernel_rfl
set_option maxRecDepth 100000 in
theorem r1001_d753 : run1001 Go.Proofs.Ythcdiaahpodkoaa.pair3Drawn.d753 = true := by kernel_rfl
set_option maxRecDepth 100000 in
theorem r1000_d757 : run1000 Go.Proofs.Ythcdiaahpodkoaa.pair3Drawn.d757 = true := by kernel_rfl
set_option maxRecDepth 100000 in
theorem r1001_d757 : run1001 Go.Proofs.Ythcdiaahpodkoaa.pair3Drawn.d757 = true := by kernel_rfl
set_option maxRecDepth 100000 in
theorem r1000_d761 : run1000 Go.Proofs.Ythcdiaahpodkoaa.pair3Drawn.d761 = true := by kernel_rfl
set_option maxRecDepth 100000 in
theorem r1001_d761 : run1001 Go.Proofs.Ythcdiaahpodkoaa.pair3Drawn.d761 = true := by kernel_rfl
set_option maxRecDepth 100000 in
theorem r1000_d765 : run1000 Go.Proofs.Ythcdiaahpodkoaa.pair3Drawn.d765 = true := by kernel_rfl
set_option maxRecDepth 100000 in
theorem r1001_d765 : run1001 Go.Proofs.Ythcdiaahpodkoaa.pair3Drawn.d765 = true := by kernel_rfl
set_option maxRecDepth 100000 in
theorem r1000_d769 : run1000 Go.Proofs.Ythcdiaahpodkoaa.pair3Drawn.d769 = true := by kernel_rfl
set_option maxRecDepth 100000 in
theorem r1001_d769 : run1001 Go.Proofs.Ythcdiaahpodkoaa.pair3Drawn.d769 = true := by kernel_rfl
set_option maxRecDepth 100000 in
theorem r1000_d773 : run1000 Go.Proofs.Ythcdiaahpodkoaa.pair3Drawn.d773 = true := by kernel_rfl
set_option maxRecDepth 100000 in
theorem r1001_d773 : run1001 Go.Proofs.Ythcdiaahpodkoaa.pair3Drawn.d773 = true := by kernel_rfl
set_option maxRecDepth 100000 in
theorem r1000_d777 : run1000 Go.Proofs.Ythcdiaahpodkoaa.pair3Drawn.d777 = true := by kernel_rfl
set_option maxRecDepth 100000 in
theorem r1001_d777 : run1001 Go.Proofs.Ythcdiaahpodkoaa.pair3Drawn.d777 = true := by kernel_rfl
set_option maxRecDepth 100000 in
theorem r1000_d781 : run1000 Go.Proofs.Ythcdiaahpodkoaa.pair3Drawn.d781 = true := by kernel_rfl
set_option maxRecDepth 100000 in
theorem r1001_d781 : run1001 Go.Proofs.Ythcdiaahpodkoaa.pair3Drawn.d781 = true := by kernel_rfl
set_option maxRecDepth 100000 in
theorem r1000_d785 : run1000 Go.Proofs.Ythcdiaahpodkoaa.pair3Drawn.d785 = true := by kernel_rfl
set_option maxRecDepth 100000 in
theorem r1001_d785 : run1001 Go.Proofs.Ythcdiaahpodkoaa.pair3Drawn.d785 = true := by kernel_rfl
set_option maxRecDepth 100000 in
theorem r1000_d789 : run1000 Go.Proofs.Ythcdiaahpodkoaa.pair3Drawn.d789 = true := by kernel_rfl
set_option maxRecDepth 100000 in
theorem r1001_d789 : run1001 Go.Proofs.Ythcdiaahpodkoaa.pair3Drawn.d789 = true := by kernel_rfl
set_option maxRecDepth 100000 in
theorem r1000_d793 : run1000 Go.Proofs.Ythcdiaahpodkoaa.pair3Drawn.d793 = true := by kernel_rfl
set_option maxRecDepth 100000 in
theorem r1001_d793 : run1001 Go.Proofs.Ythcdiaahpodkoaa.pair3Drawn.d793 = true := by kernel_rfl
set_option maxRecDepth 100000 in
theorem r1000_d797 : run1000 Go.Proofs.Ythcdiaahpodkoaa.pair3Drawn.d797 = true := by kernel_rfl
set_option maxRecDepth 100000 in
theorem r1001_d797 : run1001 Go.Proofs.Ythcdiaahpodkoaa.pair3Drawn.d797 = true := by kernel_rfl
set_option maxRecDepth 100000 in
theorem r1000_d801 : run1000 Go.Proofs.Ythcdiaahpodkoaa.pair3Drawn.d801 = true := by kernel_rfl
set_option maxRecDepth 100000 in
theorem r1001_d801 : run1001 Go.Proofs.Ythcdiaahpodkoaa.pair3Drawn.d801 = true := by kernel_rfl
set_option maxRecDepth 100000 in
theorem r1000_d805 : run1000 Go.Proofs.Ythcdiaahpodkoaa.pair3Drawn.d805 = true := by kernel_rfl
set_option maxRecDepth 100000 in
theorem r1001_d805 : run1001 Go.Proofs.Ythcdiaahpodkoaa.pair3Drawn.d805 = true := by kernel_rfl
set_option maxRecDepth 100000 in
theorem r1000_d809 : run1000 Go.Proofs.Ythcdiaahpodkoaa.pair3Drawn.d809 = true := by kernel_rfl
set_option maxRecDepth 100000 in
theorem r1001_d809 : run1001 Go.Proofs.Ythcdiaahpodkoaa.pair3Drawn.d809 = true := by kernel_rfl
set_option maxRecDepth 100000 in
theorem r1000_d813 : run1000 Go.Proofs.Ythcdiaahpodkoaa.pair3Drawn.d813 = true := by kernel_rfl
set_option maxRecDepth 100000 in
theorem r1001_d813 : run1001 Go.Proofs.Ythcdiaahpodkoaa.pair3Drawn.d813 = true := by kernel_rfl
set_option maxRecDepth 100000 in
theorem r1000_d817 : run1000 Go.Proofs.Ythcdiaahpodkoaa.pair3Drawn.d817 = true := by kernel_rfl
set_option maxRecDepth 100000 in
theorem r1001_d817 : run1001 Go.Proofs.Ythcdiaahpodkoaa.pair3Drawn.d817 = true := by kernel_rfl
set_option maxRecDepth 100000 in
theorem r1000_d821 : run1000 Go.Proofs.Ythcdiaahpodkoaa.pair3Drawn.d821 = true := by kernel_rfl
set_option maxRecDepth 100000 in
theorem r1001_d821 : run1001 Go.Proofs.Ythcdiaahpodkoaa.pair3Drawn.d821 = true := by kernel_rfl
set_option maxRecDepth 100000 in
theorem r1000_d825 : run1000 Go.Proofs.Ythcdiaahpodkoaa.pair3Drawn.d825 = true := by kernel_rfl
set_option maxRecDepth 100000 in
theorem r1001_d825 : run1001 Go.Proofs.Ythcdiaahpodkoaa.pair3Drawn.d825 = true := by kernel_rfl
set_option maxRecDepth 100000 in
theorem r1000_d829 : run1000 Go.Proofs.Ythcdiaahpodkoaa.pair3Drawn.d829 = true := by kernel_rfl
set_option maxRecDepth 100000 in
theorem r1001_d829 : run1001 Go.Proofs.Ythcdiaahpodkoaa.pair3Drawn.d829 = true := by kernel_rfl
set_option maxRecDepth 100000 in
theorem r1000_d833 : run1000 Go.Proofs.Ythcdiaahpodkoaa.pair3Drawn.d833 = true := by kernel_rfl
set_option maxRecDepth 100000 in
theorem r1001_d833 : run1001 Go.Proofs.Ythcdiaahpodkoaa.pair3Drawn.d833 = true := by kernel_rfl
set_option maxRecDepth 100000 in
theorem r1000_d837 : run1000 Go.Proofs.Ythcdiaahpodkoaa.pair3Drawn.d837 = true := by kernel_rfl
set_option maxRecDepth 100000 in
theorem r1001_d837 : run1001 Go.Proofs.Ythcdiaahpodkoaa.pair3Drawn.d837 = true := by kernel_rfl
set_option maxRecDepth 100000 in
theorem r1000_d841 : run1000 Go.Proofs.Ythcdiaahpodkoaa.pair3Drawn.d841 = true := by kernel_rfl
set_option maxRecDepth 100000 in
theorem r1001_d841 : run1001 Go.Proofs.Ythcdiaahpodkoaa.pair3Drawn.d841 = true := by kernel_rfl
set_option maxRecDepth 100000 in
theorem r1000_d845 : run1000 Go.Proofs.Ythcdiaahpodkoaa.pair3Drawn.d845 = true := by kernel_rfl
set_option maxRecDepth 100000 in
theorem r1001_d845 : run1001 Go.Proofs.Ythcdiaahpodkoaa.pair3Drawn.d845 = true := by kernel_rfl
set_option maxRecDepth 100000 in
theorem r1000_d849 : run1000 Go.Proofs.Ythcdiaahpodkoaa.pair3Drawn.d849 = true := by kernel_rfl
set_option maxRecDepth 100000 in
theorem r1001_d849 : run1001 Go.Proofs.Ythcdiaahpodkoaa.pair3Drawn.d849 = true := by kernel_rfl
set_option maxRecDepth 100000 in
theorem r1000_d853 : run1000 Go.Proofs.Ythcdiaahpodkoaa.pair3Drawn.d853 = true := by kernel_rfl
set_option maxRecDepth 100000 in
theorem r1001_d853 : run1001 Go.Proofs.Ythcdiaahpodkoaa.pair3Drawn.d853 = true := by kernel_rfl
set_option maxRecDepth 100000 in
theorem r1000_d857 : run1000 Go.Proofs.Ythcdiaahpodkoaa.pair3Drawn.d857 = true := by kernel_rfl
set_option maxRecDepth 100000 in
theorem r1001_d857 : run1001 Go.Proofs.Ythcdiaahpodkoaa.pair3Drawn.d857 = true := by kernel_rfl
set_option maxRecDepth 100000 in
theorem r1000_d861 : run1000 Go.Proofs.Ythcdiaahpodkoaa.pair3Drawn.d861 = true := by kernel_rfl
set_option maxRecDepth 100000 in
theorem r1001_d861 : run1001 Go.Proofs.Ythcdiaahpodkoaa.pair3Drawn.d861 = true := by kernel_rfl
set_option maxRecDepth 100000 in
theorem r1000_d865 : run1000 Go.Proofs.Ythcdiaahpodkoaa.pair3Drawn.d865 = true := by kernel_rfl
set_option maxRecDepth 100000 in
theorem r1001_d865 : run1001 Go.Proofs.Ythcdiaahpodkoaa.pair3Drawn.d865 = true := by kernel_rfl
set_option maxRecDepth 100000 in
theorem r1000_d869 : run1000 Go.Proofs.Ythcdiaahpodkoaa.pair3Drawn.d869 = true := by kernel_rfl
set_option maxRecDepth 100000 in
theorem r1001_d869 : run1001 Go.Proofs.Ythcdiaahpodkoaa.pair3Drawn.d869 = true := by kernel_rfl
set_option maxRecDepth 100000 in
theorem r1000_d873 : run1000 Go.Proofs.Ythcdiaahpodkoaa.pair3Drawn.d873 = true := by kernel_rfl
set_option maxRecDepth 100000 in
theorem r1001_d873 : run1001 Go.Proofs.Ythcdiaahpodkoaa.pair3Drawn.d873 = true := by kernel_rfl
set_option maxRecDepth 100000 in
theorem r1000_d877 : run1000 Go.Proofs.Ythcdiaahpodkoaa.pair3Drawn.d877 = true := by kernel_rfl
set_option maxRecDepth 100000 in
theorem r1001_d877 : run1001 Go.Proofs.Ythcdiaahpodkoaa.pair3Drawn.d877 = true := by kernel_rfl
set_option maxRecDepth 100000 in
theorem r1000_d881 : run1000 Go.Proofs.Ythcdiaahpodkoaa.pair3Drawn.d881 = true := by kernel_rfl
set_option maxRecDepth 100000 in
theorem r1001_d881 : run1001 Go.Proofs.Ythcdiaahpodkoaa.pair3Drawn.d881 = true := by kernel_rfl
set_option maxRecDepth 100000 in
theorem r1000_d885 : run1000 Go.Proofs.Ythcdiaahpodkoaa.pair3Drawn.d885 = true := by kernel_rfl
set_option maxRecDepth 100000 in
theorem r1001_d885 : run1001 Go.Proofs.Ythcdiaahpodkoaa.pair3Drawn.d885 = true := by kernel_rfl
set_option maxRecDepth 100000 in
theorem r1000_d889 : run1000 Go.Proofs.Ythcdiaahpodkoaa.pair3Drawn.d889 = true := by kernel_rfl
set_option maxRecDepth 100000 in
theorem r1001_d889 : run1001 Go.Proofs.Ythcdiaahpodkoaa.pair3Drawn.d889 = true := by kernel_rfl
set_option maxRecDepth 100000 in
theorem r1000_d893 : run1000 Go.Proofs.Ythcdiaahpodkoaa.pair3Drawn.d893 = true := by kernel_rfl
set_option maxRecDepth 100000 in
theorem r1001_d893 : run1001 Go.Proofs.Ythcdiaahpodkoaa.pair3Drawn.d893 = true := by kernel_rfl
set_option maxRecDepth 100000 in
theorem r1000_d897 : run1000 Go.Proofs.Ythcdiaahpodkoaa.pair3Drawn.d897 = true := by kernel_rfl
set_option maxRecDepth 100000 in
theorem r1001_d897 : run1001 Go.Proofs.Ythcdiaahpodkoaa.pair3Drawn.d897 = true := by kernel_rfl
set_option maxRecDepth 100000 in
theorem r1000_d901 : run1000 Go.Proofs.Ythcdiaahpodkoaa.pair3Drawn.d901 = true := by kernel_rfl
set_option maxRecDepth 100000 in
theorem r1001_d901 : run1001 Go.Proofs.Ythcdiaahpodkoaa.pair3Drawn.d901 = true := by kernel_rfl
set_option maxRecDepth 100000 in
theorem r1000_d905 : run1000 Go.Proofs.Ythcdiaahpodkoaa.pair3Drawn.d905 = true := by kernel_rfl
set_option maxRecDepth 100000 in
theorem r1001_d905 : run1001 Go.Proofs.Ythcdiaahpodkoaa.pair3Drawn.d905 = true := by kernel_rfl
set_option maxRecDepth 100000 in
theorem r1000_d909 : run1000 Go.Proofs.Ythcdiaahpodkoaa.pair3Drawn.d909 = true := by kernel_rfl
set_option maxRecDepth 100000 in
theorem r1001_d909 : run1001 Go.Proofs.Ythcdiaahpodkoaa.pair3Drawn.d909 = true := by kernel_rfl
set_option maxRecDepth 100000 in
theorem r1000_d913 : run1000 Go.Proofs.Ythcdiaahpodkoaa.pair3Drawn.d913 = true := by kernel_rfl
set_option maxRecDepth 100000 in
theorem r1001_d913 : run1001 Go.Proofs.Ythcdiaahpodkoaa.pair3Drawn.d913 = true := by kernel_rfl
set_option maxRecDepth 100000 in
theorem r1000_d917 : run1000 Go.Proofs.Ythcdiaahpodkoaa.pair3Drawn.d917 = true := by kernel_rfl
set_option maxRecDepth 100000 in
theorem r1001_d917 : run1001 Go.Proofs.Ythcdiaahpodkoaa.pair3Drawn.d917 = true := by kernel_rfl
set_option maxRecDepth 100000 in
theorem r1000_d921 : run1000 Go.Proofs.Ythcdiaahpodkoaa.pair3Drawn.d921 = true := by kernel_rfl
set_option maxRecDepth 100000 in
theorem r1001_d921 : run1001 Go.Proofs.Ythcdiaahpodkoaa.pair3Drawn.d921 = true := by kernel_rfl
set_option maxRecDepth 100000 in
theorem r1000_d925 : run1000 Go.Proofs.Ythcdiaahpodkoaa.pair3Drawn.d925 = true := by kernel_rfl
set_option maxRecDepth 100000 in
theorem r1001_d925 : run1001 Go.Proofs.Ythcdiaahpodkoaa.pair3Drawn.d925 = true := by kernel_rfl
set_option maxRecDepth 100000 in
theorem r1000_d929 : run1000 Go.Proofs.Ythcdiaahpodkoaa.pair3Drawn.d929 = true := by kernel_rfl
set_option maxRecDepth 100000 in
theorem r1001_d929 : run1001 Go.Proofs.Ythcdiaahpodkoaa.pair3Drawn.d929 = true := by kernel_rfl
set_option maxRecDepth 100000 in
theorem r1000_d933 : run1000 Go.Proofs.Ythcdiaahpodkoaa.pair3Drawn.d933 = true := by kernel_rfl
set_option maxRecDepth 100000 in
theorem r1001_d933 : run1001 Go.Proofs.Ythcdiaahpodkoaa.pair3Drawn.d933 = true := by kernel_rfl
set_option maxRecDepth 100000 in
theorem r1000_d937 : run1000 Go.Proofs.Ythcdiaahpodkoaa.pair3Drawn.d937 = true := by kernel_rfl
set_option maxRecDepth 100000 in
theorem r1001_d937 : run1001 Go.Proofs.Ythcdiaahpodkoaa.pair3Drawn.d937 = true := by kernel_rfl
set_option maxRecDepth 100000 in
theorem r1000_d941 : run1000 Go.Proofs.Ythcdiaahpodkoaa.pair3Drawn.d941 = true := by kernel_rfl
set_option maxRecDepth 100000 in
theorem r1001_d941 : run1001 Go.Proofs.Ythcdiaahpodkoaa.pair3Drawn.d941 = true := by kernel_rfl
set_option maxRecDepth 100000 in
theorem r1000_d945 : run1000 Go.Proofs.Ythcdiaahpodkoaa.pair3Drawn.d945 = true := by kernel_rfl
set_option maxRecDepth 100000 in
theorem r1001_d945 : run1001 Go.Proofs.Ythcdiaahpodkoaa.pair3Drawn.d945 = true := by kernel_rfl
set_option maxRecDepth 100000 in
theorem r1000_d949 : run1000 Go.Proofs.Ythcdiaahpodkoaa.pair3Drawn.d949 = true := by kernel_rfl
set_option maxRecDepth 100000 in
theorem r1001_d949 : run1001 Go.Proofs.Ythcdiaahpodkoaa.pair3Drawn.d949 = true := by kernel_rfl
set_option maxRecDepth 100000 in
theorem r1000_d953 : run1000 Go.Proofs.Ythcdiaahpodkoaa.pair3Drawn.d953 = true := by kernel_rfl
set_option maxRecDepth 100000 in
theorem r1001_d953 : run1001 Go.Proofs.Ythcdiaahpodkoaa.pair3Drawn.d953 = true := by kernel_rfl
set_option maxRecDepth 100000 in
theorem r1000_d957 : run1000 Go.Proofs.Ythcdiaahpodkoaa.pair3Drawn.d957 = true := by kernel_rfl
set_option maxRecDepth 100000 in
theorem r1001_d957 : run1001 Go.Proofs.Ythcdiaahpodkoaa.pair3Drawn.d957 = true := by kernel_rfl
end Go.Proofs.Ythcdiaahpodkoaa.fnAboveRuns
