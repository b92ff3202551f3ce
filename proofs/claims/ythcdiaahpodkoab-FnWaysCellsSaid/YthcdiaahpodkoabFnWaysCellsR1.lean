/- Runs of the program at a seat. -/
import Derived.Test.YthcdiaahpodkoabFnWaysCellsP
namespace Go.Proofs.Ythcdiaahpodkoab.fnWaysCellsRuns
open Go Go.Eng
set_option linter.unusedVariables false
set_option linter.unusedSectionVars false
set_option linter.unusedSimpArgs false
set_option maxRecDepth 100000 in
theorem r_d1 : run Go.Proofs.Ythcdiaahpodkoab.waysDrawn.d1 = true := by kernel_rfl
set_option maxRecDepth 100000 in
theorem r_d5 : run Go.Proofs.Ythcdiaahpodkoab.waysDrawn.d5 = true := by kernel_rfl
set_option maxRecDepth 100000 in
theorem r_d9 : run Go.Proofs.Ythcdiaahpodkoab.waysDrawn.d9 = true := by kernel_rfl
set_option maxRecDepth 100000 in
theorem r_d13 : run Go.Proofs.Ythcdiaahpodkoab.waysDrawn.d13 = true := by kernel_rfl
set_option maxRecDepth 100000 in
theorem r_d17 : run Go.Proofs.Ythcdiaahpodkoab.waysDrawn.d17 = true := by kernel_rfl
set_option maxRecDepth 100000 in
theorem r_d21 : run Go.Proofs.Ythcdiaahpodkoab.waysDrawn.d21 = true := by kernel_rfl
set_option maxRecDepth 100000 in
theorem r_d25 : run Go.Proofs.Ythcdiaahpodkoab.waysDrawn.d25 = true := by kernel_rfl
set_option maxRecDepth 100000 in
theorem r_d29 : run Go.Proofs.Ythcdiaahpodkoab.waysDrawn.d29 = true := by kernel_rfl
set_option maxRecDepth 100000 in
theorem r_d33 : run Go.Proofs.Ythcdiaahpodkoab.waysDrawn.d33 = true := by kernel_rfl
set_option maxRecDepth 100000 in
theorem r_d37 : run Go.Proofs.Ythcdiaahpodkoab.waysDrawn.d37 = true := by kernel_rfl
set_option maxRecDepth 100000 in
theorem r_d41 : run Go.Proofs.Ythcdiaahpodkoab.waysDrawn.d41 = true := by kernel_rfl
set_option maxRecDepth 100000 in
theorem r_d45 : run Go.Proofs.Ythcdiaahpodkoab.waysDrawn.d45 = true := by kernel_rfl
set_option maxRecDepth 100000 in
theorem r_d49 : run Go.Proofs.Ythcdiaahpodkoab.waysDrawn.d49 = true := by kernel_rfl
set_option maxRecDepth 100000 in
theorem r_d53 : run Go.Proofs.Ythcdiaahpodkoab.waysDrawn.d53 = true := by kernel_rfl
set_option maxRecDepth 100000 in
theorem r_d57 : run Go.Proofs.Ythcdiaahpodkoab.waysDrawn.d57 = true := by kernel_rfl
set_option maxRecDepth 100000 in
theorem r_d61 : run Go.Proofs.Ythcdiaahpodkoab.waysDrawn.d61 = true := by kernel_rfl
set_option maxRecDepth 100000 in
theorem r_d65 : run Go.Proofs.Ythcdiaahpodkoab.waysDrawn.d65 = true := by kernel_rfl
set_option maxRecDepth 100000 in
theorem r_d69 : run Go.Proofs.Ythcdiaahpodkoab.waysDrawn.d69 = true := by kernel_rfl
set_option maxRecDepth 100000 in
theorem r_d73 : run Go.Proofs.Ythcdiaahpodkoab.waysDrawn.d73 = true := by kernel_rfl
set_option maxRecDepth 100000 in
theorem r_d77 : run Go.Proofs.Ythcdiaahpodkoab.waysDrawn.d77 = true := by kernel_rfl
set_option maxRecDepth 100000 in
theorem r_d81 : run Go.Proofs.Ythcdiaahpodkoab.waysDrawn.d81 = true := by kernel_rfl
set_option maxRecDepth 100000 in
theorem r_d85 : run Go.Proofs.Ythcdiaahpodkoab.waysDrawn.d85 = true := by kernel_rfl
set_option maxRecDepth 100000 in
theorem r_d89 : run Go.Proofs.Ythcdiaahpodkoab.waysDrawn.d89 = true := by kernel_rfl
set_option maxRecDepth 100000 in
theorem r_d93 : run Go.Proofs.Ythcdiaahpodkoab.waysDrawn.d93 = true := by kernel_rfl
set_option maxRecDepth 100000 in
theorem r_d97 : run Go.Proofs.Ythcdiaahpodkoab.waysDrawn.d97 = true := by kernel_rfl
set_option maxRecDepth 100000 in
theorem r_d101 : run Go.Proofs.Ythcdiaahpodkoab.waysDrawn.d101 = true := by kernel_rfl
set_option maxRecDepth 100000 in
theorem r_d105 : run Go.Proofs.Ythcdiaahpodkoab.waysDrawn.d105 = true := by kernel_rfl
set_option maxRecDepth 100000 in
theorem r_d109 : run Go.Proofs.Ythcdiaahpodkoab.waysDrawn.d109 = true := by kernel_rfl
set_option maxRecDepth 100000 in
theorem r_d113 : run Go.Proofs.Ythcdiaahpodkoab.waysDrawn.d113 = true := by kernel_rfl
set_option maxRecDepth 100000 in
theorem r_d117 : run Go.Proofs.Ythcdiaahpodkoab.waysDrawn.d117 = true := by kernel_rfl
set_option maxRecDepth 100000 in
theorem r_d121 : run Go.Proofs.Ythcdiaahpodkoab.waysDrawn.d121 = true := by kernel_rfl
set_option maxRecDepth 100000 in
theorem r_d125 : run Go.Proofs.Ythcdiaahpodkoab.waysDrawn.d125 = true := by kernel_rfl
set_option maxRecDepth 100000 in
theorem r_d129 : run Go.Proofs.Ythcdiaahpodkoab.waysDrawn.d129 = true := by kernel_rfl
set_option maxRecDepth 100000 in
theorem r_d133 : run Go.Proofs.Ythcdiaahpodkoab.waysDrawn.d133 = true := by kernel_rfl
set_option maxRecDepth 100000 in
theorem r_d137 : run Go.Proofs.Ythcdiaahpodkoab.waysDrawn.d137 = true := by kernel_rfl
set_option maxRecDepth 100000 in
theorem r_d141 : run Go.Proofs.Ythcdiaahpodkoab.waysDrawn.d141 = true := by kernel_rfl
set_option maxRecDepth 100000 in
theorem r_d145 : run Go.Proofs.Ythcdiaahpodkoab.waysDrawn.d145 = true := by kernel_rfl
set_option maxRecDepth 100000 in
theorem r_d149 : run Go.Proofs.Ythcdiaahpodkoab.waysDrawn.d149 = true := by kernel_rfl
set_option maxRecDepth 100000 in
theorem r_d153 : run Go.Proofs.Ythcdiaahpodkoab.waysDrawn.d153 = true := by kernel_rfl
set_option maxRecDepth 100000 in
theorem r_d157 : run Go.Proofs.Ythcdiaahpodkoab.waysDrawn.d157 = true := by kernel_rfl
set_option maxRecDepth 100000 in
theorem r_d161 : run Go.Proofs.Ythcdiaahpodkoab.waysDrawn.d161 = true := by kernel_rfl
set_option maxRecDepth 100000 in
theorem r_d165 : run Go.Proofs.Ythcdiaahpodkoab.waysDrawn.d165 = true := by kernel_rfl
set_option maxRecDepth 100000 in
theorem r_d169 : run Go.Proofs.Ythcdiaahpodkoab.waysDrawn.d169 = true := by kernel_rfl
set_option maxRecDepth 100000 in
theorem r_d173 : run Go.Proofs.Ythcdiaahpodkoab.waysDrawn.d173 = true := by kernel_rfl
set_option maxRecDepth 100000 in
theorem r_d177 : run Go.Proofs.Ythcdiaahpodkoab.waysDrawn.d177 = true := by kernel_rfl
set_option maxRecDepth 100000 in
theorem r_d181 : run Go.Proofs.Ythcdiaahpodkoab.waysDrawn.d181 = true := by kernel_rfl
set_option maxRecDepth 100000 in
theorem r_d185 : run Go.Proofs.Ythcdiaahpodkoab.waysDrawn.d185 = true := by kernel_rfl
set_option maxRecDepth 100000 in
theorem r_d189 : run Go.Proofs.Ythcdiaahpodkoab.waysDrawn.d189 = true := by kernel_rfl
set_option maxRecDepth 100000 in
theorem r_d193 : run Go.Proofs.Ythcdiaahpodkoab.waysDrawn.d193 = true := by kernel_rfl
set_option maxRecDepth 100000 in
theorem r_d197 : run Go.Proofs.Ythcdiaahpodkoab.waysDrawn.d197 = true := by kernel_rfl
set_option maxRecDepth 100000 in
theorem r_d201 : run Go.Proofs.Ythcdiaahpodkoab.waysDrawn.d201 = true := by kernel_rfl
set_option maxRecDepth 100000 in
theorem r_d205 : run Go.Proofs.Ythcdiaahpodkoab.waysDrawn.d205 = true := by kernel_rfl
set_option maxRecDepth 100000 in
theorem r_d209 : run Go.Proofs.Ythcdiaahpodkoab.waysDrawn.d209 = true := by kernel_rfl
set_option maxRecDepth 100000 in
theorem r_d213 : run Go.Proofs.Ythcdiaahpodkoab.waysDrawn.d213 = true := by kernel_rfl
set_option maxRecDepth 100000 in
theorem r_d217 : run Go.Proofs.Ythcdiaahpodkoab.waysDrawn.d217 = true := by kernel_rfl
set_option maxRecDepth 100000 in
theorem r_d221 : run Go.Proofs.Ythcdiaahpodkoab.waysDrawn.d221 = true := by kernel_rfl
set_option maxRecDepth 100000 in
theorem r_d225 : run Go.Proofs.Ythcdiaahpodkoab.waysDrawn.d225 = true := by kernel_rfl
set_option maxRecDepth 100000 in
theorem r_d229 : run Go.Proofs.Ythcdiaahpodkoab.waysDrawn.d229 = true := by kernel_rfl
set_option maxRecDepth 100000 in
theorem r_d233 : run Go.Proofs.Ythcdiaahpodkoab.waysDrawn.d233 = true := by kernel_rfl
set_option maxRecDepth 100000 in
theorem r_d237 : run Go.Proofs.Ythcdiaahpodkoab.waysDrawn.d237 = true := by kernel_rfl
set_option maxRecDepth 100000 in
theorem r_d241 : run Go.Proofs.Ythcdiaahpodkoab.waysDrawn.d241 = true := by kernel_rfl
set_option maxRecDepth 100000 in
theorem r_d245 : run Go.Proofs.Ythcdiaahpodkoab.waysDrawn.d245 = true := by kernel_rfl
set_option maxRecDepth 100000 in
theorem r_d249 : run Go.Proofs.Ythcdiaahpodkoab.waysDrawn.d249 = true := by kernel_rfl
set_option maxRecDepth 100000 in
theorem r_d253 : run Go.Proofs.Ythcdiaahpodkoab.waysDrawn.d253 = true := by kernel_rfl
end Go.Proofs.Ythcdiaahpodkoab.fnWaysCellsRuns
