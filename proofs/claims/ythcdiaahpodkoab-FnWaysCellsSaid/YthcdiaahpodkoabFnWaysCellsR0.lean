/- Runs of the program at a seat. -/
import Derived.Test.YthcdiaahpodkoabFnWaysCellsP
namespace Go.Proofs.Ythcdiaahpodkoab.fnWaysCellsRuns
open Go Go.Eng
set_option linter.unusedVariables false
set_option linter.unusedSectionVars false
set_option linter.unusedSimpArgs false
set_option maxRecDepth 100000 in
theorem r_d0 : run Go.Proofs.Ythcdiaahpodkoab.waysDrawn.d0 = true := by kernel_rfl
set_option maxRecDepth 100000 in
theorem r_d4 : run Go.Proofs.Ythcdiaahpodkoab.waysDrawn.d4 = true := by kernel_rfl
set_option maxRecDepth 100000 in
theorem r_d8 : run Go.Proofs.Ythcdiaahpodkoab.waysDrawn.d8 = true := by kernel_rfl
set_option maxRecDepth 100000 in
theorem r_d12 : run Go.Proofs.Ythcdiaahpodkoab.waysDrawn.d12 = true := by kernel_rfl
set_option maxRecDepth 100000 in
theorem r_d16 : run Go.Proofs.Ythcdiaahpodkoab.waysDrawn.d16 = true := by kernel_rfl
set_option maxRecDepth 100000 in
theorem r_d20 : run Go.Proofs.Ythcdiaahpodkoab.waysDrawn.d20 = true := by kernel_rfl
set_option maxRecDepth 100000 in
theorem r_d24 : run Go.Proofs.Ythcdiaahpodkoab.waysDrawn.d24 = true := by kernel_rfl
set_option maxRecDepth 100000 in
theorem r_d28 : run Go.Proofs.Ythcdiaahpodkoab.waysDrawn.d28 = true := by kernel_rfl
set_option maxRecDepth 100000 in
theorem r_d32 : run Go.Proofs.Ythcdiaahpodkoab.waysDrawn.d32 = true := by kernel_rfl
set_option maxRecDepth 100000 in
theorem r_d36 : run Go.Proofs.Ythcdiaahpodkoab.waysDrawn.d36 = true := by kernel_rfl
set_option maxRecDepth 100000 in
theorem r_d40 : run Go.Proofs.Ythcdiaahpodkoab.waysDrawn.d40 = true := by kernel_rfl
set_option maxRecDepth 100000 in
theorem r_d44 : run Go.Proofs.Ythcdiaahpodkoab.waysDrawn.d44 = true := by kernel_rfl
set_option maxRecDepth 100000 in
theorem r_d48 : run Go.Proofs.Ythcdiaahpodkoab.waysDrawn.d48 = true := by kernel_rfl
set_option maxRecDepth 100000 in
theorem r_d52 : run Go.Proofs.Ythcdiaahpodkoab.waysDrawn.d52 = true := by kernel_rfl
set_option maxRecDepth 100000 in
theorem r_d56 : run Go.Proofs.Ythcdiaahpodkoab.waysDrawn.d56 = true := by kernel_rfl
set_option maxRecDepth 100000 in
theorem r_d60 : run Go.Proofs.Ythcdiaahpodkoab.waysDrawn.d60 = true := by kernel_rfl
set_option maxRecDepth 100000 in
theorem r_d64 : run Go.Proofs.Ythcdiaahpodkoab.waysDrawn.d64 = true := by kernel_rfl
set_option maxRecDepth 100000 in
theorem r_d68 : run Go.Proofs.Ythcdiaahpodkoab.waysDrawn.d68 = true := by kernel_rfl
set_option maxRecDepth 100000 in
theorem r_d72 : run Go.Proofs.Ythcdiaahpodkoab.waysDrawn.d72 = true := by kernel_rfl
set_option maxRecDepth 100000 in
theorem r_d76 : run Go.Proofs.Ythcdiaahpodkoab.waysDrawn.d76 = true := by kernel_rfl
set_option maxRecDepth 100000 in
theorem r_d80 : run Go.Proofs.Ythcdiaahpodkoab.waysDrawn.d80 = true := by kernel_rfl
set_option maxRecDepth 100000 in
theorem r_d84 : run Go.Proofs.Ythcdiaahpodkoab.waysDrawn.d84 = true := by kernel_rfl
set_option maxRecDepth 100000 in
theorem r_d88 : run Go.Proofs.Ythcdiaahpodkoab.waysDrawn.d88 = true := by kernel_rfl
set_option maxRecDepth 100000 in
theorem r_d92 : run Go.Proofs.Ythcdiaahpodkoab.waysDrawn.d92 = true := by kernel_rfl
set_option maxRecDepth 100000 in
theorem r_d96 : run Go.Proofs.Ythcdiaahpodkoab.waysDrawn.d96 = true := by kernel_rfl
set_option maxRecDepth 100000 in
theorem r_d100 : run Go.Proofs.Ythcdiaahpodkoab.waysDrawn.d100 = true := by kernel_rfl
set_option maxRecDepth 100000 in
theorem r_d104 : run Go.Proofs.Ythcdiaahpodkoab.waysDrawn.d104 = true := by kernel_rfl
set_option maxRecDepth 100000 in
theorem r_d108 : run Go.Proofs.Ythcdiaahpodkoab.waysDrawn.d108 = true := by kernel_rfl
set_option maxRecDepth 100000 in
theorem r_d112 : run Go.Proofs.Ythcdiaahpodkoab.waysDrawn.d112 = true := by kernel_rfl
set_option maxRecDepth 100000 in
theorem r_d116 : run Go.Proofs.Ythcdiaahpodkoab.waysDrawn.d116 = true := by kernel_rfl
set_option maxRecDepth 100000 in
theorem r_d120 : run Go.Proofs.Ythcdiaahpodkoab.waysDrawn.d120 = true := by kernel_rfl
set_option maxRecDepth 100000 in
theorem r_d124 : run Go.Proofs.Ythcdiaahpodkoab.waysDrawn.d124 = true := by kernel_rfl
set_option maxRecDepth 100000 in
theorem r_d128 : run Go.Proofs.Ythcdiaahpodkoab.waysDrawn.d128 = true := by kernel_rfl
set_option maxRecDepth 100000 in
theorem r_d132 : run Go.Proofs.Ythcdiaahpodkoab.waysDrawn.d132 = true := by kernel_rfl
set_option maxRecDepth 100000 in
theorem r_d136 : run Go.Proofs.Ythcdiaahpodkoab.waysDrawn.d136 = true := by kernel_rfl
set_option maxRecDepth 100000 in
theorem r_d140 : run Go.Proofs.Ythcdiaahpodkoab.waysDrawn.d140 = true := by kernel_rfl
set_option maxRecDepth 100000 in
theorem r_d144 : run Go.Proofs.Ythcdiaahpodkoab.waysDrawn.d144 = true := by kernel_rfl
set_option maxRecDepth 100000 in
theorem r_d148 : run Go.Proofs.Ythcdiaahpodkoab.waysDrawn.d148 = true := by kernel_rfl
set_option maxRecDepth 100000 in
theorem r_d152 : run Go.Proofs.Ythcdiaahpodkoab.waysDrawn.d152 = true := by kernel_rfl
set_option maxRecDepth 100000 in
theorem r_d156 : run Go.Proofs.Ythcdiaahpodkoab.waysDrawn.d156 = true := by kernel_rfl
set_option maxRecDepth 100000 in
theorem r_d160 : run Go.Proofs.Ythcdiaahpodkoab.waysDrawn.d160 = true := by kernel_rfl
set_option maxRecDepth 100000 in
theorem r_d164 : run Go.Proofs.Ythcdiaahpodkoab.waysDrawn.d164 = true := by kernel_rfl
set_option maxRecDepth 100000 in
theorem r_d168 : run Go.Proofs.Ythcdiaahpodkoab.waysDrawn.d168 = true := by kernel_rfl
set_option maxRecDepth 100000 in
theorem r_d172 : run Go.Proofs.Ythcdiaahpodkoab.waysDrawn.d172 = true := by kernel_rfl
set_option maxRecDepth 100000 in
theorem r_d176 : run Go.Proofs.Ythcdiaahpodkoab.waysDrawn.d176 = true := by kernel_rfl
set_option maxRecDepth 100000 in
theorem r_d180 : run Go.Proofs.Ythcdiaahpodkoab.waysDrawn.d180 = true := by kernel_rfl
set_option maxRecDepth 100000 in
theorem r_d184 : run Go.Proofs.Ythcdiaahpodkoab.waysDrawn.d184 = true := by kernel_rfl
set_option maxRecDepth 100000 in
theorem r_d188 : run Go.Proofs.Ythcdiaahpodkoab.waysDrawn.d188 = true := by kernel_rfl
set_option maxRecDepth 100000 in
theorem r_d192 : run Go.Proofs.Ythcdiaahpodkoab.waysDrawn.d192 = true := by kernel_rfl
set_option maxRecDepth 100000 in
theorem r_d196 : run Go.Proofs.Ythcdiaahpodkoab.waysDrawn.d196 = true := by kernel_rfl
set_option maxRecDepth 100000 in
theorem r_d200 : run Go.Proofs.Ythcdiaahpodkoab.waysDrawn.d200 = true := by kernel_rfl
set_option maxRecDepth 100000 in
theorem r_d204 : run Go.Proofs.Ythcdiaahpodkoab.waysDrawn.d204 = true := by kernel_rfl
set_option maxRecDepth 100000 in
theorem r_d208 : run Go.Proofs.Ythcdiaahpodkoab.waysDrawn.d208 = true := by kernel_rfl
set_option maxRecDepth 100000 in
theorem r_d212 : run Go.Proofs.Ythcdiaahpodkoab.waysDrawn.d212 = true := by kernel_rfl
set_option maxRecDepth 100000 in
theorem r_d216 : run Go.Proofs.Ythcdiaahpodkoab.waysDrawn.d216 = true := by kernel_rfl
set_option maxRecDepth 100000 in
theorem r_d220 : run Go.Proofs.Ythcdiaahpodkoab.waysDrawn.d220 = true := by kernel_rfl
set_option maxRecDepth 100000 in
theorem r_d224 : run Go.Proofs.Ythcdiaahpodkoab.waysDrawn.d224 = true := by kernel_rfl
set_option maxRecDepth 100000 in
theorem r_d228 : run Go.Proofs.Ythcdiaahpodkoab.waysDrawn.d228 = true := by kernel_rfl
set_option maxRecDepth 100000 in
theorem r_d232 : run Go.Proofs.Ythcdiaahpodkoab.waysDrawn.d232 = true := by kernel_rfl
set_option maxRecDepth 100000 in
theorem r_d236 : run Go.Proofs.Ythcdiaahpodkoab.waysDrawn.d236 = true := by kernel_rfl
set_option maxRecDepth 100000 in
theorem r_d240 : run Go.Proofs.Ythcdiaahpodkoab.waysDrawn.d240 = true := by kernel_rfl
set_option maxRecDepth 100000 in
theorem r_d244 : run Go.Proofs.Ythcdiaahpodkoab.waysDrawn.d244 = true := by kernel_rfl
set_option maxRecDepth 100000 in
theorem r_d248 : run Go.Proofs.Ythcdiaahpodkoab.waysDrawn.d248 = true := by kernel_rfl
set_option maxRecDepth 100000 in
theorem r_d252 : run Go.Proofs.Ythcdiaahpodkoab.waysDrawn.d252 = true := by kernel_rfl
end Go.Proofs.Ythcdiaahpodkoab.fnWaysCellsRuns
