/- Runs of the program at a seat. -/
import Derived.Test.YthcdiaahpodkoabFnPlainP
namespace Go.Proofs.Ythcdiaahpodkoab.fnPlainRuns
open Go Go.Eng
set_option linter.unusedVariables false
set_option linter.unusedSectionVars false
set_option linter.unusedSimpArgs false
set_option maxRecDepth 100000 in
theorem r_d0 : run Go.Proofs.Ythcdiaahpodkoab.atDrawn.d0 = true := by kernel_rfl
set_option maxRecDepth 100000 in
theorem r_d4 : run Go.Proofs.Ythcdiaahpodkoab.atDrawn.d4 = true := by kernel_rfl
set_option maxRecDepth 100000 in
theorem r_d8 : run Go.Proofs.Ythcdiaahpodkoab.atDrawn.d8 = true := by kernel_rfl
set_option maxRecDepth 100000 in
theorem r_d12 : run Go.Proofs.Ythcdiaahpodkoab.atDrawn.d12 = true := by kernel_rfl
set_option maxRecDepth 100000 in
theorem r_d16 : run Go.Proofs.Ythcdiaahpodkoab.atDrawn.d16 = true := by kernel_rfl
set_option maxRecDepth 100000 in
theorem r_d20 : run Go.Proofs.Ythcdiaahpodkoab.atDrawn.d20 = true := by kernel_rfl
set_option maxRecDepth 100000 in
theorem r_d24 : run Go.Proofs.Ythcdiaahpodkoab.atDrawn.d24 = true := by kernel_rfl
set_option maxRecDepth 100000 in
theorem r_d28 : run Go.Proofs.Ythcdiaahpodkoab.atDrawn.d28 = true := by kernel_rfl
set_option maxRecDepth 100000 in
theorem r_d32 : run Go.Proofs.Ythcdiaahpodkoab.atDrawn.d32 = true := by kernel_rfl
set_option maxRecDepth 100000 in
theorem r_d36 : run Go.Proofs.Ythcdiaahpodkoab.atDrawn.d36 = true := by kernel_rfl
set_option maxRecDepth 100000 in
theorem r_d40 : run Go.Proofs.Ythcdiaahpodkoab.atDrawn.d40 = true := by kernel_rfl
set_option maxRecDepth 100000 in
theorem r_d44 : run Go.Proofs.Ythcdiaahpodkoab.atDrawn.d44 = true := by kernel_rfl
set_option maxRecDepth 100000 in
theorem r_d48 : run Go.Proofs.Ythcdiaahpodkoab.atDrawn.d48 = true := by kernel_rfl
set_option maxRecDepth 100000 in
theorem r_d52 : run Go.Proofs.Ythcdiaahpodkoab.atDrawn.d52 = true := by kernel_rfl
set_option maxRecDepth 100000 in
theorem r_d56 : run Go.Proofs.Ythcdiaahpodkoab.atDrawn.d56 = true := by kernel_rfl
set_option maxRecDepth 100000 in
theorem r_d60 : run Go.Proofs.Ythcdiaahpodkoab.atDrawn.d60 = true := by kernel_rfl
set_option maxRecDepth 100000 in
theorem r_d64 : run Go.Proofs.Ythcdiaahpodkoab.atDrawn.d64 = true := by kernel_rfl
set_option maxRecDepth 100000 in
theorem r_d68 : run Go.Proofs.Ythcdiaahpodkoab.atDrawn.d68 = true := by kernel_rfl
set_option maxRecDepth 100000 in
theorem r_d72 : run Go.Proofs.Ythcdiaahpodkoab.atDrawn.d72 = true := by kernel_rfl
set_option maxRecDepth 100000 in
theorem r_d76 : run Go.Proofs.Ythcdiaahpodkoab.atDrawn.d76 = true := by kernel_rfl
set_option maxRecDepth 100000 in
theorem r_d80 : run Go.Proofs.Ythcdiaahpodkoab.atDrawn.d80 = true := by kernel_rfl
set_option maxRecDepth 100000 in
theorem r_d84 : run Go.Proofs.Ythcdiaahpodkoab.atDrawn.d84 = true := by kernel_rfl
set_option maxRecDepth 100000 in
theorem r_d88 : run Go.Proofs.Ythcdiaahpodkoab.atDrawn.d88 = true := by kernel_rfl
set_option maxRecDepth 100000 in
theorem r_d92 : run Go.Proofs.Ythcdiaahpodkoab.atDrawn.d92 = true := by kernel_rfl
set_option maxRecDepth 100000 in
theorem r_d96 : run Go.Proofs.Ythcdiaahpodkoab.atDrawn.d96 = true := by kernel_rfl
set_option maxRecDepth 100000 in
theorem r_d100 : run Go.Proofs.Ythcdiaahpodkoab.atDrawn.d100 = true := by kernel_rfl
set_option maxRecDepth 100000 in
theorem r_d104 : run Go.Proofs.Ythcdiaahpodkoab.atDrawn.d104 = true := by kernel_rfl
set_option maxRecDepth 100000 in
theorem r_d108 : run Go.Proofs.Ythcdiaahpodkoab.atDrawn.d108 = true := by kernel_rfl
set_option maxRecDepth 100000 in
theorem r_d112 : run Go.Proofs.Ythcdiaahpodkoab.atDrawn.d112 = true := by kernel_rfl
set_option maxRecDepth 100000 in
theorem r_d116 : run Go.Proofs.Ythcdiaahpodkoab.atDrawn.d116 = true := by kernel_rfl
set_option maxRecDepth 100000 in
theorem r_d120 : run Go.Proofs.Ythcdiaahpodkoab.atDrawn.d120 = true := by kernel_rfl
set_option maxRecDepth 100000 in
theorem r_d124 : run Go.Proofs.Ythcdiaahpodkoab.atDrawn.d124 = true := by kernel_rfl
set_option maxRecDepth 100000 in
theorem r_d128 : run Go.Proofs.Ythcdiaahpodkoab.atDrawn.d128 = true := by kernel_rfl
set_option maxRecDepth 100000 in
theorem r_d132 : run Go.Proofs.Ythcdiaahpodkoab.atDrawn.d132 = true := by kernel_rfl
set_option maxRecDepth 100000 in
theorem r_d136 : run Go.Proofs.Ythcdiaahpodkoab.atDrawn.d136 = true := by kernel_rfl
set_option maxRecDepth 100000 in
theorem r_d140 : run Go.Proofs.Ythcdiaahpodkoab.atDrawn.d140 = true := by kernel_rfl
set_option maxRecDepth 100000 in
theorem r_d144 : run Go.Proofs.Ythcdiaahpodkoab.atDrawn.d144 = true := by kernel_rfl
set_option maxRecDepth 100000 in
theorem r_d148 : run Go.Proofs.Ythcdiaahpodkoab.atDrawn.d148 = true := by kernel_rfl
set_option maxRecDepth 100000 in
theorem r_d152 : run Go.Proofs.Ythcdiaahpodkoab.atDrawn.d152 = true := by kernel_rfl
set_option maxRecDepth 100000 in
theorem r_d156 : run Go.Proofs.Ythcdiaahpodkoab.atDrawn.d156 = true := by kernel_rfl
set_option maxRecDepth 100000 in
theorem r_d160 : run Go.Proofs.Ythcdiaahpodkoab.atDrawn.d160 = true := by kernel_rfl
set_option maxRecDepth 100000 in
theorem r_d164 : run Go.Proofs.Ythcdiaahpodkoab.atDrawn.d164 = true := by kernel_rfl
set_option maxRecDepth 100000 in
theorem r_d168 : run Go.Proofs.Ythcdiaahpodkoab.atDrawn.d168 = true := by kernel_rfl
set_option maxRecDepth 100000 in
theorem r_d172 : run Go.Proofs.Ythcdiaahpodkoab.atDrawn.d172 = true := by kernel_rfl
set_option maxRecDepth 100000 in
theorem r_d176 : run Go.Proofs.Ythcdiaahpodkoab.atDrawn.d176 = true := by kernel_rfl
set_option maxRecDepth 100000 in
theorem r_d180 : run Go.Proofs.Ythcdiaahpodkoab.atDrawn.d180 = true := by kernel_rfl
set_option maxRecDepth 100000 in
theorem r_d184 : run Go.Proofs.Ythcdiaahpodkoab.atDrawn.d184 = true := by kernel_rfl
set_option maxRecDepth 100000 in
theorem r_d188 : run Go.Proofs.Ythcdiaahpodkoab.atDrawn.d188 = true := by kernel_rfl
set_option maxRecDepth 100000 in
theorem r_d192 : run Go.Proofs.Ythcdiaahpodkoab.atDrawn.d192 = true := by kernel_rfl
set_option maxRecDepth 100000 in
theorem r_d196 : run Go.Proofs.Ythcdiaahpodkoab.atDrawn.d196 = true := by kernel_rfl
set_option maxRecDepth 100000 in
theorem r_d200 : run Go.Proofs.Ythcdiaahpodkoab.atDrawn.d200 = true := by kernel_rfl
set_option maxRecDepth 100000 in
theorem r_d204 : run Go.Proofs.Ythcdiaahpodkoab.atDrawn.d204 = true := by kernel_rfl
set_option maxRecDepth 100000 in
theorem r_d208 : run Go.Proofs.Ythcdiaahpodkoab.atDrawn.d208 = true := by kernel_rfl
set_option maxRecDepth 100000 in
theorem r_d212 : run Go.Proofs.Ythcdiaahpodkoab.atDrawn.d212 = true := by kernel_rfl
set_option maxRecDepth 100000 in
theorem r_d216 : run Go.Proofs.Ythcdiaahpodkoab.atDrawn.d216 = true := by kernel_rfl
set_option maxRecDepth 100000 in
theorem r_d220 : run Go.Proofs.Ythcdiaahpodkoab.atDrawn.d220 = true := by kernel_rfl
set_option maxRecDepth 100000 in
theorem r_d224 : run Go.Proofs.Ythcdiaahpodkoab.atDrawn.d224 = true := by kernel_rfl
set_option maxRecDepth 100000 in
theorem r_d228 : run Go.Proofs.Ythcdiaahpodkoab.atDrawn.d228 = true := by kernel_rfl
set_option maxRecDepth 100000 in
theorem r_d232 : run Go.Proofs.Ythcdiaahpodkoab.atDrawn.d232 = true := by kernel_rfl
set_option maxRecDepth 100000 in
theorem r_d236 : run Go.Proofs.Ythcdiaahpodkoab.atDrawn.d236 = true := by kernel_rfl
set_option maxRecDepth 100000 in
theorem r_d240 : run Go.Proofs.Ythcdiaahpodkoab.atDrawn.d240 = true := by kernel_rfl
set_option maxRecDepth 100000 in
theorem r_d244 : run Go.Proofs.Ythcdiaahpodkoab.atDrawn.d244 = true := by kernel_rfl
set_option maxRecDepth 100000 in
theorem r_d248 : run Go.Proofs.Ythcdiaahpodkoab.atDrawn.d248 = true := by kernel_rfl
set_option maxRecDepth 100000 in
theorem r_d252 : run Go.Proofs.Ythcdiaahpodkoab.atDrawn.d252 = true := by kernel_rfl
set_option maxRecDepth 100000 in
theorem r_d256 : run Go.Proofs.Ythcdiaahpodkoab.atDrawn.d256 = true := by kernel_rfl
set_option maxRecDepth 100000 in
theorem r_d260 : run Go.Proofs.Ythcdiaahpodkoab.atDrawn.d260 = true := by kernel_rfl
set_option maxRecDepth 100000 in
theorem r_d264 : run Go.Proofs.Ythcdiaahpodkoab.atDrawn.d264 = true := by kernel_rfl
set_option maxRecDepth 100000 in
theorem r_d268 : run Go.Proofs.Ythcdiaahpodkoab.atDrawn.d268 = true := by kernel_rfl
set_option maxRecDepth 100000 in
theorem r_d272 : run Go.Proofs.Ythcdiaahpodkoab.atDrawn.d272 = true := by kernel_rfl
set_option maxRecDepth 100000 in
theorem r_d276 : run Go.Proofs.Ythcdiaahpodkoab.atDrawn.d276 = true := by kernel_rfl
set_option maxRecDepth 100000 in
theorem r_d280 : run Go.Proofs.Ythcdiaahpodkoab.atDrawn.d280 = true := by kernel_rfl
set_option maxRecDepth 100000 in
theorem r_d284 : run Go.Proofs.Ythcdiaahpodkoab.atDrawn.d284 = true := by kernel_rfl
set_option maxRecDepth 100000 in
theorem r_d288 : run Go.Proofs.Ythcdiaahpodkoab.atDrawn.d288 = true := by kernel_rfl
set_option maxRecDepth 100000 in
theorem r_d292 : run Go.Proofs.Ythcdiaahpodkoab.atDrawn.d292 = true := by kernel_rfl
set_option maxRecDepth 100000 in
theorem r_d296 : run Go.Proofs.Ythcdiaahpodkoab.atDrawn.d296 = true := by kernel_rfl
set_option maxRecDepth 100000 in
theorem r_d300 : run Go.Proofs.Ythcdiaahpodkoab.atDrawn.d300 = true := by kernel_rfl
set_option maxRecDepth 100000 in
theorem r_d304 : run Go.Proofs.Ythcdiaahpodkoab.atDrawn.d304 = true := by kernel_rfl
set_option maxRecDepth 100000 in
theorem r_d308 : run Go.Proofs.Ythcdiaahpodkoab.atDrawn.d308 = true := by kernel_rfl
set_option maxRecDepth 100000 in
theorem r_d312 : run Go.Proofs.Ythcdiaahpodkoab.atDrawn.d312 = true := by kernel_rfl
set_option maxRecDepth 100000 in
theorem r_d316 : run Go.Proofs.Ythcdiaahpodkoab.atDrawn.d316 = true := by kernel_rfl
set_option maxRecDepth 100000 in
theorem r_d320 : run Go.Proofs.Ythcdiaahpodkoab.atDrawn.d320 = true := by kernel_rfl
set_option maxRecDepth 100000 in
theorem r_d324 : run Go.Proofs.Ythcdiaahpodkoab.atDrawn.d324 = true := by kernel_rfl
set_option maxRecDepth 100000 in
theorem r_d328 : run Go.Proofs.Ythcdiaahpodkoab.atDrawn.d328 = true := by kernel_rfl
set_option maxRecDepth 100000 in
theorem r_d332 : run Go.Proofs.Ythcdiaahpodkoab.atDrawn.d332 = true := by kernel_rfl
set_option maxRecDepth 100000 in
theorem r_d336 : run Go.Proofs.Ythcdiaahpodkoab.atDrawn.d336 = true := by kernel_rfl
set_option maxRecDepth 100000 in
theorem r_d340 : run Go.Proofs.Ythcdiaahpodkoab.atDrawn.d340 = true := by kernel_rfl
set_option maxRecDepth 100000 in
theorem r_d344 : run Go.Proofs.Ythcdiaahpodkoab.atDrawn.d344 = true := by kernel_rfl
set_option maxRecDepth 100000 in
theorem r_d348 : run Go.Proofs.Ythcdiaahpodkoab.atDrawn.d348 = true := by kernel_rfl
end Go.Proofs.Ythcdiaahpodkoab.fnPlainRuns
