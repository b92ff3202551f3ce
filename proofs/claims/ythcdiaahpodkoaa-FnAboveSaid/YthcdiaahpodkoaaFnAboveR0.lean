/- Runs of the program at a seat. -/
import Derived.Test.YthcdiaahpodkoaaFnAboveP
namespace Go.Proofs.Ythcdiaahpodkoaa.fnAboveRuns
open Go Go.Eng
set_option linter.unusedVariables false
set_option linter.unusedSectionVars false
set_option linter.unusedSimpArgs false
set_option maxRecDepth 100000 in
theorem r1000_d0 : run1000 Go.Proofs.Ythcdiaahpodkoaa.pair3Drawn.d0 = true := by kernel_rfl
set_option maxRecDepth 100000 in
theorem r1001_d0 : run1001 Go.Proofs.Ythcdiaahpodkoaa.pair3Drawn.d0 = true := by kernel_rfl
set_option maxRecDepth 100000 in
theorem r1000_d4 : run1000 Go.Proofs.Ythcdiaahpodkoaa.pair3Drawn.d4 = true := by kernel_rfl
set_option maxRecDepth 100000 in
theorem r1001_d4 : run1001 Go.Proofs.Ythcdiaahpodkoaa.pair3Drawn.d4 = true := by kernel_rfl
set_option maxRecDepth 100000 in
theorem r1000_d8 : run1000 Go.Proofs.Ythcdiaahpodkoaa.pair3Drawn.d8 = true := by kernel_rfl
set_option maxRecDepth 100000 in
theorem r1001_d8 : run1001 Go.Proofs.Ythcdiaahpodkoaa.pair3Drawn.d8 = true := by kernel_rfl
set_option maxRecDepth 100000 in
theorem r1000_d12 : run1000 Go.Proofs.Ythcdiaahpodkoaa.pair3Drawn.d12 = true := by kernel_rfl
set_option maxRecDepth 100000 in
theorem r1001_d12 : run1001 Go.Proofs.Ythcdiaahpodkoaa.pair3Drawn.d12 = true := by kernel_rfl
set_option maxRecDepth 100000 in
theorem r1000_d16 : run1000 Go.Proofs.Ythcdiaahpodkoaa.pair3Drawn.d16 = true := by kernel_rfl
set_option maxRecDepth 100000 in
theorem r1001_d16 : run1001 Go.Proofs.Ythcdiaahpodkoaa.pair3Drawn.d16 = true := by kernel_rfl
set_option maxRecDepth 100000 in
theorem r1000_d20 : run1000 Go.Proofs.Ythcdiaahpodkoaa.pair3Drawn.d20 = true := by kernel_rfl
set_option maxRecDepth 100000 in
theorem r1001_d20 : run1001 Go.Proofs.Ythcdiaahpodkoaa.pair3Drawn.d20 = true := by kernel_rfl
set_option maxRecDepth 100000 in
theorem r1000_d24 : run1000 Go.Proofs.Ythcdiaahpodkoaa.pair3Drawn.d24 = true := by kernel_rfl
set_option maxRecDepth 100000 in
theorem r1001_d24 : run1001 Go.Proofs.Ythcdiaahpodkoaa.pair3Drawn.d24 = true := by kernel_rfl
set_option maxRecDepth 100000 in
theorem r1000_d28 : run1000 Go.Proofs.Ythcdiaahpodkoaa.pair3Drawn.d28 = true := by kernel_rfl
set_option maxRecDepth 100000 in
theorem r1001_d28 : run1001 Go.Proofs.Ythcdiaahpodkoaa.pair3Drawn.d28 = true := by kernel_rfl
set_option maxRecDepth 100000 in
theorem r1000_d32 : run1000 Go.Proofs.Ythcdiaahpodkoaa.pair3Drawn.d32 = true := by kernel_rfl
set_option maxRecDepth 100000 in
theorem r1001_d32 : run1001 Go.Proofs.Ythcdiaahpodkoaa.pair3Drawn.d32 = true := by kernel_rfl
set_option maxRecDepth 100000 in
theorem r1000_d36 : run1000 Go.Proofs.Ythcdiaahpodkoaa.pair3Drawn.d36 = true := by kernel_rfl
set_option maxRecDepth 100000 in
theorem r1001_d36 : run1001 Go.Proofs.Ythcdiaahpodkoaa.pair3Drawn.d36 = true := by kernel_rfl
set_option maxRecDepth 100000 in
theorem r1000_d40 : run1000 Go.Proofs.Ythcdiaahpodkoaa.pair3Drawn.d40 = true := by kernel_rfl
set_option maxRecDepth 100000 in
theorem r1001_d40 : run1001 Go.Proofs.Ythcdiaahpodkoaa.pair3Drawn.d40 = true := by kernel_rfl
set_option maxRecDepth 100000 in
theorem r1000_d44 : run1000 Go.Proofs.Ythcdiaahpodkoaa.pair3Drawn.d44 = true := by kernel_rfl
set_option maxRecDepth 100000 in
theorem r1001_d44 : run1001 Go.Proofs.Ythcdiaahpodkoaa.pair3Drawn.d44 = true := by kernel_rfl
set_option maxRecDepth 100000 in
theorem r1000_d48 : run1000 Go.Proofs.Ythcdiaahpodkoaa.pair3Drawn.d48 = true := by kernel_rfl
set_option maxRecDepth 100000 in
theorem r1001_d48 : run1001 Go.Proofs.Ythcdiaahpodkoaa.pair3Drawn.d48 = true := by kernel_rfl
set_option maxRecDepth 100000 in
theorem r1000_d52 : run1000 Go.Proofs.Ythcdiaahpodkoaa.pair3Drawn.d52 = true := by kernel_rfl
set_option maxRecDepth 100000 in
theorem r1001_d52 : run1001 Go.Proofs.Ythcdiaahpodkoaa.pair3Drawn.d52 = true := by kernel_rfl
set_option maxRecDepth 100000 in
theorem r1000_d56 : run1000 Go.Proofs.Ythcdiaahpodkoaa.pair3Drawn.d56 = true := by kernel_rfl
set_option maxRecDepth 100000 in
theorem r1001_d56 : run1001 Go.Proofs.Ythcdiaahpodkoaa.pair3Drawn.d56 = true := by kernel_rfl
set_option maxRecDepth 100000 in
theorem r1000_d60 : run1000 Go.Proofs.Ythcdiaahpodkoaa.pair3Drawn.d60 = true := by kernel_rfl
set_option maxRecDepth 100000 in
theorem r1001_d60 : run1001 Go.Proofs.Ythcdiaahpodkoaa.pair3Drawn.d60 = true := by kernel_rfl
set_option maxRecDepth 100000 in
theorem r1000_d64 : run1000 Go.Proofs.Ythcdiaahpodkoaa.pair3Drawn.d64 = true := by kernel_rfl
set_option maxRecDepth 100000 in
theorem r1001_d64 : run1001 Go.Proofs.Ythcdiaahpodkoaa.pair3Drawn.d64 = true := by kernel_rfl
set_option maxRecDepth 100000 in
theorem r1000_d68 : run1000 Go.Proofs.Ythcdiaahpodkoaa.pair3Drawn.d68 = true := by kernel_rfl
set_option maxRecDepth 100000 in
theorem r1001_d68 : run1001 Go.Proofs.Ythcdiaahpodkoaa.pair3Drawn.d68 = true := by kernel_rfl
set_option maxRecDepth 100000 in
theorem r1000_d72 : run1000 Go.Proofs.Ythcdiaahpodkoaa.pair3Drawn.d72 = true := by kernel_rfl
set_option maxRecDepth 100000 in
theorem r1001_d72 : run1001 Go.Proofs.Ythcdiaahpodkoaa.pair3Drawn.d72 = true := by kernel_rfl
set_option maxRecDepth 100000 in
theorem r1000_d76 : run1000 Go.Proofs.Ythcdiaahpodkoaa.pair3Drawn.d76 = true := by kernel_rfl
set_option maxRecDepth 100000 in
theorem r1001_d76 : run1001 Go.Proofs.Ythcdiaahpodkoaa.pair3Drawn.d76 = true := by kernel_rfl
set_option maxRecDepth 100000 in
theorem r1000_d80 : run1000 Go.Proofs.Ythcdiaahpodkoaa.pair3Drawn.d80 = true := by kernel_rfl
set_option maxRecDepth 100000 in
theorem r1001_d80 : run1001 Go.Proofs.Ythcdiaahpodkoaa.pair3Drawn.d80 = true := by kernel_rfl
set_option maxRecDepth 100000 in
theorem r1000_d84 : run1000 Go.Proofs.Ythcdiaahpodkoaa.pair3Drawn.d84 = true := by kernel_rfl
set_option maxRecDepth 100000 in
theorem r1001_d84 : run1001 Go.Proofs.Ythcdiaahpodkoaa.pair3Drawn.d84 = true := by kernel_rfl
set_option maxRecDepth 100000 in
theorem r1000_d88 : run1000 Go.Proofs.Ythcdiaahpodkoaa.pair3Drawn.d88 = true := by kernel_rfl
set_option maxRecDepth 100000 in
theorem r1001_d88 : run1001 Go.Proofs.Ythcdiaahpodkoaa.pair3Drawn.d88 = true := by kernel_rfl
set_option maxRecDepth 100000 in
theorem r1000_d92 : run1000 Go.Proofs.Ythcdiaahpodkoaa.pair3Drawn.d92 = true := by kernel_rfl
set_option maxRecDepth 100000 in
theorem r1001_d92 : run1001 Go.Proofs.Ythcdiaahpodkoaa.pair3Drawn.d92 = true := by kernel_rfl
set_option maxRecDepth 100000 in
theorem r1000_d96 : run1000 Go.Proofs.Ythcdiaahpodkoaa.pair3Drawn.d96 = true := by kernel_rfl
set_option maxRecDepth 100000 in
theorem r1001_d96 : run1001 Go.Proofs.Ythcdiaahpodkoaa.pair3Drawn.d96 = true := by kernel_rfl
set_option maxRecDepth 100000 in
theorem r1000_d100 : run1000 Go.Proofs.Ythcdiaahpodkoaa.pair3Drawn.d100 = true := by kernel_rfl
set_option maxRecDepth 100000 in
theorem r1001_d100 : run1001 Go.Proofs.Ythcdiaahpodkoaa.pair3Drawn.d100 = true := by kernel_rfl
set_option maxRecDepth 100000 in
theorem r1000_d104 : run1000 Go.Proofs.Ythcdiaahpodkoaa.pair3Drawn.d104 = true := by kernel_rfl
set_option maxRecDepth 100000 in
theorem r1001_d104 : run1001 Go.Proofs.Ythcdiaahpodkoaa.pair3Drawn.d104 = true := by kernel_rfl
set_option maxRecDepth 100000 in
theorem r1000_d108 : run1000 Go.Proofs.Ythcdiaahpodkoaa.pair3Drawn.d108 = true := by kernel_rfl
set_option maxRecDepth 100000 in
theorem r1001_d108 : run1001 Go.Proofs.Ythcdiaahpodkoaa.pair3Drawn.d108 = true := by kernel_rfl
set_option maxRecDepth 100000 in
theorem r1000_d112 : run1000 Go.Proofs.Ythcdiaahpodkoaa.pair3Drawn.d112 = true := by kernel_rfl
set_option maxRecDepth 100000 in
theorem r1001_d112 : run1001 Go.Proofs.Ythcdiaahpodkoaa.pair3Drawn.d112 = true := by kernel_rfl
set_option maxRecDepth 100000 in
theorem r1000_d116 : run1000 Go.Proofs.Ythcdiaahpodkoaa.pair3Drawn.d116 = true := by kernel_rfl
set_option maxRecDepth 100000 in
theorem r1001_d116 : run1001 Go.Proofs.Ythcdiaahpodkoaa.pair3Drawn.d116 = true := by kernel_rfl
set_option maxRecDepth 100000 in
theorem r1000_d120 : run1000 Go.Proofs.Ythcdiaahpodkoaa.pair3Drawn.d120 = true := by kernel_rfl
set_option maxRecDepth 100000 in
theorem r1001_d120 : run1001 Go.Proofs.Ythcdiaahpodkoaa.pair3Drawn.d120 = true := by kernel_rfl
set_option maxRecDepth 100000 in
theorem r1000_d124 : run1000 Go.Proofs.Ythcdiaahpodkoaa.pair3Drawn.d124 = true := by kernel_rfl
set_option maxRecDepth 100000 in
theorem r1001_d124 : run1001 Go.Proofs.Ythcdiaahpodkoaa.pair3Drawn.d124 = true := by kernel_rfl
set_option maxRecDepth 100000 in
theorem r1000_d128 : run1000 Go.Proofs.Ythcdiaahpodkoaa.pair3Drawn.d128 = true := by kernel_rfl
set_option maxRecDepth 100000 in
theorem r1001_d128 : run1001 Go.Proofs.Ythcdiaahpodkoaa.pair3Drawn.d128 = true := by kernel_rfl
set_option maxRecDepth 100000 in
theorem r1000_d132 : run1000 Go.Proofs.Ythcdiaahpodkoaa.pair3Drawn.d132 = true := by kernel_rfl
set_option maxRecDepth 100000 in
theorem r1001_d132 : run1001 Go.Proofs.Ythcdiaahpodkoaa.pair3Drawn.d132 = true := by kernel_rfl
set_option maxRecDepth 100000 in
theorem r1000_d136 : run1000 Go.Proofs.Ythcdiaahpodkoaa.pair3Drawn.d136 = true := by kernel_rfl
set_option maxRecDepth 100000 in
theorem r1001_d136 : run1001 Go.Proofs.Ythcdiaahpodkoaa.pair3Drawn.d136 = true := by kernel_rfl
set_option maxRecDepth 100000 in
theorem r1000_d140 : run1000 Go.Proofs.Ythcdiaahpodkoaa.pair3Drawn.d140 = true := by kernel_rfl
set_option maxRecDepth 100000 in
theorem r1001_d140 : run1001 Go.Proofs.Ythcdiaahpodkoaa.pair3Drawn.d140 = true := by kernel_rfl
set_option maxRecDepth 100000 in
theorem r1000_d144 : run1000 Go.Proofs.Ythcdiaahpodkoaa.pair3Drawn.d144 = true := by kernel_rfl
set_option maxRecDepth 100000 in
theorem r1001_d144 : run1001 Go.Proofs.Ythcdiaahpodkoaa.pair3Drawn.d144 = true := by kernel_rfl
set_option maxRecDepth 100000 in
theorem r1000_d148 : run1000 Go.Proofs.Ythcdiaahpodkoaa.pair3Drawn.d148 = true := by kernel_rfl
set_option maxRecDepth 100000 in
theorem r1001_d148 : run1001 Go.Proofs.Ythcdiaahpodkoaa.pair3Drawn.d148 = true := by kernel_rfl
set_option maxRecDepth 100000 in
theorem r1000_d152 : run1000 Go.Proofs.Ythcdiaahpodkoaa.pair3Drawn.d152 = true := by kernel_rfl
set_option maxRecDepth 100000 in
theorem r1001_d152 : run1001 Go.Proofs.Ythcdiaahpodkoaa.pair3Drawn.d152 = true := by kernel_rfl
set_option maxRecDepth 100000 in
theorem r1000_d156 : run1000 Go.Proofs.Ythcdiaahpodkoaa.pair3Drawn.d156 = true := by kernel_rfl
set_option maxRecDepth 100000 in
theorem r1001_d156 : run1001 Go.Proofs.Ythcdiaahpodkoaa.pair3Drawn.d156 = true := by kernel_rfl
set_option maxRecDepth 100000 in
theorem r1000_d160 : run1000 Go.Proofs.Ythcdiaahpodkoaa.pair3Drawn.d160 = true := by kernel_rfl
set_option maxRecDepth 100000 in
theorem r1001_d160 : run1001 Go.Proofs.Ythcdiaahpodkoaa.pair3Drawn.d160 = true := by kernel_rfl
set_option maxRecDepth 100000 in
theorem r1000_d164 : run1000 Go.Proofs.Ythcdiaahpodkoaa.pair3Drawn.d164 = true := by kernel_rfl
set_option maxRecDepth 100000 in
theorem r1001_d164 : run1001 Go.Proofs.Ythcdiaahpodkoaa.pair3Drawn.d164 = true := by kernel_rfl
set_option maxRecDepth 100000 in
theorem r1000_d168 : run1000 Go.Proofs.Ythcdiaahpodkoaa.pair3Drawn.d168 = true := by kernel_rfl
set_option maxRecDepth 100000 in
theorem r1001_d168 : run1001 Go.Proofs.Ythcdiaahpodkoaa.pair3Drawn.d168 = true := by kernel_rfl
set_option maxRecDepth 100000 in
theorem r1000_d172 : run1000 Go.Proofs.Ythcdiaahpodkoaa.pair3Drawn.d172 = true := by kernel_rfl
set_option maxRecDepth 100000 in
theorem r1001_d172 : run1001 Go.Proofs.Ythcdiaahpodkoaa.pair3Drawn.d172 = true := by kernel_rfl
set_option maxRecDepth 100000 in
theorem r1000_d176 : run1000 Go.Proofs.Ythcdiaahpodkoaa.pair3Drawn.d176 = true := by kernel_rfl
set_option maxRecDepth 100000 in
theorem r1001_d176 : run1001 Go.Proofs.Ythcdiaahpodkoaa.pair3Drawn.d176 = true := by kernel_rfl
set_option maxRecDepth 100000 in
theorem r1000_d180 : run1000 Go.Proofs.Ythcdiaahpodkoaa.pair3Drawn.d180 = true := by kernel_rfl
set_option maxRecDepth 100000 in
theorem r1001_d180 : run1001 Go.Proofs.Ythcdiaahpodkoaa.pair3Drawn.d180 = true := by kernel_rfl
set_option maxRecDepth 100000 in
theorem r1000_d184 : run1000 Go.Proofs.Ythcdiaahpodkoaa.pair3Drawn.d184 = true := by kernel_rfl
set_option maxRecDepth 100000 in
theorem r1001_d184 : run1001 Go.Proofs.Ythcdiaahpodkoaa.pair3Drawn.d184 = true := by kernel_rfl
set_option maxRecDepth 100000 in
theorem r1000_d188 : run1000 Go.Proofs.Ythcdiaahpodkoaa.pair3Drawn.d188 = true := by kernel_rfl
set_option maxRecDepth 100000 in
theorem r1001_d188 : run1001 Go.Proofs.Ythcdiaahpodkoaa.pair3Drawn.d188 = true := by kernel_rfl
set_option maxRecDepth 100000 in
theorem r1000_d192 : run1000 Go.Proofs.Ythcdiaahpodkoaa.pair3Drawn.d192 = true := by kernel_rfl
set_option maxRecDepth 100000 in
theorem r1001_d192 : run1001 Go.Proofs.Ythcdiaahpodkoaa.pair3Drawn.d192 = true := by kernel_rfl
set_option maxRecDepth 100000 in
theorem r1000_d196 : run1000 Go.Proofs.Ythcdiaahpodkoaa.pair3Drawn.d196 = true := by kernel_rfl
set_option maxRecDepth 100000 in
theorem r1001_d196 : run1001 Go.Proofs.Ythcdiaahpodkoaa.pair3Drawn.d196 = true := by kernel_rfl
set_option maxRecDepth 100000 in
theorem r1000_d200 : run1000 Go.Proofs.Ythcdiaahpodkoaa.pair3Drawn.d200 = true := by kernel_rfl
set_option maxRecDepth 100000 in
theorem r1001_d200 : run1001 Go.Proofs.Ythcdiaahpodkoaa.pair3Drawn.d200 = true := by kernel_rfl
set_option maxRecDepth 100000 in
theorem r1000_d204 : run1000 Go.Proofs.Ythcdiaahpodkoaa.pair3Drawn.d204 = true := by kernel_rfl
set_option maxRecDepth 100000 in
theorem r1001_d204 : run1001 Go.Proofs.Ythcdiaahpodkoaa.pair3Drawn.d204 = true := by kernel_rfl
set_option maxRecDepth 100000 in
theorem r1000_d208 : run1000 Go.Proofs.Ythcdiaahpodkoaa.pair3Drawn.d208 = true := by kernel_rfl
set_option maxRecDepth 100000 in
theorem r1001_d208 : run1001 Go.Proofs.Ythcdiaahpodkoaa.pair3Drawn.d208 = true := by kernel_rfl
set_option maxRecDepth 100000 in
theorem r1000_d212 : run1000 Go.Proofs.Ythcdiaahpodkoaa.pair3Drawn.d212 = true := by kernel_rfl
set_option maxRecDepth 100000 in
theorem r1001_d212 : run1001 Go.Proofs.Ythcdiaahpodkoaa.pair3Drawn.d212 = true := by kernel_rfl
set_option maxRecDepth 100000 in
theorem r1000_d216 : run1000 Go.Proofs.Ythcdiaahpodkoaa.pair3Drawn.d216 = true := by kernel_rfl
set_option maxRecDepth 100000 in
theorem r1001_d216 : run1001 Go.Proofs.Ythcdiaahpodkoaa.pair3Drawn.d216 = true := by kernel_rfl
set_option maxRecDepth 100000 in
theorem r1000_d220 : run1000 Go.Proofs.Ythcdiaahpodkoaa.pair3Drawn.d220 = true := by kernel_rfl
set_option maxRecDepth 100000 in
theorem r1001_d220 : run1001 Go.Proofs.Ythcdiaahpodkoaa.pair3Drawn.d220 = true := by kernel_rfl
set_option maxRecDepth 100000 in
theorem r1000_d224 : run1000 Go.Proofs.Ythcdiaahpodkoaa.pair3Drawn.d224 = true := by kernel_rfl
set_option maxRecDepth 100000 in
theorem r1001_d224 : run1001 Go.Proofs.Ythcdiaahpodkoaa.pair3Drawn.d224 = true := by kernel_rfl
set_option maxRecDepth 100000 in
theorem r1000_d228 : run1000 Go.Proofs.Ythcdiaahpodkoaa.pair3Drawn.d228 = true := by kernel_rfl
set_option maxRecDepth 100000 in
theorem r1001_d228 : run1001 Go.Proofs.Ythcdiaahpodkoaa.pair3Drawn.d228 = true := by kernel_rfl
set_option maxRecDepth 100000 in
theorem r1000_d232 : run1000 Go.Proofs.Ythcdiaahpodkoaa.pair3Drawn.d232 = true := by kernel_rfl
set_option maxRecDepth 100000 in
theorem r1001_d232 : run1001 Go.Proofs.Ythcdiaahpodkoaa.pair3Drawn.d232 = true := by kernel_rfl
set_option maxRecDepth 100000 in
theorem r1000_d236 : run1000 Go.Proofs.Ythcdiaahpodkoaa.pair3Drawn.d236 = true := by kernel_rfl
set_option maxRecDepth 100000 in
theorem r1001_d236 : run1001 Go.Proofs.Ythcdiaahpodkoaa.pair3Drawn.d236 = true := by kernel_rfl
set_option maxRecDepth 100000 in
theorem r1000_d240 : run1000 Go.Proofs.Ythcdiaahpodkoaa.pair3Drawn.d240 = true := by kernel_rfl
set_option maxRecDepth 100000 in
theorem r1001_d240 : run1001 Go.Proofs.Ythcdiaahpodkoaa.pair3Drawn.d240 = true := by kernel_rfl
set_option maxRecDepth 100000 in
theorem r1000_d244 : run1000 Go.Proofs.Ythcdiaahpodkoaa.pair3Drawn.d244 = true := by kernel_rfl
set_option maxRecDepth 100000 in
theorem r1001_d244 : run1001 Go.Proofs.Ythcdiaahpodkoaa.pair3Drawn.d244 = true := by kernel_rfl
set_option maxRecDepth 100000 in
theorem r1000_d248 : run1000 Go.Proofs.Ythcdiaahpodkoaa.pair3Drawn.d248 = true := by kernel_rfl
set_option maxRecDepth 100000 in
theorem r1001_d248 : run1001 Go.Proofs.Ythcdiaahpodkoaa.pair3Drawn.d248 = true := by kernel_rfl
set_option maxRecDepth 100000 in
theorem r1000_d252 : run1000 Go.Proofs.Ythcdiaahpodkoaa.pair3Drawn.d252 = true := by kernel_rfl
set_option maxRecDepth 100000 in
theorem r1001_d252 : run1001 Go.Proofs.Ythcdiaahpodkoaa.pair3Drawn.d252 = true := by kernel_rfl
set_option maxRecDepth 100000 in
theorem r1000_d256 : run1000 Go.Proofs.Ythcdiaahpodkoaa.pair3Drawn.d256 = true := by kernel_rfl
set_option maxRecDepth 100000 in
theorem r1001_d256 : run1001 Go.Proofs.Ythcdiaahpodkoaa.pair3Drawn.d256 = true := by kernel_rfl
set_option maxRecDepth 100000 in
theorem r1000_d260 : run1000 Go.Proofs.Ythcdiaahpodkoaa.pair3Drawn.d260 = true := by kernel_rfl
set_option maxRecDepth 100000 in
theorem r1001_d260 : run1001 Go.Proofs.Ythcdiaahpodkoaa.pair3Drawn.d260 = true := by kernel_rfl
set_option maxRecDepth 100000 in
theorem r1000_d264 : run1000 Go.Proofs.Ythcdiaahpodkoaa.pair3Drawn.d264 = true := by kernel_rfl
set_option maxRecDepth 100000 in
theorem r1001_d264 : run1001 Go.Proofs.Ythcdiaahpodkoaa.pair3Drawn.d264 = true := by kernel_rfl
set_option maxRecDepth 100000 in
theorem r1000_d268 : run1000 Go.Proofs.Ythcdiaahpodkoaa.pair3Drawn.d268 = true := by kernel_rfl
set_option maxRecDepth 100000 in
theorem r1001_d268 : run1001 Go.Proofs.Ythcdiaahpodkoaa.pair3Drawn.d268 = true := by kernel_rfl
set_option maxRecDepth 100000 in
theorem r1000_d272 : run1000 Go.Proofs.Ythcdiaahpodkoaa.pair3Drawn.d272 = true := by kernel_rfl
set_option maxRecDepth 100000 in
theorem r1001_d272 : run1001 Go.Proofs.Ythcdiaahpodkoaa.pair3Drawn.d272 = true := by kernel_rfl
set_option maxRecDepth 100000 in
theorem r1000_d276 : run1000 Go.Proofs.Ythcdiaahpodkoaa.pair3Drawn.d276 = true := by kernel_rfl
set_option maxRecDepth 100000 in
theorem r1001_d276 : run1001 Go.Proofs.Ythcdiaahpodkoaa.pair3Drawn.d276 = true := by kernel_rfl
set_option maxRecDepth 100000 in
theorem r1000_d280 : run1000 Go.Proofs.Ythcdiaahpodkoaa.pair3Drawn.d280 = true := by kernel_rfl
set_option maxRecDepth 100000 in
theorem r1001_d280 : run1001 Go.Proofs.Ythcdiaahpodkoaa.pair3Drawn.d280 = true := by kernel_rfl
set_option maxRecDepth 100000 in
theorem r1000_d284 : run1000 Go.Proofs.Ythcdiaahpodkoaa.pair3Drawn.d284 = true := by kernel_rfl
set_option maxRecDepth 100000 in
theorem r1001_d284 : run1001 Go.Proofs.Ythcdiaahpodkoaa.pair3Drawn.d284 = true := by kernel_rfl
set_option maxRecDepth 100000 in
theorem r1000_d288 : run1000 Go.Proofs.Ythcdiaahpodkoaa.pair3Drawn.d288 = true := by kernel_rfl
set_option maxRecDepth 100000 in
theorem r1001_d288 : run1001 Go.Proofs.Ythcdiaahpodkoaa.pair3Drawn.d288 = true := by kernel_rfl
set_option maxRecDepth 100000 in
theorem r1000_d292 : run1000 Go.Proofs.Ythcdiaahpodkoaa.pair3Drawn.d292 = true := by kernel_rfl
set_option maxRecDepth 100000 in
theorem r1001_d292 : run1001 Go.Proofs.Ythcdiaahpodkoaa.pair3Drawn.d292 = true := by kernel_rfl
set_option maxRecDepth 100000 in
theorem r1000_d296 : run1000 Go.Proofs.Ythcdiaahpodkoaa.pair3Drawn.d296 = true := by kernel_rfl
set_option maxRecDepth 100000 in
theorem r1001_d296 : run1001 Go.Proofs.Ythcdiaahpodkoaa.pair3Drawn.d296 = true := by kernel_rfl
set_option maxRecDepth 100000 in
theorem r1000_d300 : run1000 Go.Proofs.Ythcdiaahpodkoaa.pair3Drawn.d300 = true := by kernel_rfl
set_option maxRecDepth 100000 in
theorem r1001_d300 : run1001 Go.Proofs.Ythcdiaahpodkoaa.pair3Drawn.d300 = true := by kernel_rfl
set_option maxRecDepth 100000 in
theorem r1000_d304 : run1000 Go.Proofs.Ythcdiaahpodkoaa.pair3Drawn.d304 = true := by kernel_rfl
set_option maxRecDepth 100000 in
theorem r1001_d304 : run1001 Go.Proofs.Ythcdiaahpodkoaa.pair3Drawn.d304 = true := by kernel_rfl
set_option maxRecDepth 100000 in
theorem r1000_d308 : run1000 Go.Proofs.Ythcdiaahpodkoaa.pair3Drawn.d308 = true := by kernel_rfl
set_option maxRecDepth 100000 in
theorem r1001_d308 : run1001 Go.Proofs.Ythcdiaahpodkoaa.pair3Drawn.d308 = true := by kernel_rfl
set_option maxRecDepth 100000 in
theorem r1000_d312 : run1000 Go.Proofs.Ythcdiaahpodkoaa.pair3Drawn.d312 = true := by kernel_rfl
set_option maxRecDepth 100000 in
theorem r1001_d312 : run1001 Go.Proofs.Ythcdiaahpodkoaa.pair3Drawn.d312 = true := by kernel_rfl
set_option maxRecDepth 100000 in
theorem r1000_d316 : run1000 Go.Proofs.Ythcdiaahpodkoaa.pair3Drawn.d316 = true := by kernel_rfl
set_option maxRecDepth 100000 in
theorem r1001_d316 : run1001 Go.Proofs.Ythcdiaahpodkoaa.pair3Drawn.d316 = true := by kernel_rfl
set_option maxRecDepth 100000 in
theorem r1000_d320 : run1000 Go.Proofs.Ythcdiaahpodkoaa.pair3Drawn.d320 = true := by kernel_rfl
set_option maxRecDepth 100000 in
theorem r1001_d320 : run1001 Go.Proofs.Ythcdiaahpodkoaa.pair3Drawn.d320 = true := by kernel_rfl
set_option maxRecDepth 100000 in
theorem r1000_d324 : run1000 Go.Proofs.Ythcdiaahpodkoaa.pair3Drawn.d324 = true := by kernel_rfl
set_option maxRecDepth 100000 in
theorem r1001_d324 : run1001 Go.Proofs.Ythcdiaahpodkoaa.pair3Drawn.d324 = true := by kernel_rfl
set_option maxRecDepth 100000 in
theorem r1000_d328 : run1000 Go.Proofs.Ythcdiaahpodkoaa.pair3Drawn.d328 = true := by kernel_rfl
set_option maxRecDepth 100000 in
theorem r1001_d328 : run1001 Go.Proofs.Ythcdiaahpodkoaa.pair3Drawn.d328 = true := by kernel_rfl
set_option maxRecDepth 100000 in
theorem r1000_d332 : run1000 Go.Proofs.Ythcdiaahpodkoaa.pair3Drawn.d332 = true := by kernel_rfl
set_option maxRecDepth 100000 in
theorem r1001_d332 : run1001 Go.Proofs.Ythcdiaahpodkoaa.pair3Drawn.d332 = true := by kernel_rfl
set_option maxRecDepth 100000 in
theorem r1000_d336 : run1000 Go.Proofs.Ythcdiaahpodkoaa.pair3Drawn.d336 = true := by kernel_rfl
set_option maxRecDepth 100000 in
theorem r1001_d336 : run1001 Go.Proofs.Ythcdiaahpodkoaa.pair3Drawn.d336 = true := by kernel_rfl
set_option maxRecDepth 100000 in
theorem r1000_d340 : run1000 Go.Proofs.Ythcdiaahpodkoaa.pair3Drawn.d340 = true := by kernel_rfl
set_option maxRecDepth 100000 in
theorem r1001_d340 : run1001 Go.Proofs.Ythcdiaahpodkoaa.pair3Drawn.d340 = true := by kernel_rfl
set_option maxRecDepth 100000 in
theorem r1000_d344 : run1000 Go.Proofs.Ythcdiaahpodkoaa.pair3Drawn.d344 = true := by kernel_rfl
set_option maxRecDepth 100000 in
theorem r1001_d344 : run1001 Go.Proofs.Ythcdiaahpodkoaa.pair3Drawn.d344 = true := by kernel_rfl
set_option maxRecDepth 100000 in
theorem r1000_d348 : run1000 Go.Proofs.Ythcdiaahpodkoaa.pair3Drawn.d348 = true := by kernel_rfl
set_option maxRecDepth 100000 in
theorem r1001_d348 : run1001 Go.Proofs.Ythcdiaahpodkoaa.pair3Drawn.d348 = true := by kernel_rfl
set_option maxRecDepth 100000 in
theorem r1000_d352 : run1000 Go.Proofs.Ythcdiaahpodkoaa.pair3Drawn.d352 = true := by kernel_rfl
set_option maxRecDepth 100000 in
theorem r1001_d352 : run1001 Go.Proofs.Ythcdiaahpodkoaa.pair3Drawn.d352 = true := by kernel_rfl
set_option maxRecDepth 100000 in
theorem r1000_d356 : run1000 Go.Proofs.Ythcdiaahpodkoaa.pair3Drawn.d356 = true := by kernel_rfl
set_option maxRecDepth 100000 in
theorem r1001_d356 : run1001 Go.Proofs.Ythcdiaahpodkoaa.pair3Drawn.d356 = true := by kernel_rfl
set_option maxRecDepth 100000 in
theorem r1000_d360 : run1000 Go.Proofs.Ythcdiaahpodkoaa.pair3Drawn.d360 = true := by kernel_rfl
set_option maxRecDepth 100000 in
theorem r1001_d360 : run1001 Go.Proofs.Ythcdiaahpodkoaa.pair3Drawn.d360 = true := by kernel_rfl
set_option maxRecDepth 100000 in
theorem r1000_d364 : run1000 Go.Proofs.Ythcdiaahpodkoaa.pair3Drawn.d364 = true := by kernel_rfl
set_option maxRecDepth 100000 in
theorem r1001_d364 : run1001 Go.Proofs.Ythcdiaahpodkoaa.pair3Drawn.d364 = true := by kernel_rfl
set_option maxRecDepth 100000 in
theorem r1000_d368 : run1000 Go.Proofs.Ythcdiaahpodkoaa.pair3Drawn.d368 = true := by kernel_rfl
set_option maxRecDepth 100000 in
theorem r1001_d368 : run1001 Go.Proofs.Ythcdiaahpodkoaa.pair3Drawn.d368 = true := by kernel_rfl
set_option maxRecDepth 100000 in
theorem r1000_d372 : run1000 Go.Proofs.Ythcdiaahpodkoaa.pair3Drawn.d372 = true := by kernel_rfl
set_option maxRecDepth 100000 in
theorem r1001_d372 : run1001 Go.Proofs.Ythcdiaahpodkoaa.pair3Drawn.d372 = true := by kernel_rfl
set_option maxRecDepth 100000 in
theorem r1000_d376 : run1000 Go.Proofs.Ythcdiaahpodkoaa.pair3Drawn.d376 = true := by kernel_rfl
set_option maxRecDepth 100000 in
theorem r1001_d376 : run1001 Go.Proofs.Ythcdiaahpodkoaa.pair3Drawn.d376 = true := by kernel_rfl
set_option maxRecDepth 100000 in
theorem r1000_d380 : run1000 Go.Proofs.Ythcdiaahpodkoaa.pair3Drawn.d380 = true := by kernel_rfl
set_option maxRecDepth 100000 in
theorem r1001_d380 : run1001 Go.Proofs.Ythcdiaahpodkoaa.pair3Drawn.d380 = true := by kernel_rfl
set_option maxRecDepth 100000 in
theorem r1000_d384 : run1000 Go.Proofs.Ythcdiaahpodkoaa.pair3Drawn.d384 = true := by kernel_rfl
set_option maxRecDepth 100000 in
theorem r1001_d384 : run1001 Go.Proofs.Ythcdiaahpodkoaa.pair3Drawn.d384 = true := by kernel_rfl
set_option maxRecDepth 100000 in
theorem r1000_d388 : run1000 Go.Proofs.Ythcdiaahpodkoaa.pair3Drawn.d388 = true := by kernel_rfl
set_option maxRecDepth 100000 in
theorem r1001_d388 : run1001 Go.Proofs.Ythcdiaahpodkoaa.pair3Drawn.d388 = true := by kernel_rfl
set_option maxRecDepth 100000 in
theorem r1000_d392 : run1000 Go.Proofs.Ythcdiaahpodkoaa.pair3Drawn.d392 = true := by kernel_rfl
set_option maxRecDepth 100000 in
theorem r1001_d392 : run1001 Go.Proofs.Ythcdiaahpodkoaa.pair3Drawn.d392 = true := by kernel_rfl
set_option maxRecDepth 100000 in
theorem r1000_d396 : run1000 Go.Proofs.Ythcdiaahpodkoaa.pair3Drawn.d396 = true := by kernel_rfl
set_option maxRecDepth 100000 in
theorem r1001_d396 : run1001 Go.Proofs.Ythcdiaahpodkoaa.pair3Drawn.d396 = true := by kernel_rfl
set_option maxRecDepth 100000 in
theorem r1000_d400 : run1000 Go.Proofs.Ythcdiaahpodkoaa.pair3Drawn.d400 = true := by kernel_rfl
set_option maxRecDepth 100000 in
theorem r1001_d400 : run1001 Go.Proofs.Ythcdiaahpodkoaa.pair3Drawn.d400 = true := by kernel_rfl
set_option maxRecDepth 100000 in
theorem r1000_d404 : run1000 Go.Proofs.Ythcdiaahpodkoaa.pair3Drawn.d404 = true := by kernel_rfl
set_option maxRecDepth 100000 in
theorem r1001_d404 : run1001 Go.Proofs.Ythcdiaahpodkoaa.pair3Drawn.d404 = true := by kernel_rfl
set_option maxRecDepth 100000 in
theorem r1000_d408 : run1000 Go.Proofs.Ythcdiaahpodkoaa.pair3Drawn.d408 = true := by kernel_rfl
set_option maxRecDepth 100000 in
theorem r1001_d408 : run1001 Go.Proofs.Ythcdiaahpodkoaa.pair3Drawn.d408 = true := by kernel_rfl
set_option maxRecDepth 100000 in
theorem r1000_d412 : run1000 Go.Proofs.Ythcdiaahpodkoaa.pair3Drawn.d412 = true := by kernel_rfl
set_option maxRecDepth 100000 in
theorem r1001_d412 : run1001 Go.Proofs.Ythcdiaahpodkoaa.pair3Drawn.d412 = true := by kernel_rfl
set_option maxRecDepth 100000 in
theorem r1000_d416 : run1000 Go.Proofs.Ythcdiaahpodkoaa.pair3Drawn.d416 = true := by kernel_rfl
set_option maxRecDepth 100000 in
theorem r1001_d416 : run1001 Go.Proofs.Ythcdiaahpodkoaa.pair3Drawn.d416 = true := by kernel_rfl
set_option maxRecDepth 100000 in
theorem r1000_d420 : run1000 Go.Proofs.Ythcdiaahpodkoaa.pair3Drawn.d420 = true := by kernel_rfl
set_option maxRecDepth 100000 in
theorem r1001_d420 : run1001 Go.Proofs.Ythcdiaahpodkoaa.pair3Drawn.d420 = true := by kernel_rfl
set_option maxRecDepth 100000 in
theorem r1000_d424 : run1000 Go.Proofs.Ythcdiaahpodkoaa.pair3Drawn.d424 = true := by kernel_rfl
set_option maxRecDepth 100000 in
theorem r1001_d424 : run1001 Go.Proofs.Ythcdiaahpodkoaa.pair3Drawn.d424 = true := by kernel_rfl
set_option maxRecDepth 100000 in
theorem r1000_d428 : run1000 Go.Proofs.Ythcdiaahpodkoaa.pair3Drawn.d428 = true := by kernel_rfl
set_option maxRecDepth 100000 in
theorem r1001_d428 : run1001 Go.Proofs.Ythcdiaahpodkoaa.pair3Drawn.d428 = true := by kernel_rfl
set_option maxRecDepth 100000 in
theorem r1000_d432 : run1000 Go.Proofs.Ythcdiaahpodkoaa.pair3Drawn.d432 = true := by kernel_rfl
set_option maxRecDepth 100000 in
theorem r1001_d432 : run1001 Go.Proofs.Ythcdiaahpodkoaa.pair3Drawn.d432 = true := by kernel_rfl
set_option maxRecDepth 100000 in
theorem r1000_d436 : run1000 Go.Proofs.Ythcdiaahpodkoaa.pair3Drawn.d436 = true := by kernel_rfl
set_option maxRecDepth 100000 in
theorem r1001_d436 : run1001 Go.Proofs.Ythcdiaahpodkoaa.pair3Drawn.d436 = true := by kernel_rfl
set_option maxRecDepth 100000 in
theorem r1000_d440 : run1000 Go.Proofs.Ythcdiaahpodkoaa.pair3Drawn.d440 = true := by kernel_rfl
set_option maxRecDepth 100000 in
theorem r1001_d440 : run1001 Go.Proofs.Ythcdiaahpodkoaa.pair3Drawn.d440 = true := by kernel_rfl
set_option maxRecDepth 100000 in
theorem r1000_d444 : run1000 Go.Proofs.Ythcdiaahpodkoaa.pair3Drawn.d444 = true := by kernel_rfl
set_option maxRecDepth 100000 in
theorem r1001_d444 : run1001 Go.Proofs.Ythcdiaahpodkoaa.pair3Drawn.d444 = true := by kernel_rfl
set_option maxRecDepth 100000 in
theorem r1000_d448 : run1000 Go.Proofs.Ythcdiaahpodkoaa.pair3Drawn.d448 = true := by kernel_rfl
set_option maxRecDepth 100000 in
theorem r1001_d448 : run1001 Go.Proofs.Ythcdiaahpodkoaa.pair3Drawn.d448 = true := by kernel_rfl
set_option maxRecDepth 100000 in
theorem r1000_d452 : run1000 Go.Proofs.Ythcdiaahpodkoaa.pair3Drawn.d452 = true := by kernel_rfl
set_option maxRecDepth 100000 in
theorem r1001_d452 : run1001 Go.Proofs.Ythcdiaahpodkoaa.pair3Drawn.d452 = true := by kernel_rfl
set_option maxRecDepth 100000 in
theorem r1000_d456 : run1000 Go.Proofs.Ythcdiaahpodkoaa.pair3Drawn.d456 = true := by kernel_rfl
set_option maxRecDepth 100000 in
theorem r1001_d456 : run1001 Go.Proofs.Ythcdiaahpodkoaa.pair3Drawn.d456 = true := by kernel_rfl
set_option maxRecDepth 100000 in
theorem r1000_d460 : run1000 Go.Proofs.Ythcdiaahpodkoaa.pair3Drawn.d460 = true := by kernel_rfl
set_option maxRecDepth 100000 in
theorem r1001_d460 : run1001 Go.Proofs.Ythcdiaahpodkoaa.pair3Drawn.d460 = true := by kernel_rfl
set_option maxRecDepth 100000 in
theorem r1000_d464 : run1000 Go.Proofs.Ythcdiaahpodkoaa.pair3Drawn.d464 = true := by kernel_rfl
set_option maxRecDepth 100000 in
theorem r1001_d464 : run1001 Go.Proofs.Ythcdiaahpodkoaa.pair3Drawn.d464 = true := by kernel_rfl
set_option maxRecDepth 100000 in
theorem r1000_d468 : run1000 Go.Proofs.Ythcdiaahpodkoaa.pair3Drawn.d468 = true := by kernel_rfl
set_option maxRecDepth 100000 in
theorem r1001_d468 : run1001 Go.Proofs.Ythcdiaahpodkoaa.pair3Drawn.d468 = true := by kernel_rfl
set_option maxRecDepth 100000 in
theorem r1000_d472 : run1000 Go.Proofs.Ythcdiaahpodkoaa.pair3Drawn.d472 = true := by kernel_rfl
set_option maxRecDepth 100000 in
theorem r1001_d472 : run1001 Go.Proofs.Ythcdiaahpodkoaa.pair3Drawn.d472 = true := by kernel_rfl
set_option maxRecDepth 100000 in
theorem r1000_d476 : run1000 Go.Proofs.Ythcdiaahpodkoaa.pair3Drawn.d476 = true := by kernel_rfl
set_option maxRecDepth 100000 in
theorem r1001_d476 : run1001 Go.Proofs.Ythcdiaahpodkoaa.pair3Drawn.d476 = true := by kernel_rfl
set_option maxRecDepth 100000 in
theorem r1000_d480 : run1000 Go.Proofs.Ythcdiaahpodkoaa.pair3Drawn.d480 = true := by kernel_rfl
set_option maxRecDepth 100000 in
theorem r1001_d480 : run1001 Go.Proofs.Ythcdiaahpodkoaa.pair3Drawn.d480 = true := by kernel_rfl
set_option maxRecDepth 100000 in
theorem r1000_d484 : run1000 Go.Proofs.Ythcdiaahpodkoaa.pair3Drawn.d484 = true := by kernel_rfl
set_option maxRecDepth 100000 in
theorem r1001_d484 : run1001 Go.Proofs.Ythcdiaahpodkoaa.pair3Drawn.d484 = true := by kernel_rfl
set_option maxRecDepth 100000 in
theorem r1000_d488 : run1000 Go.Proofs.Ythcdiaahpodkoaa.pair3Drawn.d488 = true := by kernel_rfl
set_option maxRecDepth 100000 in
theorem r1001_d488 : run1001 Go.Proofs.Ythcdiaahpodkoaa.pair3Drawn.d488 = true := by kernel_rfl
set_option maxRecDepth 100000 in
theorem r1000_d492 : run1000 Go.Proofs.Ythcdiaahpodkoaa.pair3Drawn.d492 = true := by kernel_rfl
set_option maxRecDepth 100000 in
theorem r1001_d492 : run1001 Go.Proofs.Ythcdiaahpodkoaa.pair3Drawn.d492 = true := by kernel_rfl
set_option maxRecDepth 100000 in
theorem r1000_d496 : run1000 Go.Proofs.Ythcdiaahpodkoaa.pair3Drawn.d496 = true := by kernel_rfl
set_option maxRecDepth 100000 in
theorem r1001_d496 : run1001 Go.Proofs.Ythcdiaahpodkoaa.pair3Drawn.d496 = true := by kernel_rfl
set_option maxRecDepth 100000 in
theorem r1000_d500 : run1000 Go.Proofs.Ythcdiaahpodkoaa.pair3Drawn.d500 = true := by kernel_rfl
set_option maxRecDepth 100000 in
theorem r1001_d500 : run1001 Go.Proofs.Ythcdiaahpodkoaa.pair3Drawn.d500 = true := by kernel_rfl
set_option maxRecDepth 100000 in
theorem r1000_d504 : run1000 Go.Proofs.Ythcdiaahpodkoaa.pair3Drawn.d504 = true := by kernel_rfl
set_option maxRecDepth 100000 in
theorem r1001_d504 : run1001 Go.Proofs.Ythcdiaahpodkoaa.pair3Drawn.d504 = true := by kernel_rfl
set_option maxRecDepth 100000 in
theorem r1000_d508 : run1000 Go.Proofs.Ythcdiaahpodkoaa.pair3Drawn.d508 = true := by kernel_rfl
set_option maxRecDepth 100000 in
theorem r1001_d508 : run1001 Go.Proofs.Ythcdiaahpodkoaa.pair3Drawn.d508 = true := by kernel_rfl
set_option maxRecDepth 100000 in
theorem r1000_d512 : run1000 Go.Proofs.Ythcdiaahpodkoaa.pair3Drawn.d512 = true := by kernel_rfl
set_option maxRecDepth 100000 in
theorem r1001_d512 : run1001 Go.Proofs.Ythcdiaahpodkoaa.pair3Drawn.d512 = true := by kernel_rfl
set_option maxRecDepth 100000 in
theorem r1000_d516 : run1000 Go.Proofs.Ythcdiaahpodkoaa.pair3Drawn.d516 = true := by kernel_rfl
set_option maxRecDepth 100000 in
theorem r1001_d516 : run1001 Go.Proofs.Ythcdiaahpodkoaa.pair3Drawn.d516 = true := by kernel_rfl
set_option maxRecDepth 100000 in
theorem r1000_d520 : run1000 Go.Proofs.Ythcdiaahpodkoaa.pair3Drawn.d520 = true := by kernel_rfl
set_option maxRecDepth 100000 in
theorem r1001_d520 : run1001 Go.Proofs.Ythcdiaahpodkoaa.pair3Drawn.d520 = true := by kernel_rfl
set_option maxRecDepth 100000 in
theorem r1000_d524 : run1000 Go.Proofs.Ythcdiaahpodkoaa.pair3Drawn.d524 = true := by kernel_rfl
set_option maxRecDepth 100000 in
theorem r1001_d524 : run1001 Go.Proofs.Ythcdiaahpodkoaa.pair3Drawn.d524 = true := by kernel_rfl
set_option maxRecDepth 100000 in
theorem r1000_d528 : run1000 Go.Proofs.Ythcdiaahpodkoaa.pair3Drawn.d528 = true := by kernel_rfl
set_option maxRecDepth 100000 in
theorem r1001_d528 : run1001 Go.Proofs.Ythcdiaahpodkoaa.pair3Drawn.d528 = true := by kernel_rfl
set_option maxRecDepth 100000 in
theorem r1000_d532 : run1000 Go.Proofs.Ythcdiaahpodkoaa.pair3Drawn.d532 = true := by kernel_rfl
set_option maxRecDepth 100000 in
theorem r1001_d532 : run1001 Go.Proofs.Ythcdiaahpodkoaa.pair3Drawn.d532 = true := by kernel_rfl
set_option maxRecDepth 100000 in
theorem r1000_d536 : run1000 Go.Proofs.Ythcdiaahpodkoaa.pair3Drawn.d536 = true := by kernel_rfl
set_option maxRecDepth 100000 in
theorem r1001_d536 : run1001 Go.Proofs.Ythcdiaahpodkoaa.pair3Drawn.d536 = true := by kernel_rfl
set_option maxRecDepth 100000 in
theorem r1000_d540 : run1000 Go.Proofs.Ythcdiaahpodkoaa.pair3Drawn.d540 = true := by kernel_rfl
set_option maxRecDepth 100000 in
theorem r1001_d540 : run1001 Go.Proofs.Ythcdiaahpodkoaa.pair3Drawn.d540 = true := by kernel_rfl
set_option maxRecDepth 100000 in
theorem r1000_d544 : run1000 Go.Proofs.Ythcdiaahpodkoaa.pair3Drawn.d544 = true := by kernel_rfl
set_option maxRecDepth 100000 in
theorem r1001_d544 : run1001 Go.Proofs.Ythcdiaahpodkoaa.pair3Drawn.d544 = true := by kernel_rfl
set_option maxRecDepth 100000 in
theorem r1000_d548 : run1000 Go.Proofs.Ythcdiaahpodkoaa.pair3Drawn.d548 = true := by kernel_rfl
set_option maxRecDepth 100000 in
theorem r1001_d548 : run1001 Go.Proofs.Ythcdiaahpodkoaa.pair3Drawn.d548 = true := by kernel_rfl
set_option maxRecDepth 100000 in
theorem r1000_d552 : run1000 Go.Proofs.Ythcdiaahpodkoaa.pair3Drawn.d552 = true := by kernel_rfl
set_option maxRecDepth 100000 in
theorem r1001_d552 : run1001 Go.Proofs.Ythcdiaahpodkoaa.pair3Drawn.d552 = true := by kernel_rfl
set_option maxRecDepth 100000 in
theorem r1000_d556 : run1000 Go.Proofs.Ythcdiaahpodkoaa.pair3Drawn.d556 = true := by kernel_rfl
set_option maxRecDepth 100000 in
theorem r1001_d556 : run1001 Go.Proofs.Ythcdiaahpodkoaa.pair3Drawn.d556 = true := by kernel_rfl
set_option maxRecDepth 100000 in
theorem r1000_d560 : run1000 Go.Proofs.Ythcdiaahpodkoaa.pair3Drawn.d560 = true := by kernel_rfl
set_option maxRecDepth 100000 in
theorem r1001_d560 : run1001 Go.Proofs.Ythcdiaahpodkoaa.pair3Drawn.d560 = true := by kernel_rfl
set_option maxRecDepth 100000 in
theorem r1000_d564 : run1000 Go.Proofs.Ythcdiaahpodkoaa.pair3Drawn.d564 = true := by kernel_rfl
set_option maxRecDepth 100000 in
theorem r1001_d564 : run1001 Go.Proofs.Ythcdiaahpodkoaa.pair3Drawn.d564 = true := by kernel_rfl
set_option maxRecDepth 100000 in
theorem r1000_d568 : run1000 Go.Proofs.Ythcdiaahpodkoaa.pair3Drawn.d568 = true := by kernel_rfl
set_option maxRecDepth 100000 in
theorem r1001_d568 : run1001 Go.Proofs.Ythcdiaahpodkoaa.pair3Drawn.d568 = true := by kernel_rfl
set_option maxRecDepth 100000 in
theorem r1000_d572 : run1000 Go.Proofs.Ythcdiaahpodkoaa.pair3Drawn.d572 = true := by kernel_rfl
set_option maxRecDepth 100000 in
theorem r1001_d572 : run1001 Go.Proofs.Ythcdiaahpodkoaa.pair3Drawn.d572 = true := by kernel_rfl
set_option maxRecDepth 100000 in
theorem r1000_d576 : run1000 Go.Proofs.Ythcdiaahpodkoaa.pair3Drawn.d576 = true := by kernel_rfl
set_option maxRecDepth 100000 in
theorem r1001_d576 : run1001 Go.Proofs.Ythcdiaahpodkoaa.pair3Drawn.d576 = true := by kernel_rfl
set_option maxRecDepth 100000 in
theorem r1000_d580 : run1000 Go.Proofs.Ythcdiaahpodkoaa.pair3Drawn.d580 = true := by kernel_rfl
set_option maxRecDepth 100000 in
theorem r1001_d580 : run1001 Go.Proofs.Ythcdiaahpodkoaa.pair3Drawn.d580 = true := by kernel_rfl
set_option maxRecDepth 100000 in
theorem r1000_d584 : run1000 Go.Proofs.Ythcdiaahpodkoaa.pair3Drawn.d584 = true := by kernel_rfl
set_option maxRecDepth 100000 in
theorem r1001_d584 : run1001 Go.Proofs.Ythcdiaahpodkoaa.pair3Drawn.d584 = true := by kernel_rfl
set_option maxRecDepth 100000 in
theorem r1000_d588 : run1000 Go.Proofs.Ythcdiaahpodkoaa.pair3Drawn.d588 = true := by kernel_rfl
set_option maxRecDepth 100000 in
theorem r1001_d588 : run1001 Go.Proofs.Ythcdiaahpodkoaa.pair3Drawn.d588 = true := by kernel_rfl
set_option maxRecDepth 100000 in
theorem r1000_d592 : run1000 Go.Proofs.Ythcdiaahpodkoaa.pair3Drawn.d592 = true := by kernel_rfl
set_option maxRecDepth 100000 in
theorem r1001_d592 : run1001 Go.Proofs.Ythcdiaahpodkoaa.pair3Drawn.d592 = true := by kernel_rfl
set_option maxRecDepth 100000 in
theorem r1000_d596 : run1000 Go.Proofs.Ythcdiaahpodkoaa.pair3Drawn.d596 = true := by kernel_rfl
set_option maxRecDepth 100000 in
theorem r1001_d596 : run1001 Go.Proofs.Ythcdiaahpodkoaa.pair3Drawn.d596 = true := by kernel_rfl
set_option maxRecDepth 100000 in
theorem r1000_d600 : run1000 Go.Proofs.Ythcdiaahpodkoaa.pair3Drawn.d600 = true := by kernel_rfl
set_option maxRecDepth 100000 in
theorem r1001_d600 : run1001 Go.Proofs.Ythcdiaahpodkoaa.pair3Drawn.d600 = true := by kernel_rfl
set_option maxRecDepth 100000 in
theorem r1000_d604 : run1000 Go.Proofs.Ythcdiaahpodkoaa.pair3Drawn.d604 = true := by kernel_rfl
set_option maxRecDepth 100000 in
theorem r1001_d604 : run1001 Go.Proofs.Ythcdiaahpodkoaa.pair3Drawn.d604 = true := by kernel_rfl
set_option maxRecDepth 100000 in
theorem r1000_d608 : run1000 Go.Proofs.Ythcdiaahpodkoaa.pair3Drawn.d608 = true := by kernel_rfl
set_option maxRecDepth 100000 in
theorem r1001_d608 : run1001 Go.Proofs.Ythcdiaahpodkoaa.pair3Drawn.d608 = true := by kernel_rfl
set_option maxRecDepth 100000 in
theorem r1000_d612 : run1000 Go.Proofs.Ythcdiaahpodkoaa.pair3Drawn.d612 = true := by kernel_rfl
set_option maxRecDepth 100000 in
theorem r1001_d612 : run1001 Go.Proofs.Ythcdiaahpodkoaa.pair3Drawn.d612 = true := by kernel_rfl
set_option maxRecDepth 100000 in
theorem r1000_d616 : run1000 Go.Proofs.Ythcdiaahpodkoaa.pair3Drawn.d616 = true := by kernel_rfl
set_option maxRecDepth 100000 in
theorem r1001_d616 : run1001 Go.Proofs.Ythcdiaahpodkoaa.pair3Drawn.d616 = true := by kernel_rfl
set_option maxRecDepth 100000 in
theorem r1000_d620 : run1000 Go.Proofs.Ythcdiaahpodkoaa.pair3Drawn.d620 = true := by kernel_rfl
set_option maxRecDepth 100000 in
theorem r1001_d620 : run1001 Go.Proofs.Ythcdiaahpodkoaa.pair3Drawn.d620 = true := by kernel_rfl
set_option maxRecDepth 100000 in
theorem r1000_d624 : run1000 Go.Proofs.Ythcdiaahpodkoaa.pair3Drawn.d624 = true := by kernel_rfl
set_option maxRecDepth 100000 in
theorem r1001_d624 : run1001 Go.Proofs.Ythcdiaahpodkoaa.pair3Drawn.d624 = true := by kernel_rfl
set_option maxRecDepth 100000 in
theorem r1000_d628 : run1000 Go.Proofs.Ythcdiaahpodkoaa.pair3Drawn.d628 = true := by kernel_rfl
set_option maxRecDepth 100000 in
theorem r1001_d628 : run1001 Go.Proofs.Ythcdiaahpodkoaa.pair3Drawn.d628 = true := by kernel_rfl
set_option maxRecDepth 100000 in
theorem r1000_d632 : run1000 Go.Proofs.Ythcdiaahpodkoaa.pair3Drawn.d632 = true := by kernel_rfl
set_option maxRecDepth 100000 in
theorem r1001_d632 : run1001 Go.Proofs.Ythcdiaahpodkoaa.pair3Drawn.d632 = true := by kernel_rfl
set_option maxRecDepth 100000 in
theorem r1000_d636 : run1000 Go.Proofs.Ythcdiaahpodkoaa.pair3Drawn.d636 = true := by kernel_rfl
set_option maxRecDepth 100000 in
theorem r1001_d636 : run1001 Go.Proofs.Ythcdiaahpodkoaa.pair3Drawn.d636 = true := by kernel_rfl
set_option maxRecDepth 100000 in
theorem r1000_d640 : run1000 Go.Proofs.Ythcdiaahpodkoaa.pair3Drawn.d640 = true := by kernel_rfl
set_option maxRecDepth 100000 in
theorem r1001_d640 : run1001 Go.Proofs.Ythcdiaahpodkoaa.pair3Drawn.d640 = true := by kernel_rfl
set_option maxRecDepth 100000 in
theorem r1000_d644 : run1000 Go.Proofs.Ythcdiaahpodkoaa.pair3Drawn.d644 = true := by kernel_rfl
set_option maxRecDepth 100000 in
theorem r1001_d644 : run1001 Go.Proofs.Ythcdiaahpodkoaa.pair3Drawn.d644 = true := by kernel_rfl
set_option maxRecDepth 100000 in
theorem r1000_d648 : run1000 Go.Proofs.Ythcdiaahpodkoaa.pair3Drawn.d648 = true := by kernel_rfl
set_option maxRecDepth 100000 in
theorem r1001_d648 : run1001 Go.Proofs.Ythcdiaahpodkoaa.pair3Drawn.d648 = true := by kernel_rfl
set_option maxRecDepth 100000 in
theorem r1000_d652 : run1000 Go.Proofs.Ythcdiaahpodkoaa.pair3Drawn.d652 = true := by kernel_rfl
set_option maxRecDepth 100000 in
theorem r1001_d652 : run1001 Go.Proofs.Ythcdiaahpodkoaa.pair3Drawn.d652 = true := by kernel_rfl
set_option maxRecDepth 100000 in
theorem r1000_d656 : run1000 Go.Proofs.Ythcdiaahpodkoaa.pair3Drawn.d656 = true := by kernel_rfl
set_option maxRecDepth 100000 in
theorem r1001_d656 : run1001 Go.Proofs.Ythcdiaahpodkoaa.pair3Drawn.d656 = true := by kernel_rfl
set_option maxRecDepth 100000 in
theorem r1000_d660 : run1000 Go.Proofs.Ythcdiaahpodkoaa.pair3Drawn.d660 = true := by kernel_rfl
set_option maxRecDepth 100000 in
theorem r1001_d660 : run1001 Go.Proofs.Ythcdiaahpodkoaa.pair3Drawn.d660 = true := by kernel_rfl
set_option maxRecDepth 100000 in
theorem r1000_d664 : run1000 Go.Proofs.Ythcdiaahpodkoaa.pair3Drawn.d664 = true := by kernel_rfl
set_option maxRecDepth 100000 in
theorem r1001_d664 : run1001 Go.Proofs.Ythcdiaahpodkoaa.pair3Drawn.d664 = true := by kernel_rfl
set_option maxRecDepth 100000 in
theorem r1000_d668 : run1000 Go.Proofs.Ythcdiaahpodkoaa.pair3Drawn.d668 = true := by kernel_rfl
set_option maxRecDepth 100000 in
theorem r1001_d668 : run1001 Go.Proofs.Ythcdiaahpodkoaa.pair3Drawn.d668 = true := by kernel_rfl
set_option maxRecDepth 100000 in
theorem r1000_d672 : run1000 Go.Proofs.Ythcdiaahpodkoaa.pair3Drawn.d672 = true := by kernel_rfl
set_option maxRecDepth 100000 in
theorem r1001_d672 : run1001 Go.Proofs.Ythcdiaahpodkoaa.pair3Drawn.d672 = true := by kernel_rfl
set_option maxRecDepth 100000 in
theorem r1000_d676 : run1000 Go.Proofs.Ythcdiaahpodkoaa.pair3Drawn.d676 = true := by kernel_rfl
set_option maxRecDepth 100000 in
theorem r1001_d676 : run1001 Go.Proofs.Ythcdiaahpodkoaa.pair3Drawn.d676 = true := by kernel_rfl
set_option maxRecDepth 100000 in
theorem r1000_d680 : run1000 Go.Proofs.Ythcdiaahpodkoaa.pair3Drawn.d680 = true := by kernel_rfl
set_option maxRecDepth 100000 in
theorem r1001_d680 : run1001 Go.Proofs.Ythcdiaahpodkoaa.pair3Drawn.d680 = true := by kernel_rfl
set_option maxRecDepth 100000 in
theorem r1000_d684 : run1000 Go.Proofs.Ythcdiaahpodkoaa.pair3Drawn.d684 = true := by kernel_rfl
set_option maxRecDepth 100000 in
theorem r1001_d684 : run1001 Go.Proofs.Ythcdiaahpodkoaa.pair3Drawn.d684 = true := by kernel_rfl
set_option maxRecDepth 100000 in
theorem r1000_d688 : run1000 Go.Proofs.Ythcdiaahpodkoaa.pair3Drawn.d688 = true := by kernel_rfl
set_option maxRecDepth 100000 in
theorem r1001_d688 : run1001 Go.Proofs.Ythcdiaahpodkoaa.pair3Drawn.d688 = true := by kernel_rfl
set_option maxRecDepth 100000 in
theorem r1000_d692 : run1000 Go.Proofs.Ythcdiaahpodkoaa.pair3Drawn.d692 = true := by kernel_rfl
set_option maxRecDepth 100000 in
theorem r1001_d692 : run1001 Go.Proofs.Ythcdiaahpodkoaa.pair3Drawn.d692 = true := by kernel_rfl
set_option maxRecDepth 100000 in
theorem r1000_d696 : run1000 Go.Proofs.Ythcdiaahpodkoaa.pair3Drawn.d696 = true := by kernel_rfl
set_option maxRecDepth 100000 in
theorem r1001_d696 : run1001 Go.Proofs.Ythcdiaahpodkoaa.pair3Drawn.d696 = true := by kernel_rfl
set_option maxRecDepth 100000 in
theorem r1000_d700 : run1000 Go.Proofs.Ythcdiaahpodkoaa.pair3Drawn.d700 = true := by kernel_rfl
set_option maxRecDepth 100000 in
theorem r1001_d700 : run1001 Go.Proofs.Ythcdiaahpodkoaa.pair3Drawn.d700 = true := by kernel_rfl
set_option maxRecDepth 100000 in
theorem r1000_d704 : run1000 Go.Proofs.Ythcdiaahpodkoaa.pair3Drawn.d704 = true := by kernel_rfl
set_option maxRecDepth 100000 in
theorem r1001_d704 : run1001 Go.Proofs.Ythcdiaahpodkoaa.pair3Drawn.d704 = true := by kernel_rfl
set_option maxRecDepth 100000 in
theorem r1000_d708 : run1000 Go.Proofs.Ythcdiaahpodkoaa.pair3Drawn.d708 = true := by kernel_rfl
set_option maxRecDepth 100000 in
theorem r1001_d708 : run1001 Go.Proofs.Ythcdiaahpodkoaa.pair3Drawn.d708 = true := by kernel_rfl
set_option maxRecDepth 100000 in
theorem r1000_d712 : run1000 Go.Proofs.Ythcdiaahpodkoaa.pair3Drawn.d712 = true := by kernel_rfl
set_option maxRecDepth 100000 in
theorem r1001_d712 : run1001 Go.Proofs.Ythcdiaahpodkoaa.pair3Drawn.d712 = true := by kernel_rfl
set_option maxRecDepth 100000 in
theorem r1000_d716 : run1000 Go.Proofs.Ythcdiaahpodkoaa.pair3Drawn.d716 = true := by kernel_rfl
set_option maxRecDepth 100000 in
theorem r1001_d716 : run1001 Go.Proofs.Ythcdiaahpodkoaa.pair3Drawn.d716 = true := by kernel_rfl
set_option maxRecDepth 100000 in
theorem r1000_d720 : run1000 Go.Proofs.Ythcdiaahpodkoaa.pair3Drawn.d720 = true := by kernel_rfl
set_option maxRecDepth 100000 in
theorem r1001_d720 : run1001 Go.Proofs.Ythcdiaahpodkoaa.pair3Drawn.d720 = true := by kernel_rfl
set_option maxRecDepth 100000 in
theorem r1000_d724 : run1000 Go.Proofs.Ythcdiaahpodkoaa.pair3Drawn.d724 = true := by kernel_rfl
set_option maxRecDepth 100000 in
theorem r1001_d724 : run1001 Go.Proofs.Ythcdiaahpodkoaa.pair3Drawn.d724 = true := by kernel_rfl
set_option maxRecDepth 100000 in
theorem r1000_d728 : run1000 Go.Proofs.Ythcdiaahpodkoaa.pair3Drawn.d728 = true := by kernel_rfl
set_option maxRecDepth 100000 in
theorem r1001_d728 : run1001 Go.Proofs.Ythcdiaahpodkoaa.pair3Drawn.d728 = true := by kernel_rfl
set_option maxRecDepth 100000 in
theorem r1000_d732 : run1000 Go.Proofs.Ythcdiaahpodkoaa.pair3Drawn.d732 = true := by kernel_rfl
set_option maxRecDepth 100000 in
theorem r1001_d732 : run1001 Go.Proofs.Ythcdiaahpodkoaa.pair3Drawn.d732 = true := by kernel_rfl
set_option maxRecDepth 100000 in
theorem r1000_d736 : run1000 Go.Proofs.Ythcdiaahpodkoaa.pair3Drawn.d736 = true := by kernel_rfl
set_option maxRecDepth 100000 in
theorem r1001_d736 : run1001 Go.Proofs.Ythcdiaahpodkoaa.pair3Drawn.d736 = true := by kernel_rfl
set_option maxRecDepth 100000 in
theorem r1000_d740 : run1000 Go.Proofs.Ythcdiaahpodkoaa.pair3Drawn.d740 = true := by kernel_rfl
set_option maxRecDepth 100000 in
theorem r1001_d740 : run1001 Go.Proofs.Ythcdiaahpodkoaa.pair3Drawn.d740 = true := by kernel_rfl
set_option maxRecDepth 100000 in
theorem r1000_d744 : run1000 Go.Proofs.Ythcdiaahpodkoaa.pair3Drawn.d744 = true := by kernel_rfl
set_option maxRecDepth 100000 in
theorem r1001_d744 : run1001 Go.Proofs.Ythcdiaahpodkoaa.pair3Drawn.d744 = true := by kernel_rfl
set_option maxRecDepth 100000 in
theorem r1000_d748 : run1000 Go.Proofs.Ythcdiaahpodkoaa.pair3Drawn.d748 = true := by kernel_rfl
set_option maxRecDepth 100000 in
theorem r1001_d748 : run1001 Go.Proofs.Ythcdiaahpodkoaa.pair3Drawn.d748 = true := by kernel_rfl
set_option maxRecDepth 100000 in
theorem r1000_d752 : run1000 Go.Proofs.Ythcdiaahpodkoaa.pair3Drawn.d752 = true := by kernel_rfl
set_option maxRecDepth 100000 in
theorem r1001_d752 : run1001 Go.Proofs.Ythcdiaahpodkoaa.pair3Drawn.d752 = true := by kernel_rfl
set_option maxRecDepth 100000 in
theorem r1000_d756 : run1000 Go.Proofs.Ythcdiaahpodkoaa.pair3Drawn.d756 = true := by kernel_rfl
set_option maxRecDepth 100000 in
theorem r1001_d756 : run1001 Go.Proofs.Ythcdiaahpodkoaa.pair3Drawn.d756 = true := by kernel_rfl
set_option maxRecDepth 100000 in
theorem r1000_d760 : run1000 Go.Proofs.Ythcdiaahpodkoaa.pair3Drawn.d760 = true := by kernel_rfl
set_option maxRecDepth 100000 in
theorem r1001_d760 : run1001 Go.Proofs.Ythcdiaahpodkoaa.pair3Drawn.d760 = true := by kernel_rfl
set_option maxRecDepth 100000 in
theorem r1000_d764 : run1000 Go.Proofs.Ythcdiaahpodkoaa.pair3Drawn.d764 = true := by kernel_rfl
set_option maxRecDepth 100000 in
theorem r1001_d764 : run1001 Go.Proofs.Ythcdiaahpodkoaa.pair3Drawn.d764 = true := by kernel_rfl
set_option maxRecDepth 100000 in
theorem r1000_d768 : run1000 Go.Proofs.Ythcdiaahpodkoaa.pair3Drawn.d768 = true := by kernel_rfl
set_option maxRecDepth 100000 in
theorem r1001_d768 : run1001 Go.Proofs.Ythcdiaahpodkoaa.pair3Drawn.d768 = true := by kernel_rfl
set_option maxRecDepth 100000 in
theorem r1000_d772 : run1000 Go.Proofs.Ythcdiaahpodkoaa.pair3Drawn.d772 = true := by kernel_rfl
set_option maxRecDepth 100000 in
theorem r1001_d772 : run1001 Go.Proofs.Ythcdiaahpodkoaa.pair3Drawn.d772 = true := by kernel_rfl
set_option maxRecDepth 100000 in
theorem r1000_d776 : run1000 Go.Proofs.Ythcdiaahpodkoaa.pair3Drawn.d776 = true := by kernel_rfl
set_option maxRecDepth 100000 in
theorem r1001_d776 : run1001 Go.Proofs.Ythcdiaahpodkoaa.pair3Drawn.d776 = true := by kernel_rfl
set_option maxRecDepth 100000 in
theorem r1000_d780 : run1000 Go.Proofs.Ythcdiaahpodkoaa.pair3Drawn.d780 = true := by kernel_rfl
set_option maxRecDepth 100000 in
theorem r1001_d780 : run1001 Go.Proofs.Ythcdiaahpodkoaa.pair3Drawn.d780 = true := by kernel_rfl
set_option maxRecDepth 100000 in
theorem r1000_d784 : run1000 Go.Proofs.Ythcdiaahpodkoaa.pair3Drawn.d784 = true := by kernel_rfl
set_option maxRecDepth 100000 in
theorem r1001_d784 : run1001 Go.Proofs.Ythcdiaahpodkoaa.pair3Drawn.d784 = true := by kernel_rfl
set_option maxRecDepth 100000 in
theorem r1000_d788 : run1000 Go.Proofs.Ythcdiaahpodkoaa.pair3Drawn.d788 = true := by kernel_rfl
set_option maxRecDepth 100000 in
theorem r1001_d788 : run1001 Go.Proofs.Ythcdiaahpodkoaa.pair3Drawn.d788 = true := by kernel_rfl
set_option maxRecDepth 100000 in
theorem r1000_d792 : run1000 Go.Proofs.Ythcdiaahpodkoaa.pair3Drawn.d792 = true := by kernel_rfl
set_option maxRecDepth 100000 in
theorem r1001_d792 : run1001 Go.Proofs.Ythcdiaahpodkoaa.pair3Drawn.d792 = true := by kernel_rfl
set_option maxRecDepth 100000 in
theorem r1000_d796 : run1000 Go.Proofs.Ythcdiaahpodkoaa.pair3Drawn.d796 = true := by kernel_rfl
set_option maxRecDepth 100000 in
theorem r1001_d796 : run1001 Go.Proofs.Ythcdiaahpodkoaa.pair3Drawn.d796 = true := by kernel_rfl
set_option maxRecDepth 100000 in
theorem r1000_d800 : run1000 Go.Proofs.Ythcdiaahpodkoaa.pair3Drawn.d800 = true := by kernel_rfl
set_option maxRecDepth 100000 in
theorem r1001_d800 : run1001 Go.Proofs.Ythcdiaahpodkoaa.pair3Drawn.d800 = true := by kernel_rfl
set_option maxRecDepth 100000 in
theorem r1000_d804 : run1000 Go.Proofs.Ythcdiaahpodkoaa.pair3Drawn.d804 = true := by kernel_rfl
set_option maxRecDepth 100000 in
theorem r1001_d804 : run1001 Go.Proofs.Ythcdiaahpodkoaa.pair3Drawn.d804 = true := by kernel_rfl
set_option maxRecDepth 100000 in
theorem r1000_d808 : run1000 Go.Proofs.Ythcdiaahpodkoaa.pair3Drawn.d808 = true := by kernel_rfl
set_option maxRecDepth 100000 in
theorem r1001_d808 : run1001 Go.Proofs.Ythcdiaahpodkoaa.pair3Drawn.d808 = true := by kernel_rfl
set_option maxRecDepth 100000 in
theorem r1000_d812 : run1000 Go.Proofs.Ythcdiaahpodkoaa.pair3Drawn.d812 = true := by kernel_rfl
set_option maxRecDepth 100000 in
theorem r1001_d812 : run1001 Go.Proofs.Ythcdiaahpodkoaa.pair3Drawn.d812 = true := by kernel_rfl
set_option maxRecDepth 100000 in
theorem r1000_d816 : run1000 Go.Proofs.Ythcdiaahpodkoaa.pair3Drawn.d816 = true := by kernel_rfl
set_option maxRecDepth 100000 in
theorem r1001_d816 : run1001 Go.Proofs.Ythcdiaahpodkoaa.pair3Drawn.d816 = true := by kernel_rfl
set_option maxRecDepth 100000 in
theorem r1000_d820 : run1000 Go.Proofs.Ythcdiaahpodkoaa.pair3Drawn.d820 = true := by kernel_rfl
set_option maxRecDepth 100000 in
theorem r1001_d820 : run1001 Go.Proofs.Ythcdiaahpodkoaa.pair3Drawn.d820 = true := by kernel_rfl
set_option maxRecDepth 100000 in
theorem r1000_d824 : run1000 Go.Proofs.Ythcdiaahpodkoaa.pair3Drawn.d824 = true := by kernel_rfl
set_option maxRecDepth 100000 in
theorem r1001_d824 : run1001 Go.Proofs.Ythcdiaahpodkoaa.pair3Drawn.d824 = true := by kernel_rfl
set_option maxRecDepth 100000 in
theorem r1000_d828 : run1000 Go.Proofs.Ythcdiaahpodkoaa.pair3Drawn.d828 = true := by kernel_rfl
set_option maxRecDepth 100000 in
theorem r1001_d828 : run1001 Go.Proofs.Ythcdiaahpodkoaa.pair3Drawn.d828 = true := by kernel_rfl
set_option maxRecDepth 100000 in
theorem r1000_d832 : run1000 Go.Proofs.Ythcdiaahpodkoaa.pair3Drawn.d832 = true := by kernel_rfl
set_option maxRecDepth 100000 in
theorem r1001_d832 : run1001 Go.Proofs.Ythcdiaahpodkoaa.pair3Drawn.d832 = true := by kernel_rfl
set_option maxRecDepth 100000 in
theorem r1000_d836 : run1000 Go.Proofs.Ythcdiaahpodkoaa.pair3Drawn.d836 = true := by kernel_rfl
set_option maxRecDepth 100000 in
theorem r1001_d836 : run1001 Go.Proofs.Ythcdiaahpodkoaa.pair3Drawn.d836 = true := by kernel_rfl
set_option maxRecDepth 100000 in
theorem r1000_d840 : run1000 Go.Proofs.Ythcdiaahpodkoaa.pair3Drawn.d840 = true := by kernel_rfl
set_option maxRecDepth 100000 in
theorem r1001_d840 : run1001 Go.Proofs.Ythcdiaahpodkoaa.pair3Drawn.d840 = true := by kernel_rfl
set_option maxRecDepth 100000 in
theorem r1000_d844 : run1000 Go.Proofs.Ythcdiaahpodkoaa.pair3Drawn.d844 = true := by kernel_rfl
set_option maxRecDepth 100000 in
theorem r1001_d844 : run1001 Go.Proofs.Ythcdiaahpodkoaa.pair3Drawn.d844 = true := by kernel_rfl
set_option maxRecDepth 100000 in
theorem r1000_d848 : run1000 Go.Proofs.Ythcdiaahpodkoaa.pair3Drawn.d848 = true := by kernel_rfl
set_option maxRecDepth 100000 in
theorem r1001_d848 : run1001 Go.Proofs.Ythcdiaahpodkoaa.pair3Drawn.d848 = true := by kernel_rfl
set_option maxRecDepth 100000 in
theorem r1000_d852 : run1000 Go.Proofs.Ythcdiaahpodkoaa.pair3Drawn.d852 = true := by kernel_rfl
set_option maxRecDepth 100000 in
theorem r1001_d852 : run1001 Go.Proofs.Ythcdiaahpodkoaa.pair3Drawn.d852 = true := by kernel_rfl
set_option maxRecDepth 100000 in
theorem r1000_d856 : run1000 Go.Proofs.Ythcdiaahpodkoaa.pair3Drawn.d856 = true := by kernel_rfl
set_option maxRecDepth 100000 in
theorem r1001_d856 : run1001 Go.Proofs.Ythcdiaahpodkoaa.pair3Drawn.d856 = true := by kernel_rfl
set_option maxRecDepth 100000 in
theorem r1000_d860 : run1000 Go.Proofs.Ythcdiaahpodkoaa.pair3Drawn.d860 = true := by kernel_rfl
set_option maxRecDepth 100000 in
theorem r1001_d860 : run1001 Go.Proofs.Ythcdiaahpodkoaa.pair3Drawn.d860 = true := by kernel_rfl
set_option maxRecDepth 100000 in
theorem r1000_d864 : run1000 Go.Proofs.Ythcdiaahpodkoaa.pair3Drawn.d864 = true := by kernel_rfl
set_option maxRecDepth 100000 in
theorem r1001_d864 : run1001 Go.Proofs.Ythcdiaahpodkoaa.pair3Drawn.d864 = true := by kernel_rfl
set_option maxRecDepth 100000 in
theorem r1000_d868 : run1000 Go.Proofs.Ythcdiaahpodkoaa.pair3Drawn.d868 = true := by kernel_rfl
set_option maxRecDepth 100000 in
theorem r1001_d868 : run1001 Go.Proofs.Ythcdiaahpodkoaa.pair3Drawn.d868 = true := by kernel_rfl
set_option maxRecDepth 100000 in
theorem r1000_d872 : run1000 Go.Proofs.Ythcdiaahpodkoaa.pair3Drawn.d872 = true := by kernel_rfl
set_option maxRecDepth 100000 in
theorem r1001_d872 : run1001 Go.Proofs.Ythcdiaahpodkoaa.pair3Drawn.d872 = true := by kernel_rfl
set_option maxRecDepth 100000 in
theorem r1000_d876 : run1000 Go.Proofs.Ythcdiaahpodkoaa.pair3Drawn.d876 = true := by kernel_rfl
set_option maxRecDepth 100000 in
theorem r1001_d876 : run1001 Go.Proofs.Ythcdiaahpodkoaa.pair3Drawn.d876 = true := by kernel_rfl
set_option maxRecDepth 100000 in
theorem r1000_d880 : run1000 Go.Proofs.Ythcdiaahpodkoaa.pair3Drawn.d880 = true := by kernel_rfl
set_option maxRecDepth 100000 in
theorem r1001_d880 : run1001 Go.Proofs.Ythcdiaahpodkoaa.pair3Drawn.d880 = true := by kernel_rfl
set_option maxRecDepth 100000 in
theorem r1000_d884 : run1000 Go.Proofs.Ythcdiaahpodkoaa.pair3Drawn.d884 = true := by kernel_rfl
set_option maxRecDepth 100000 in
theorem r1001_d884 : run1001 Go.Proofs.Ythcdiaahpodkoaa.pair3Drawn.d884 = true := by kernel_rfl
set_option maxRecDepth 100000 in
theorem r1000_d888 : run1000 Go.Proofs.Ythcdiaahpodkoaa.pair3Drawn.d888 = true := by kernel_rfl
set_option maxRecDepth 100000 in
theorem r1001_d888 : run1001 Go.Proofs.Ythcdiaahpodkoaa.pair3Drawn.d888 = true := by kernel_rfl
set_option maxRecDepth 100000 in
theorem r1000_d892 : run1000 Go.Proofs.Ythcdiaahpodkoaa.pair3Drawn.d892 = true := by kernel_rfl
set_option maxRecDepth 100000 in
theorem r1001_d892 : run1001 Go.Proofs.Ythcdiaahpodkoaa.pair3Drawn.d892 = true := by kernel_rfl
set_option maxRecDepth 100000 in
theorem r1000_d896 : run1000 Go.Proofs.Ythcdiaahpodkoaa.pair3Drawn.d896 = true := by kernel_rfl
set_option maxRecDepth 100000 in
theorem r1001_d896 : run1001 Go.Proofs.Ythcdiaahpodkoaa.pair3Drawn.d896 = true := by kernel_rfl
set_option maxRecDepth 100000 in
theorem r1000_d900 : run1000 Go.Proofs.Ythcdiaahpodkoaa.pair3Drawn.d900 = true := by kernel_rfl
set_option maxRecDepth 100000 in
theorem r1001_d900 : run1001 Go.Proofs.Ythcdiaahpodkoaa.pair3Drawn.d900 = true := by kernel_rfl
set_option maxRecDepth 100000 in
theorem r1000_d904 : run1000 Go.Proofs.Ythcdiaahpodkoaa.pair3Drawn.d904 = true := by kernel_rfl
set_option maxRecDepth 100000 in
theorem r1001_d904 : run1001 Go.Proofs.Ythcdiaahpodkoaa.pair3Drawn.d904 = true := by kernel_rfl
set_option maxRecDepth 100000 in
theorem r1000_d908 : run1000 Go.Proofs.Ythcdiaahpodkoaa.pair3Drawn.d908 = true := by kernel_rfl
set_option maxRecDepth 100000 in
theorem r1001_d908 : run1001 Go.Proofs.Ythcdiaahpodkoaa.pair3Drawn.d908 = true := by kernel_rfl
set_option maxRecDepth 100000 in
theorem r1000_d912 : run1000 Go.Proofs.Ythcdiaahpodkoaa.pair3Drawn.d912 = true := by kernel_rfl
set_option maxRecDepth 100000 in
theorem r1001_d912 : run1001 Go.Proofs.Ythcdiaahpodkoaa.pair3Drawn.d912 = true := by kernel_rfl
set_option maxRecDepth 100000 in
theorem r1000_d916 : run1000 Go.Proofs.Ythcdiaahpodkoaa.pair3Drawn.d916 = true := by kernel_rfl
set_option maxRecDepth 100000 in
theorem r1001_d916 : run1001 Go.Proofs.Ythcdiaahpodkoaa.pair3Drawn.d916 = true := by kernel_rfl
set_option maxRecDepth 100000 in
theorem r1000_d920 : run1000 Go.Proofs.Ythcdiaahpodkoaa.pair3Drawn.d920 = true := by kernel_rfl
set_option maxRecDepth 100000 in
theorem r1001_d920 : run1001 Go.Proofs.Ythcdiaahpodkoaa.pair3Drawn.d920 = true := by kernel_rfl
set_option maxRecDepth 100000 in
theorem r1000_d924 : run1000 Go.Proofs.Ythcdiaahpodkoaa.pair3Drawn.d924 = true := by kernel_rfl
set_option maxRecDepth 100000 in
theorem r1001_d924 : run1001 Go.Proofs.Ythcdiaahpodkoaa.pair3Drawn.d924 = true := by kernel_rfl
set_option maxRecDepth 100000 in
theorem r1000_d928 : run1000 Go.Proofs.Ythcdiaahpodkoaa.pair3Drawn.d928 = true := by kernel_rfl
set_option maxRecDepth 100000 in
theorem r1001_d928 : run1001 Go.Proofs.Ythcdiaahpodkoaa.pair3Drawn.d928 = true := by kernel_rfl
set_option maxRecDepth 100000 in
theorem r1000_d932 : run1000 Go.Proofs.Ythcdiaahpodkoaa.pair3Drawn.d932 = true := by kernel_rfl
set_option maxRecDepth 100000 in
theorem r1001_d932 : run1001 Go.Proofs.Ythcdiaahpodkoaa.pair3Drawn.d932 = true := by kernel_rfl
set_option maxRecDepth 100000 in
theorem r1000_d936 : run1000 Go.Proofs.Ythcdiaahpodkoaa.pair3Drawn.d936 = true := by kernel_rfl
set_option maxRecDepth 100000 in
theorem r1001_d936 : run1001 Go.Proofs.Ythcdiaahpodkoaa.pair3Drawn.d936 = true := by kernel_rfl
set_option maxRecDepth 100000 in
theorem r1000_d940 : run1000 Go.Proofs.Ythcdiaahpodkoaa.pair3Drawn.d940 = true := by kernel_rfl
set_option maxRecDepth 100000 in
theorem r1001_d940 : run1001 Go.Proofs.Ythcdiaahpodkoaa.pair3Drawn.d940 = true := by kernel_rfl
set_option maxRecDepth 100000 in
theorem r1000_d944 : run1000 Go.Proofs.Ythcdiaahpodkoaa.pair3Drawn.d944 = true := by kernel_rfl
set_option maxRecDepth 100000 in
theorem r1001_d944 : run1001 Go.Proofs.Ythcdiaahpodkoaa.pair3Drawn.d944 = true := by kernel_rfl
set_option maxRecDepth 100000 in
theorem r1000_d948 : run1000 Go.Proofs.Ythcdiaahpodkoaa.pair3Drawn.d948 = true := by kernel_rfl
set_option maxRecDepth 100000 in
theorem r1001_d948 : run1001 Go.Proofs.Ythcdiaahpodkoaa.pair3Drawn.d948 = true := by kernel_rfl
set_option maxRecDepth 100000 in
theorem r1000_d952 : run1000 Go.Proofs.Ythcdiaahpodkoaa.pair3Drawn.d952 = true := by kernel_rfl
set_option maxRecDepth 100000 in
theorem r1001_d952 : run1001 Go.Proofs.Ythcdiaahpodkoaa.pair3Drawn.d952 = true := by kernel_rfl
set_option maxRecDepth 100000 in
theorem r1000_d956 : run1000 Go.Proofs.Ythcdiaahpodkoaa.pair3Drawn.d956 = true := by kernel_rfl
set_option maxRecDepth 100000 in
theorem r1001_d956 : run1001 Go.Proofs.Ythcdiaahpodkoaa.pair3Drawn.d956 = true := by kernel_rfl
end Go.Proofs.Ythcdiaahpodkoaa.fnAboveRuns
