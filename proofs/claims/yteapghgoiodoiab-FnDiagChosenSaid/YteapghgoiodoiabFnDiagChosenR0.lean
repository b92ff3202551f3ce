/- Runs of the program at a seat. -/
import Derived.Test.YteapghgoiodoiabFnDiagChosenP
namespace Go.Proofs.Yteapghgoiodoiab.fnDiagChosenRuns
open Go Go.Eng
set_option linter.unusedVariables false
set_option linter.unusedSectionVars false
set_option linter.unusedSimpArgs false
set_option maxRecDepth 100000
open Go.Proofs.Yteapghgoiodoiab.atDrawn
theorem r_d0 : run d0 = true := by kernel_rfl
theorem r_d4 : run d4 = true := by kernel_rfl
theorem r_d8 : run d8 = true := by kernel_rfl
theorem r_d12 : run d12 = true := by kernel_rfl
theorem r_d16 : run d16 = true := by kernel_rfl
theorem r_d20 : run d20 = true := by kernel_rfl
theorem r_d24 : run d24 = true := by kernel_rfl
theorem r_d28 : run d28 = true := by kernel_rfl
theorem r_d32 : run d32 = true := by kernel_rfl
theorem r_d36 : run d36 = true := by kernel_rfl
theorem r_d40 : run d40 = true := by kernel_rfl
theorem r_d44 : run d44 = true := by kernel_rfl
theorem r_d48 : run d48 = true := by kernel_rfl
theorem r_d52 : run d52 = true := by kernel_rfl
theorem r_d56 : run d56 = true := by kernel_rfl
theorem r_d60 : run d60 = true := by kernel_rfl
theorem r_d64 : run d64 = true := by kernel_rfl
theorem r_d68 : run d68 = true := by kernel_rfl
theorem r_d72 : run d72 = true := by kernel_rfl
theorem r_d76 : run d76 = true := by kernel_rfl
theorem r_d80 : run d80 = true := by kernel_rfl
theorem r_d84 : run d84 = true := by kernel_rfl
theorem r_d88 : run d88 = true := by kernel_rfl
theorem r_d92 : run d92 = true := by kernel_rfl
theorem r_d96 : run d96 = true := by kernel_rfl
theorem r_d100 : run d100 = true := by kernel_rfl
theorem r_d104 : run d104 = true := by kernel_rfl
theorem r_d108 : run d108 = true := by kernel_rfl
theorem r_d112 : run d112 = true := by kernel_rfl
theorem r_d116 : run d116 = true := by kernel_rfl
theorem r_d120 : run d120 = true := by kernel_rfl
theorem r_d124 : run d124 = true := by kernel_rfl
theorem r_d128 : run d128 = true := by kernel_rfl
theorem r_d132 : run d132 = true := by kernel_rfl
theorem r_d136 : run d136 = true := by kernel_rfl
theorem r_d140 : run d140 = true := by kernel_rfl
theorem r_d144 : run d144 = true := by kernel_rfl
theorem r_d148 : run d148 = true := by kernel_rfl
theorem r_d152 : run d152 = true := by kernel_rfl
theorem r_d156 : run d156 = true := by kernel_rfl
theorem r_d160 : run d160 = true := by kernel_rfl
theorem r_d164 : run d164 = true := by kernel_rfl
theorem r_d168 : run d168 = true := by kernel_rfl
theorem r_d172 : run d172 = true := by kernel_rfl
theorem r_d176 : run d176 = true := by kernel_rfl
theorem r_d180 : run d180 = true := by kernel_rfl
theorem r_d184 : run d184 = true := by kernel_rfl
theorem r_d188 : run d188 = true := by kernel_rfl
theorem r_d192 : run d192 = true := by kernel_rfl
theorem r_d196 : run d196 = true := by kernel_rfl
theorem r_d200 : run d200 = true := by kernel_rfl
theorem r_d204 : run d204 = true := by kernel_rfl
theorem r_d208 : run d208 = true := by kernel_rfl
theorem r_d212 : run d212 = true := by kernel_rfl
theorem r_d216 : run d216 = true := by kernel_rfl
theorem r_d220 : run d220 = true := by kernel_rfl
theorem r_d224 : run d224 = true := by kernel_rfl
theorem r_d228 : run d228 = true := by kernel_rfl
theorem r_d232 : run d232 = true := by kernel_rfl
theorem r_d236 : run d236 = true := by kernel_rfl
theorem r_d240 : run d240 = true := by kernel_rfl
theorem r_d244 : run d244 = true := by kernel_rfl
theorem r_d248 : run d248 = true := by kernel_rfl
theorem r_d252 : run d252 = true := by kernel_rfl
theorem r_d256 : run d256 = true := by kernel_rfl
theorem r_d260 : run d260 = true := by kernel_rfl
theorem r_d264 : run d264 = true := by kernel_rfl
theorem r_d268 : run d268 = true := by kernel_rfl
theorem r_d272 : run d272 = true := by kernel_rfl
theorem r_d276 : run d276 = true := by kernel_rfl
theorem r_d280 : run d280 = true := by kernel_rfl
theorem r_d284 : run d284 = true := by kernel_rfl
theorem r_d288 : run d288 = true := by kernel_rfl
theorem r_d292 : run d292 = true := by kernel_rfl
theorem r_d296 : run d296 = true := by kernel_rfl
theorem r_d300 : run d300 = true := by kernel_rfl
theorem r_d304 : run d304 = true := by kernel_rfl
theorem r_d308 : run d308 = true := by kernel_rfl
theorem r_d312 : run d312 = true := by kernel_rfl
theorem r_d316 : run d316 = true := by kernel_rfl
theorem r_d320 : run d320 = true := by kernel_rfl
theorem r_d324 : run d324 = true := by kernel_rfl
theorem r_d328 : run d328 = true := by kernel_rfl
theorem r_d332 : run d332 = true := by kernel_rfl
theorem r_d336 : run d336 = true := by kernel_rfl
theorem r_d340 : run d340 = true := by kernel_rfl
theorem r_d344 : run d344 = true := by kernel_rfl
theorem r_d348 : run d348 = true := by kernel_rfl
end Go.Proofs.Yteapghgoiodoiab.fnDiagChosenRuns
