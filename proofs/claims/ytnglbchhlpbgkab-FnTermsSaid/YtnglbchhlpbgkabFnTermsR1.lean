/- Runs of the program at a seat. -/
import Derived.Test.YtnglbchhlpbgkabFnTermsP
namespace Go.Proofs.Ytnglbchhlpbgkab.fnTermsRuns
open Go Go.Eng
set_option linter.unusedVariables false
set_option linter.unusedSectionVars false
set_option linter.unusedSimpArgs false
set_option maxRecDepth 100000
open Go.Proofs.Ytnglbchhlpbgkab.waysDrawn
theorem r_d1 : run d1 = true := by kernel_rfl
theorem r_d4 : run d4 = true := by kernel_rfl
theorem r_d7 : run d7 = true := by kernel_rfl
theorem r_d10 : run d10 = true := by kernel_rfl
theorem r_d13 : run d13 = true := by kernel_rfl
theorem r_d16 : run d16 = true := by kernel_rfl
theorem r_d19 : run d19 = true := by kernel_rfl
theorem r_d22 : run d22 = true := by kernel_rfl
theorem r_d25 : run d25 = true := by kernel_rfl
theorem r_d28 : run d28 = true := by kernel_rfl
theorem r_d31 : run d31 = true := by kernel_rfl
theorem r_d34 : run d34 = true := by kernel_rfl
theorem r_d37 : run d37 = true := by kernel_rfl
theorem r_d40 : run d40 = true := by kernel_rfl
theorem r_d43 : run d43 = true := by kernel_rfl
theorem r_d46 : run d46 = true := by kernel_rfl
theorem r_d49 : run d49 = true := by kernel_rfl
theorem r_d52 : run d52 = true := by kernel_rfl
theorem r_d55 : run d55 = true := by kernel_rfl
theorem r_d58 : run d58 = true := by kernel_rfl
theorem r_d61 : run d61 = true := by kernel_rfl
theorem r_d64 : run d64 = true := by kernel_rfl
theorem r_d67 : run d67 = true := by kernel_rfl
theorem r_d70 : run d70 = true := by kernel_rfl
theorem r_d73 : run d73 = true := by kernel_rfl
theorem r_d76 : run d76 = true := by kernel_rfl
theorem r_d79 : run d79 = true := by kernel_rfl
theorem r_d82 : run d82 = true := by kernel_rfl
theorem r_d85 : run d85 = true := by kernel_rfl
theorem r_d88 : run d88 = true := by kernel_rfl
theorem r_d91 : run d91 = true := by kernel_rfl
theorem r_d94 : run d94 = true := by kernel_rfl
theorem r_d97 : run d97 = true := by kernel_rfl
theorem r_d100 : run d100 = true := by kernel_rfl
theorem r_d103 : run d103 = true := by kernel_rfl
theorem r_d106 : run d106 = true := by kernel_rfl
theorem r_d109 : run d109 = true := by kernel_rfl
theorem r_d112 : run d112 = true := by kernel_rfl
theorem r_d115 : run d115 = true := by kernel_rfl
theorem r_d118 : run d118 = true := by kernel_rfl
theorem r_d121 : run d121 = true := by kernel_rfl
theorem r_d124 : run d124 = true := by kernel_rfl
theorem r_d127 : run d127 = true := by kernel_rfl
theorem r_d130 : run d130 = true := by kernel_rfl
theorem r_d133 : run d133 = true := by kernel_rfl
theorem r_d136 : run d136 = true := by kernel_rfl
theorem r_d139 : run d139 = true := by kernel_rfl
theorem r_d142 : run d142 = true := by kernel_rfl
theorem r_d145 : run d145 = true := by kernel_rfl
theorem r_d148 : run d148 = true := by kernel_rfl
theorem r_d151 : run d151 = true := by kernel_rfl
theorem r_d154 : run d154 = true := by kernel_rfl
theorem r_d157 : run d157 = true := by kernel_rfl
theorem r_d160 : run d160 = true := by kernel_rfl
theorem r_d163 : run d163 = true := by kernel_rfl
theorem r_d166 : run d166 = true := by kernel_rfl
theorem r_d169 : run d169 = true := by kernel_rfl
theorem r_d172 : run d172 = true := by kernel_rfl
theorem r_d175 : run d175 = true := by kernel_rfl
theorem r_d178 : run d178 = true := by kernel_rfl
theorem r_d181 : run d181 = true := by kernel_rfl
theorem r_d184 : run d184 = true := by kernel_rfl
theorem r_d187 : run d187 = true := by kernel_rfl
theorem r_d190 : run d190 = true := by kernel_rfl
theorem r_d193 : run d193 = true := by kernel_rfl
theorem r_d196 : run d196 = true := by kernel_rfl
theorem r_d199 : run d199 = true := by kernel_rfl
theorem r_d202 : run d202 = true := by kernel_rfl
theorem r_d205 : run d205 = true := by kernel_rfl
theorem r_d208 : run d208 = true := by kernel_rfl
theorem r_d211 : run d211 = true := by kernel_rfl
theorem r_d214 : run d214 = true := by kernel_rfl
theorem r_d217 : run d217 = true := by kernel_rfl
theorem r_d220 : run d220 = true := by kernel_rfl
theorem r_d223 : run d223 = true := by kernel_rfl
theorem r_d226 : run d226 = true := by kernel_rfl
theorem r_d229 : run d229 = true := by kernel_rfl
theorem r_d232 : run d232 = true := by kernel_rfl
theorem r_d235 : run d235 = true := by kernel_rfl
theorem r_d238 : run d238 = true := by kernel_rfl
theorem r_d241 : run d241 = true := by kernel_rfl
theorem r_d244 : run d244 = true := by kernel_rfl
theorem r_d247 : run d247 = true := by kernel_rfl
theorem r_d250 : run d250 = true := by kernel_rfl
theorem r_d253 : run d253 = true := by kernel_rfl
end Go.Proofs.Ytnglbchhlpbgkab.fnTermsRuns
