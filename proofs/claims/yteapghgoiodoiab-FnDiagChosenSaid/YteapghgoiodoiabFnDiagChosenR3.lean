/- Runs of the program at a seat. -/
import Derived.Test.YteapghgoiodoiabFnDiagChosenP
namespace Go.Proofs.Yteapghgoiodoiab.fnDiagChosenRuns
open Go Go.Eng
set_option linter.unusedVariables false
set_option linter.unusedSectionVars false
set_option linter.unusedSimpArgs false
set_option maxRecDepth 100000
open Go.Proofs.Yteapghgoiodoiab.atDrawn
theorem r_d3 : run d3 = true := by kernel_rfl
theorem r_d7 : run d7 = true := by kernel_rfl
theorem r_d11 : run d11 = true := by kernel_rfl
theorem r_d15 : run d15 = true := by kernel_rfl
theorem r_d19 : run d19 = true := by kernel_rfl
theorem r_d23 : run d23 = true := by kernel_rfl
theorem r_d27 : run d27 = true := by kernel_rfl
theorem r_d31 : run d31 = true := by kernel_rfl
theorem r_d35 : run d35 = true := by kernel_rfl
theorem r_d39 : run d39 = true := by kernel_rfl
theorem r_d43 : run d43 = true := by kernel_rfl
theorem r_d47 : run d47 = true := by kernel_rfl
theorem r_d51 : run d51 = true := by kernel_rfl
theorem r_d55 : run d55 = true := by kernel_rfl
theorem r_d59 : run d59 = true := by kernel_rfl
theorem r_d63 : run d63 = true := by kernel_rfl
theorem r_d67 : run d67 = true := by kernel_rfl
theorem r_d71 : run d71 = true := by kernel_rfl
theorem r_d75 : run d75 = true := by kernel_rfl
theorem r_d79 : run d79 = true := by kernel_rfl
theorem r_d83 : run d83 = true := by kernel_rfl
theorem r_d87 : run d87 = true := by kernel_rfl
theorem r_d91 : run d91 = true := by kernel_rfl
theorem r_d95 : run d95 = true := by kernel_rfl
theorem r_d99 : run d99 = true := by kernel_rfl
theorem r_d103 : run d103 = true := by kernel_rfl
theorem r_d107 : run d107 = true := by kernel_rfl
theorem r_d111 : run d111 = true := by kernel_rfl
theorem r_d115 : run d115 = true := by kernel_rfl
theorem r_d119 : run d119 = true := by kernel_rfl
theorem r_d123 : run d123 = true := by kernel_rfl
theorem r_d127 : run d127 = true := by kernel_rfl
theorem r_d131 : run d131 = true := by kernel_rfl
theorem r_d135 : run d135 = true := by kernel_rfl
theorem r_d139 : run d139 = true := by kernel_rfl
theorem r_d143 : run d143 = true := by kernel_rfl
theorem r_d147 : run d147 = true := by kernel_rfl
theorem r_d151 : run d151 = true := by kernel_rfl
theorem r_d155 : run d155 = true := by kernel_rfl
theorem r_d159 : run d159 = true := by kernel_rfl
theorem r_d163 : run d163 = true := by kernel_rfl
theorem r_d167 : run d167 = true := by kernel_rfl
theorem r_d171 : run d171 = true := by kernel_rfl
theorem r_d175 : run d175 = true := by kernel_rfl
theorem r_d179 : run d179 = true := by kernel_rfl
theorem r_d183 : run d183 = true := by kernel_rfl
theorem r_d187 : run d187 = true := by kernel_rfl
theorem r_d191 : run d191 = true := by kernel_rfl
theorem r_d195 : run d195 = true := by kernel_rfl
theorem r_d199 : run d199 = true := by kernel_rfl
theorem r_d203 : run d203 = true := by kernel_rfl
theorem r_d207 : run d207 = true := by kernel_rfl
theorem r_d211 : run d211 = true := by kernel_rfl
theorem r_d215 : run d215 = true := by kernel_rfl
theorem r_d219 : run d219 = true := by kernel_rfl
theorem r_d223 : run d223 = true := by kernel_rfl
theorem r_d227 : run d227 = true := by kernel_rfl
theorem r_d231 : run d231 = true := by kernel_rfl
theorem r_d235 : run d235 = true := by kernel_rfl
theorem r_d239 : run d239 = true := by kernel_rfl
theorem r_d243 : run d243 = true := by kernel_rfl
theorem r_d247 : run d247 = true := by kernel_rfl
theorem r_d251 : run d251 = true := by kernel_rfl
theorem r_d255 : run d255 = true := by kernel_rfl
theorem r_d259 : run d259 = true := by kernel_rfl
theorem r_d263 : run d263 = true := by kernel_rfl
theorem r_d267 : run d267 = true := by kernel_rfl
theorem r_d271 : run d271 = true := by kernel_rfl
theorem r_d275 : run d275 = true := by kernel_rfl
theorem r_d279 : run d279 = true := by kernel_rfl
theorem r_d283 : run d283 = true := by kernel_rfl
theorem r_d287 : run d287 = true := by kernel_rfl
theorem r_d291 : run d291 = true := by kernel_rfl
theorem r_d295 : run d295 = true := by kernel_rfl
theorem r_d299 : run d299 = true := by kernel_rfl
theorem r_d303 : run d303 = true := by kernel_rfl
theorem r_d307 : run d307 = true := by kernel_rfl
theorem r_d311 : run d311 = true := by kernel_rfl
theorem r_d315 : run d315 = true := by kernel_rfl
theorem r_d319 : run d319 = true := by kernel_rfl
theorem r_d323 : run d323 = true := by kernel_rfl
theorem r_d327 : run d327 = true := by kernel_rfl
theorem r_d331 : run d331 = true := by kernel_rfl
theorem r_d335 : run d335 = true := by kernel_rfl
theorem r_d339 : run d339 = true := by kernel_rfl
theorem r_d343 : run d343 = true := by kernel_rfl
theorem r_d347 : run d347 = true := by kernel_rfl
theorem r_d351 : run d351 = true := by kernel_rfl
end Go.Proofs.Yteapghgoiodoiab.fnDiagChosenRuns
