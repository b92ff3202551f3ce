/- Runs of the program at a seat. -/
import Derived.Test.YthcdiaahpodkoabFnPlainP
namespace Go.Proofs.Ythcdiaahpodkoab.fnPlainRuns
open Go Go.Eng
set_option linter.unusedVariables false
set_option linter.unusedSectionVars false
set_option linter.unusedSimpArgs false
set_option maxRecDepth 100000 in
theorem r_d3 : run Go.Proofs.Ythcdiaahpodkoab.atDrawn.d3 = true := by kernel_rfl
set_option maxRecDepth 100000 in
theorem r_d7 : run Go.Proofs.Ythcdiaahpodkoab.atDrawn.d7 = true := by kernel_rfl
set_option maxRecDepth 100000 in
theorem r_d11 : run Go.Proofs.Ythcdiaahpodkoab.atDrawn.d11 = true := by kernel_rfl
set_option maxRecDepth 100000 in
theorem r_d15 : run Go.Proofs.Ythcdiaahpodkoab.atDrawn.d15 = true := by kernel_rfl
set_option maxRecDepth 100000 in
theorem r_d19 : run Go.Proofs.Ythcdiaahpodkoab.atDrawn.d19 = true := by kernel_rfl
set_option maxRecDepth 100000 in
theorem r_d23 : run Go.Proofs.Ythcdiaahpodkoab.atDrawn.d23 = true := by kernel_rfl
set_option maxRecDepth 100000 in
theorem r_d27 : run Go.Proofs.Ythcdiaahpodkoab.atDrawn.d27 = true := by kernel_rfl
set_option maxRecDepth 100000 in
theorem r_d31 : run Go.Proofs.Ythcdiaahpodkoab.atDrawn.d31 = true := by kernel_rfl
set_option maxRecDepth 100000 in
theorem r_d35 : run Go.Proofs.Ythcdiaahpodkoab.atDrawn.d35 = true := by kernel_rfl
set_option maxRecDepth 100000 in
theorem r_d39 : run Go.Proofs.Ythcdiaahpodkoab.atDrawn.d39 = true := by kernel_rfl
set_option maxRecDepth 100000 in
theorem r_d43 : run Go.Proofs.Ythcdiaahpodkoab.atDrawn.d43 = true := by kernel_rfl
set_option maxRecDepth 100000 in
theorem r_d47 : run Go.Proofs.Ythcdiaahpodkoab.atDrawn.d47 = true := by kernel_rfl
set_option maxRecDepth 100000 in
theorem r_d51 : run Go.Proofs.Ythcdiaahpodkoab.atDrawn.d51 = true := by kernel_rfl
set_option maxRecDepth 100000 in
theorem r_d55 : run Go.Proofs.Ythcdiaahpodkoab.atDrawn.d55 = true := by kernel_rfl
set_option maxRecDepth 100000 in
theorem r_d59 : run Go.Proofs.Ythcdiaahpodkoab.atDrawn.d59 = true := by kernel_rfl
set_option maxRecDepth 100000 in
theorem r_d63 : run Go.Proofs.Ythcdiaahpodkoab.atDrawn.d63 = true := by kernel_rfl
set_option maxRecDepth 100000 in
theorem r_d67 : run Go.Proofs.Ythcdiaahpodkoab.atDrawn.d67 = true := by kernel_rfl
set_option maxRecDepth 100000 in
theorem r_d71 : run Go.Proofs.Ythcdiaahpodkoab.atDrawn.d71 = true := by kernel_rfl
set_option maxRecDepth 100000 in
theorem r_d75 : run Go.Proofs.Ythcdiaahpodkoab.atDrawn.d75 = true := by kernel_rfl
set_option maxRecDepth 100000 in
theorem r_d79 : run Go.Proofs.Ythcdiaahpodkoab.atDrawn.d79 = true := by kernel_rfl
set_option maxRecDepth 100000 in
theorem r_d83 : run Go.Proofs.Ythcdiaahpodkoab.atDrawn.d83 = true := by kernel_rfl
set_option maxRecDepth 100000 in
theorem r_d87 : run Go.Proofs.Ythcdiaahpodkoab.atDrawn.d87 = true := by kernel_rfl
set_option maxRecDepth 100000 in
theorem r_d91 : run Go.Proofs.Ythcdiaahpodkoab.atDrawn.d91 = true := by kernel_rfl
set_option maxRecDepth 100000 in
theorem r_d95 : run Go.Proofs.Ythcdiaahpodkoab.atDrawn.d95 = true := by kernel_rfl
set_option maxRecDepth 100000 in
theorem r_d99 : run Go.Proofs.Ythcdiaahpodkoab.atDrawn.d99 = true := by kernel_rfl
set_option maxRecDepth 100000 in
theorem r_d103 : run Go.Proofs.Ythcdiaahpodkoab.atDrawn.d103 = true := by kernel_rfl
set_option maxRecDepth 100000 in
theorem r_d107 : run Go.Proofs.Ythcdiaahpodkoab.atDrawn.d107 = true := by kernel_rfl
set_option maxRecDepth 100000 in
theorem r_d111 : run Go.Proofs.Ythcdiaahpodkoab.atDrawn.d111 = true := by kernel_rfl
set_option maxRecDepth 100000 in
theorem r_d115 : run Go.Proofs.Ythcdiaahpodkoab.atDrawn.d115 = true := by kernel_rfl
set_option maxRecDepth 100000 in
theorem r_d119 : run Go.Proofs.Ythcdiaahpodkoab.atDrawn.d119 = true := by kernel_rfl
set_option maxRecDepth 100000 in
theorem r_d123 : run Go.Proofs.Ythcdiaahpodkoab.atDrawn.d123 = true := by kernel_rfl
set_option maxRecDepth 100000 in
theorem r_d127 : run Go.Proofs.Ythcdiaahpodkoab.atDrawn.d127 = true := by kernel_rfl
set_option maxRecDepth 100000 in
theorem r_d131 : run Go.Proofs.Ythcdiaahpodkoab.atDrawn.d131 = true := by kernel_rfl
set_option maxRecDepth 100000 in
theorem r_d135 : run Go.Proofs.Ythcdiaahpodkoab.atDrawn.d135 = true := by kernel_rfl
set_option maxRecDepth 100000 in
theorem r_d139 : run Go.Proofs.Ythcdiaahpodkoab.atDrawn.d139 = true := by kernel_rfl
set_option maxRecDepth 100000 in
theorem r_d143 : run Go.Proofs.Ythcdiaahpodkoab.atDrawn.d143 = true := by kernel_rfl
set_option maxRecDepth 100000 in
theorem r_d147 : run Go.Proofs.Ythcdiaahpodkoab.atDrawn.d147 = true := by kernel_rfl
set_option maxRecDepth 100000 in
theorem r_d151 : run Go.Proofs.Ythcdiaahpodkoab.atDrawn.d151 = true := by kernel_rfl
set_option maxRecDepth 100000 in
theorem r_d155 : run Go.Proofs.Ythcdiaahpodkoab.atDrawn.d155 = true := by kernel_rfl
set_option maxRecDepth 100000 in
theorem r_d159 : run Go.Proofs.Ythcdiaahpodkoab.atDrawn.d159 = true := by kernel_rfl
set_option maxRecDepth 100000 in
theorem r_d163 : run Go.Proofs.Ythcdiaahpodkoab.atDrawn.d163 = true := by kernel_rfl
set_option maxRecDepth 100000 in
theorem r_d167 : run Go.Proofs.Ythcdiaahpodkoab.atDrawn.d167 = true := by kernel_rfl
set_option maxRecDepth 100000 in
theorem r_d171 : run Go.Proofs.Ythcdiaahpodkoab.atDrawn.d171 = true := by kernel_rfl
set_option maxRecDepth 100000 in
theorem r_d175 : run Go.Proofs.Ythcdiaahpodkoab.atDrawn.d175 = true := by kernel_rfl
set_option maxRecDepth 100000 in
theorem r_d179 : run Go.Proofs.Ythcdiaahpodkoab.atDrawn.d179 = true := by kernel_rfl
set_option maxRecDepth 100000 in
theorem r_d183 : run Go.Proofs.Ythcdiaahpodkoab.atDrawn.d183 = true := by kernel_rfl
set_option maxRecDepth 100000 in
theorem r_d187 : run Go.Proofs.Ythcdiaahpodkoab.atDrawn.d187 = true := by kernel_rfl
set_option maxRecDepth 100000 in
theorem r_d191 : run Go.Proofs.Ythcdiaahpodkoab.atDrawn.d191 = true := by kernel_rfl
set_option maxRecDepth 100000 in
theorem r_d195 : run Go.Proofs.Ythcdiaahpodkoab.atDrawn.d195 = true := by kernel_rfl
set_option maxRecDepth 100000 in
theorem r_d199 : run Go.Proofs.Ythcdiaahpodkoab.atDrawn.d199 = true := by kernel_rfl
set_option maxRecDepth 100000 in
theorem r_d203 : run Go.Proofs.Ythcdiaahpodkoab.atDrawn.d203 = true := by kernel_rfl
set_option maxRecDepth 100000 in
theorem r_d207 : run Go.Proofs.Ythcdiaahpodkoab.atDrawn.d207 = true := by kernel_rfl
set_option maxRecDepth 100000 in
theorem r_d211 : run Go.Proofs.Ythcdiaahpodkoab.atDrawn.d211 = true := by kernel_rfl
set_option maxRecDepth 100000 in
theorem r_d215 : run Go.Proofs.Ythcdiaahpodkoab.atDrawn.d215 = true := by kernel_rfl
set_option maxRecDepth 100000 in
theorem r_d219 : run Go.Proofs.Ythcdiaahpodkoab.atDrawn.d219 = true := by kernel_rfl
set_option maxRecDepth 100000 in
theorem r_d223 : run Go.Proofs.Ythcdiaahpodkoab.atDrawn.d223 = true := by kernel_rfl
set_option maxRecDepth 100000 in
theorem r_d227 : run Go.Proofs.Ythcdiaahpodkoab.atDrawn.d227 = true := by kernel_rfl
set_option maxRecDepth 100000 in
theorem r_d231 : run Go.Proofs.Ythcdiaahpodkoab.atDrawn.d231 = true := by kernel_rfl
set_option maxRecDepth 100000 in
theorem r_d235 : run Go.Proofs.Ythcdiaahpodkoab.atDrawn.d235 = true := by kernel_rfl
set_option maxRecDepth 100000 in
theorem r_d239 : run Go.Proofs.Ythcdiaahpodkoab.atDrawn.d239 = true := by kernel_rfl
set_option maxRecDepth 100000 in
theorem r_d243 : run Go.Proofs.Ythcdiaahpodkoab.atDrawn.d243 = true := by kernel_rfl
set_option maxRecDepth 100000 in
theorem r_d247 : run Go.Proofs.Ythcdiaahpodkoab.atDrawn.d247 = true := by kernel_rfl
set_option maxRecDepth 100000 in
theorem r_d251 : run Go.Proofs.Ythcdiaahpodkoab.atDrawn.d251 = true := by kernel_rfl
set_option maxRecDepth 100000 in
theorem r_d255 : run Go.Proofs.Ythcdiaahpodkoab.atDrawn.d255 = true := by kernel_rfl
set_option maxRecDepth 100000 in
theorem r_d259 : run Go.Proofs.Ythcdiaahpodkoab.atDrawn.d259 = true := by kernel_rfl
set_option maxRecDepth 100000 in
theorem r_d263 : run Go.Proofs.Ythcdiaahpodkoab.atDrawn.d263 = true := by kernel_rfl
set_option maxRecDepth 100000 in
theorem r_d267 : run Go.Proofs.Ythcdiaahpodkoab.atDrawn.d267 = true := by kernel_rfl
set_option maxRecDepth 100000 in
theorem r_d271 : run Go.Proofs.Ythcdiaahpodkoab.atDrawn.d271 = true := by kernel_rfl
set_option maxRecDepth 100000 in
theorem r_d275 : run Go.Proofs.Ythcdiaahpodkoab.atDrawn.d275 = true := by kernel_rfl
set_option maxRecDepth 100000 in
theorem r_d279 : run Go.Proofs.Ythcdiaahpodkoab.atDrawn.d279 = true := by kernel_rfl
set_option maxRecDepth 100000 in
theorem r_d283 : run Go.Proofs.Ythcdiaahpodkoab.atDrawn.d283 = true := by kernel_rfl
set_option maxRecDepth 100000 in
theorem r_d287 : run Go.Proofs.Ythcdiaahpodkoab.atDrawn.d287 = true := by kernel_rfl
set_option maxRecDepth 100000 in
theorem r_d291 : run Go.Proofs.Ythcdiaahpodkoab.atDrawn.d291 = true := by kernel_rfl
set_option maxRecDepth 100000 in
theorem r_d295 : run Go.Proofs.Ythcdiaahpodkoab.atDrawn.d295 = true := by kernel_rfl
set_option maxRecDepth 100000 in
theorem r_d299 : run Go.Proofs.Ythcdiaahpodkoab.atDrawn.d299 = true := by kernel_rfl
set_option maxRecDepth 100000 in
theorem r_d303 : run Go.Proofs.Ythcdiaahpodkoab.atDrawn.d303 = true := by kernel_rfl
set_option maxRecDepth 100000 in
theorem r_d307 : run Go.Proofs.Ythcdiaahpodkoab.atDrawn.d307 = true := by kernel_rfl
set_option maxRecDepth 100000 in
theorem r_d311 : run Go.Proofs.Ythcdiaahpodkoab.atDrawn.d311 = true := by kernel_rfl
set_option maxRecDepth 100000 in
theorem r_d315 : run Go.Proofs.Ythcdiaahpodkoab.atDrawn.d315 = true := by kernel_rfl
set_option maxRecDepth 100000 in
theorem r_d319 : run Go.Proofs.Ythcdiaahpodkoab.atDrawn.d319 = true := by kernel_rfl
set_option maxRecDepth 100000 in
theorem r_d323 : run Go.Proofs.Ythcdiaahpodkoab.atDrawn.d323 = true := by kernel_rfl
set_option maxRecDepth 100000 in
theorem r_d327 : run Go.Proofs.Ythcdiaahpodkoab.atDrawn.d327 = true := by kernel_rfl
set_option maxRecDepth 100000 in
theorem r_d331 : run Go.Proofs.Ythcdiaahpodkoab.atDrawn.d331 = true := by kernel_rfl
set_option maxRecDepth 100000 in
theorem r_d335 : run Go.Proofs.Ythcdiaahpodkoab.atDrawn.d335 = true := by kernel_rfl
set_option maxRecDepth 100000 in
theorem r_d339 : run Go.Proofs.Ythcdiaahpodkoab.atDrawn.d339 = true := by kernel_rfl
set_option maxRecDepth 100000 in
theorem r_d343 : run Go.Proofs.Ythcdiaahpodkoab.atDrawn.d343 = true := by kernel_rfl
set_option maxRecDepth 100000 in
theorem r_d347 : run Go.Proofs.Ythcdiaahpodkoab.atDrawn.d347 = true := by kernel_rfl
set_option maxRecDepth 100000 in
theorem r_d351 : run Go.Proofs.Ythcdiaahpodkoab.atDrawn.d351 = true := by kernel_rfl
end Go.Proofs.Ythcdiaahpodkoab.fnPlainRuns
