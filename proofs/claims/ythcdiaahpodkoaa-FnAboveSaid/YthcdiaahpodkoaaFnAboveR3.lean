/- Runs of the program at a seat. -/
import Derived.Test.YthcdiaahpodkoaaFnAboveP
namespace Go.Proofs.Ythcdiaahpodkoaa.fnAboveRuns
open Go Go.Eng
set_option linter.unusedVariables false
set_option linter.unusedSectionVars false
set_option linter.unusedSimpArgs false
set_option maxRecDepth 100000 in
theorem r1000_d3 : run1000 Go.Proofs.Ythcdiaahpodkoaa.pair3Drawn.d3 = true := by kernel_rfl
set_option maxRecDepth 100000 in
theorem r1001_d3 : run1001 Go.Proofs.Ythcdiaahpodkoaa.pair3Drawn.d3 = true := by kernel_rfl
set_option maxRecDepth 100000 in
theorem r1000_d7 : run1000 Go.Proofs.Ythcdiaahpodkoaa.pair3Drawn.d7 = true := by kernel_rfl
set_option maxRecDepth 100000 in
theorem r1001_d7 : run1001 Go.Proofs.Ythcdiaahpodkoaa.pair3Drawn.d7 = true := by kernel_rfl
set_option maxRecDepth 100000 in
theorem r1000_d11 : run1000 Go.Proofs.Ythcdiaahpodkoaa.pair3Drawn.d11 = true := by kernel_rfl
set_option maxRecDepth 100000 in
theorem r1001_d11 : run1001 Go.Proofs.Ythcdiaahpodkoaa.pair3Drawn.d11 = true := by kernel_rfl
set_option maxRecDepth 100000 in
theorem r1000_d15 : run1000 Go.Proofs.Ythcdiaahpodkoaa.pair3Drawn.d15 = true := by kernel_rfl
set_option maxRecDepth 100000 in
theorem r1001_d15 : run1001 Go.Proofs.Ythcdiaahpodkoaa.pair3Drawn.d15 = true := by kernel_rfl
set_option maxRecDepth 100000 in
theorem r1000_d19 : run1000 Go.Proofs.Ythcdiaahpodkoaa.pair3Drawn.d19 = true := by kernel_rfl
set_option maxRecDepth 100000 in
theorem r1001_d19 : run1001 Go.Proofs.Ythcdiaahpodkoaa.pair3Drawn.d19 = true := by kernel_rfl
set_option maxRecDepth 100000 in
theorem r1000_d23 : run1000 Go.Proofs.Ythcdiaahpodkoaa.pair3Drawn.d23 = true := by kernel_rfl
set_option maxRecDepth 100000 in
theorem r1001_d23 : run1001 Go.Proofs.Ythcdiaahpodkoaa.pair3Drawn.d23 = true := by kernel_rfl
set_option maxRecDepth 100000 in
theorem r1000_d27 : run1000 Go.Proofs.Ythcdiaahpodkoaa.pair3Drawn.d27 = true := by kernel_rfl
set_option maxRecDepth 100000 in
theorem r1001_d27 : run1001 Go.Proofs.Ythcdiaahpodkoaa.pair3Drawn.d27 = true := by kernel_rfl
set_option maxRecDepth 100000 in
theorem r1000_d31 : run1000 Go.Proofs.Ythcdiaahpodkoaa.pair3Drawn.d31 = true := by kernel_rfl
set_option maxRecDepth 100000 in
theorem r1001_d31 : run1001 Go.Proofs.Ythcdiaahpodkoaa.pair3Drawn.d31 = true := by kernel_rfl
set_option maxRecDepth 100000 in
theorem r1000_d35 : run1000 Go.Proofs.Ythcdiaahpodkoaa.pair3Drawn.d35 = true := by kernel_rfl
set_option maxRecDepth 100000 in
theorem r1001_d35 : run1001 Go.Proofs.Ythcdiaahpodkoaa.pair3Drawn.d35 = true := by kernel_rfl
set_option maxRecDepth 100000 in
theorem r1000_d39 : run1000 Go.Proofs.Ythcdiaahpodkoaa.pair3Drawn.d39 = true := by kernel_rfl
set_option maxRecDepth 100000 in
theorem r1001_d39 : run1001 Go.Proofs.Ythcdiaahpodkoaa.pair3Drawn.d39 = true := by kernel_rfl
set_option maxRecDepth 100000 in
theorem r1000_d43 : run1000 Go.Proofs.Ythcdiaahpodkoaa.pair3Drawn.d43 = true := by kernel_rfl
set_option maxRecDepth 100000 in
theorem r1001_d43 : run1001 Go.Proofs.Ythcdiaahpodkoaa.pair3Drawn.d43 = true := by kernel_rfl
set_option maxRecDepth 100000 in
theorem r1000_d47 : run1000 Go.Proofs.Ythcdiaahpodkoaa.pair3Drawn.d47 = true := by kernel_rfl
set_option maxRecDepth 100000 in
theorem r1001_d47 : run1001 Go.Proofs.Ythcdiaahpodkoaa.pair3Drawn.d47 = true := by kernel_rfl
set_option maxRecDepth 100000 in
theorem r1000_d51 : run1000 Go.Proofs.Ythcdiaahpodkoaa.pair3Drawn.d51 = true := by kernel_rfl
set_option maxRecDepth 100000 in
theorem r1001_d51 : run1001 Go.Proofs.Ythcdiaahpodkoaa.pair3Drawn.d51 = true := by kernel_rfl
set_option maxRecDepth 100000 in
theorem r1000_d55 : run1000 Go.Proofs.Ythcdiaahpodkoaa.pair3Drawn.d55 = true := by kernel_rfl
set_option maxRecDepth 100000 in
theorem r1001_d55 : run1001 Go.Proofs.Ythcdiaahpodkoaa.pair3Drawn.d55 = true := by kernel_rfl
set_option maxRecDepth 100000 in
theorem r1000_d59 : run1000 Go.Proofs.Ythcdiaahpodkoaa.pair3Drawn.d59 = true := by kernel_rfl
set_option maxRecDepth 100000 in
theorem r1001_d59 : run1001 Go.Proofs.Ythcdiaahpodkoaa.pair3Drawn.d59 = true := by kernel_rfl
set_option maxRecDepth 100000 in
theorem r1000_d63 : run1000 Go.Proofs.Ythcdiaahpodkoaa.pair3Drawn.d63 = true := by kernel_rfl
set_option maxRecDepth 100000 in
theorem r1001_d63 : run1001 Go.Proofs.Ythcdiaahpodkoaa.pair3Drawn.d63 = true := by kernel_rfl
set_option maxRecDepth 100000 in
theorem r1000_d67 : run1000 Go.Proofs.Ythcdiaahpodkoaa.pair3Drawn.d67 = true := by kernel_rfl
set_option maxRecDepth 100000 in
theorem r1001_d67 : run1001 Go.Proofs.Ythcdiaahpodkoaa.pair3Drawn.d67 = true := by kernel_rfl
set_option maxRecDepth 100000 in
theorem r1000_d71 : run1000 Go.Proofs.Ythcdiaahpodkoaa.pair3Drawn.d71 = true := by kernel_rfl
set_option maxRecDepth 100000 in
theorem r1001_d71 : run1001 Go.Proofs.Ythcdiaahpodkoaa.pair3Drawn.d71 = true := by kernel_rfl
set_option maxRecDepth 100000 in
theorem r1000_d75 : run1000 Go.Proofs.Ythcdiaahpodkoaa.pair3Drawn.d75 = true := by kernel_rfl
set_option maxRecDepth 100000 in
theorem r1001_d75 : run1001 Go.Proofs.Ythcdiaahpodkoaa.pair3Drawn.d75 = true := by kernel_rfl
set_option maxRecDepth 100000 in
theorem r1000_d79 : run1000 Go.Proofs.Ythcdiaahpodkoaa.pair3Drawn.d79 = true := by kernel_rfl
set_option maxRecDepth 100000 in
theorem r1001_d79 : run1001 Go.Proofs.Ythcdiaahpodkoaa.pair3Drawn.d79 = true := by kernel_rfl
set_option maxRecDepth 100000 in
theorem r1000_d83 : run1000 Go.Proofs.Ythcdiaahpodkoaa.pair3Drawn.d83 = true := by kernel_rfl
set_option maxRecDepth 100000 in
theorem r1001_d83 : run1001 Go.Proofs.Ythcdiaahpodkoaa.pair3Drawn.d83 = true := by kernel_rfl
set_option maxRecDepth 100000 in
theorem r1000_d87 : run1000 Go.Proofs.Ythcdiaahpodkoaa.pair3Drawn.d87 = true := by kernel_rfl
set_option maxRecDepth 100000 in
theorem r1001_d87 : run1001 Go.Proofs.Ythcdiaahpodkoaa.pair3Drawn.d87 = true := by kernel_rfl
set_option maxRecDepth 100000 in
theorem r1000_d91 : run1000 Go.Proofs.Ythcdiaahpodkoaa.pair3Drawn.d91 = true := by kernel_rfl
set_option maxRecDepth 100000 in
theorem r1001_d91 : run1001 Go.Proofs.Ythcdiaahpodkoaa.pair3Drawn.d91 = true := by kernel_rfl
set_option maxRecDepth 100000 in
theorem r1000_d95 : run1000 Go.Proofs.Ythcdiaahpodkoaa.pair3Drawn.d95 = true := by kernel_rfl
set_option maxRecDepth 100000 in
theorem r1001_d95 : run1001 Go.Proofs.Ythcdiaahpodkoaa.pair3Drawn.d95 = true := by kernel_rfl
set_option maxRecDepth 100000 in
theorem r1000_d99 : run1000 Go.Proofs.Ythcdiaahpodkoaa.pair3Drawn.d99 = true := by kernel_rfl
set_option maxRecDepth 100000 in
theorem r1001_d99 : run1001 Go.Proofs.Ythcdiaahpodkoaa.pair3Drawn.d99 = true := by kernel_rfl
set_option maxRecDepth 100000 in
theorem r1000_d103 : run1000 Go.Proofs.Ythcdiaahpodkoaa.pair3Drawn.d103 = true := by kernel_rfl
set_option maxRecDepth 100000 in
theorem r1001_d103 : run1001 Go.Proofs.Ythcdiaahpodkoaa.pair3Drawn.d103 = true := by kernel_rfl
set_option maxRecDepth 100000 in
theorem r1000_d107 : run1000 Go.Proofs.Ythcdiaahpodkoaa.pair3Drawn.d107 = true := by kernel_rfl
set_option maxRecDepth 100000 in
theorem r1001_d107 : run1001 Go.Proofs.Ythcdiaahpodkoaa.pair3Drawn.d107 = true := by kernel_rfl
set_option maxRecDepth 100000 in
theorem r1000_d111 : run1000 Go.Proofs.Ythcdiaahpodkoaa.pair3Drawn.d111 = true := by kernel_rfl
set_option maxRecDepth 100000 in
theorem r1001_d111 : run1001 Go.Proofs.Ythcdiaahpodkoaa.pair3Drawn.d111 = true := by kernel_rfl
set_option maxRecDepth 100000 in
theorem r1000_d115 : run1000 Go.Proofs.Ythcdiaahpodkoaa.pair3Drawn.d115 = true := by kernel_rfl
set_option maxRecDepth 100000 in
theorem r1001_d115 : run1001 Go.Proofs.Ythcdiaahpodkoaa.pair3Drawn.d115 = true := by kernel_rfl
set_option maxRecDepth 100000 in
theorem r1000_d119 : run1000 Go.Proofs.Ythcdiaahpodkoaa.pair3Drawn.d119 = true := by kernel_rfl
set_option maxRecDepth 100000 in
theorem r1001_d119 : run1001 Go.Proofs.Ythcdiaahpodkoaa.pair3Drawn.d119 = true := by kernel_rfl
set_option maxRecDepth 100000 in
theorem r1000_d123 : run1000 Go.Proofs.Ythcdiaahpodkoaa.pair3Drawn.d123 = true := by kernel_rfl
set_option maxRecDepth 100000 in
theorem r1001_d123 : run1001 Go.Proofs.Ythcdiaahpodkoaa.pair3Drawn.d123 = true := by kernel_rfl
set_option maxRecDepth 100000 in
theorem r1000_d127 : run1000 Go.Proofs.Ythcdiaahpodkoaa.pair3Drawn.d127 = true := by kernel_rfl
set_option maxRecDepth 100000 in
theorem r1001_d127 : run1001 Go.Proofs.Ythcdiaahpodkoaa.pair3Drawn.d127 = true := by kernel_rfl
set_option maxRecDepth 100000 in
theorem r1000_d131 : run1000 Go.Proofs.Ythcdiaahpodkoaa.pair3Drawn.d131 = true := by kernel_rfl
set_option maxRecDepth 100000 in
theorem r1001_d131 : run1001 Go.Proofs.Ythcdiaahpodkoaa.pair3Drawn.d131 = true := by kernel_rfl
set_option maxRecDepth 100000 in
theorem r1000_d135 : run1000 Go.Proofs.Ythcdiaahpodkoaa.pair3Drawn.d135 = true := by kernel_rfl
set_option maxRecDepth 100000 in
theorem r1001_d135 : run1001 Go.Proofs.Ythcdiaahpodkoaa.pair3Drawn.d135 = true := by kernel_rfl
set_option maxRecDepth 100000 in
theorem r1000_d139 : run1000 Go.Proofs.Ythcdiaahpodkoaa.pair3Drawn.d139 = true := by kernel_rfl
set_option maxRecDepth 100000 in
theorem r1001_d139 : run1001 Go.Proofs.Ythcdiaahpodkoaa.pair3Drawn.d139 = true := by kernel_rfl
set_option maxRecDepth 100000 in
theorem r1000_d143 : run1000 Go.Proofs.Ythcdiaahpodkoaa.pair3Drawn.d143 = true := by kernel_rfl
set_option maxRecDepth 100000 in
theorem r1001_d143 : run1001 Go.Proofs.Ythcdiaahpodkoaa.pair3Drawn.d143 = true := by kernel_rfl
set_option maxRecDepth 100000 in
theorem r1000_d147 : run1000 Go.Proofs.Ythcdiaahpodkoaa.pair3Drawn.d147 = true := by kernel_rfl
set_option maxRecDepth 100000 in
theorem r1001_d147 : run1001 Go.Proofs.Ythcdiaahpodkoaa.pair3Drawn.d147 = true := by kernel_rfl
set_option maxRecDepth 100000 in
theorem r1000_d151 : run1000 Go.Proofs.Ythcdiaahpodkoaa.pair3Drawn.d151 = true := by kernel_rfl
set_option maxRecDepth 100000 in
theorem r1001_d151 : run1001 Go.Proofs.Ythcdiaahpodkoaa.pair3Drawn.d151 = true := by kernel_rfl
set_option maxRecDepth 100000 in
theorem r1000_d155 : run1000 Go.Proofs.Ythcdiaahpodkoaa.pair3Drawn.d155 = true := by kernel_rfl
set_option maxRecDepth 100000 in
theorem r1001_d155 : run1001 Go.Proofs.Ythcdiaahpodkoaa.pair3Drawn.d155 = true := by kernel_rfl
set_option maxRecDepth 100000 in
theorem r1000_d159 : run1000 Go.Proofs.Ythcdiaahpodkoaa.pair3Drawn.d159 = true := by kernel_rfl
set_option maxRecDepth 100000 in
theorem r1001_d159 : run1001 Go.Proofs.Ythcdiaahpodkoaa.pair3Drawn.d159 = true := by kernel_rfl
set_option maxRecDepth 100000 in
theorem r1000_d163 : run1000 Go.Proofs.Ythcdiaahpodkoaa.pair3Drawn.d163 = true := by kernel_rfl
set_option maxRecDepth 100000 in
theorem r1001_d163 : run1001 Go.Proofs.Ythcdiaahpodkoaa.pair3Drawn.d163 = true := by kernel_rfl
set_option maxRecDepth 100000 in
theorem r1000_d167 : run1000 Go.Proofs.Ythcdiaahpodkoaa.pair3Drawn.d167 = true := by kernel_rfl
set_option maxRecDepth 100000 in
theorem r1001_d167 : run1001 Go.Proofs.Ythcdiaahpodkoaa.pair3Drawn.d167 = true := by kernel_rfl
set_option maxRecDepth 100000 in
theorem r1000_d171 : run1000 Go.Proofs.Ythcdiaahpodkoaa.pair3Drawn.d171 = true := by kernel_rfl
set_option maxRecDepth 100000 in
theorem r1001_d171 : run1001 Go.Proofs.Ythcdiaahpodkoaa.pair3Drawn.d171 = true := by kernel_rfl
set_option maxRecDepth 100000 in
theorem r1000_d175 : run1000 Go.Proofs.Ythcdiaahpodkoaa.pair3Drawn.d175 = true := by kernel_rfl
set_option maxRecDepth 100000 in
theorem r1001_d175 : run1001 Go.Proofs.Ythcdiaahpodkoaa.pair3Drawn.d175 = true := by kernel_rfl
set_option maxRecDepth 100000 in
theorem r1000_d179 : run1000 Go.Proofs.Ythcdiaahpodkoaa.pair3Drawn.d179 = true := by kernel_rfl
set_option maxRecDepth 100000 in
theorem r1001_d179 : run1001 Go.Proofs.Ythcdiaahpodkoaa.pair3Drawn.d179 = true := by kernel_rfl
set_option maxRecDepth 100000 in
theorem r1000_d183 : run1000 Go.Proofs.Ythcdiaahpodkoaa.pair3Drawn.d183 = true := by kernel_rfl
set_option maxRecDepth 100000 in
theorem r1001_d183 : run1001 Go.Proofs.Ythcdiaahpodkoaa.pair3Drawn.d183 = true := by kernel_rfl
set_option maxRecDepth 100000 in
theorem r1000_d187 : run1000 Go.Proofs.Ythcdiaahpodkoaa.pair3Drawn.d187 = true := by kernel_rfl
set_option maxRecDepth 100000 in
theorem r1001_d187 : run1001 Go.Proofs.Ythcdiaahpodkoaa.pair3Drawn.d187 = true := by kernel_rfl
set_option maxRecDepth 100000 in
theorem r1000_d191 : run1000 Go.Proofs.Ythcdiaahpodkoaa.pair3Drawn.d191 = true := by kernel_rfl
set_option maxRecDepth 100000 in
theorem r1001_d191 : run1001 Go.Proofs.Ythcdiaahpodkoaa.pair3Drawn.d191 = true := by kernel_rfl
set_option maxRecDepth 100000 in
theorem r1000_d195 : run1000 Go.Proofs.Ythcdiaahpodkoaa.pair3Drawn.d195 = true := by kernel_rfl
set_option maxRecDepth 100000 in
theorem r1001_d195 : run1001 Go.Proofs.Ythcdiaahpodkoaa.pair3Drawn.d195 = true := by kernel_rfl
set_option maxRecDepth 100000 in
theorem r1000_d199 : run1000 Go.Proofs.Ythcdiaahpodkoaa.pair3Drawn.d199 = true := by kernel_rfl
set_option maxRecDepth 100000 in
theorem r1001_d199 : run1001 Go.Proofs.Ythcdiaahpodkoaa.pair3Drawn.d199 = true := by kernel_rfl
set_option maxRecDepth 100000 in
theorem r1000_d203 : run1000 Go.Proofs.Ythcdiaahpodkoaa.pair3Drawn.d203 = true := by kernel_rfl
set_option maxRecDepth 100000 in
theorem r1001_d203 : run1001 Go.Proofs.Ythcdiaahpodkoaa.pair3Drawn.d203 = true := by kernel_rfl
set_option maxRecDepth 100000 in
theorem r1000_d207 : run1000 Go.Proofs.Ythcdiaahpodkoaa.pair3Drawn.d207 = true := by kernel_rfl
set_option maxRecDepth 100000 in
theorem r1001_d207 : run1001 Go.Proofs.Ythcdiaahpodkoaa.pair3Drawn.d207 = true := by kernel_rfl
set_option maxRecDepth 100000 in
theorem r1000_d211 : run1000 Go.Proofs.Ythcdiaahpodkoaa.pair3Drawn.d211 = true := by kernel_rfl
set_option maxRecDepth 100000 in
theorem r1001_d211 : run1001 Go.Proofs.Ythcdiaahpodkoaa.pair3Drawn.d211 = true := by kernel_rfl
set_option maxRecDepth 100000 in
theorem r1000_d215 : run1000 Go.Proofs.Ythcdiaahpodkoaa.pair3Drawn.d215 = true := by kernel_rfl
set_option maxRecDepth 100000 in
theorem r1001_d215 : run1001 Go.Proofs.Ythcdiaahpodkoaa.pair3Drawn.d215 = true := by kernel_rfl
set_option maxRecDepth 100000 in
theorem r1000_d219 : run1000 Go.Proofs.Ythcdiaahpodkoaa.pair3Drawn.d219 = true := by kernel_rfl
set_option maxRecDepth 100000 in
theorem r1001_d219 : run1001 Go.Proofs.Ythcdiaahpodkoaa.pair3Drawn.d219 = true := by kernel_rfl
set_option maxRecDepth 100000 in
theorem r1000_d223 : run1000 Go.Proofs.Ythcdiaahpodkoaa.pair3Drawn.d223 = true := by kernel_rfl
set_option maxRecDepth 100000 in
theorem r1001_d223 : run1001 Go.Proofs.Ythcdiaahpodkoaa.pair3Drawn.d223 = true := by kernel_rfl
set_option maxRecDepth 100000 in
theorem r1000_d227 : run1000 Go.Proofs.Ythcdiaahpodkoaa.pair3Drawn.d227 = true := by kernel_rfl
set_option maxRecDepth 100000 in
theorem r1001_d227 : run1001 Go.Proofs.Ythcdiaahpodkoaa.pair3Drawn.d227 = true := by kernel_rfl
set_option maxRecDepth 100000 in
theorem r1000_d231 : run1000 Go.Proofs.Ythcdiaahpodkoaa.pair3Drawn.d231 = true := by kernel_rfl
set_option maxRecDepth 100000 in
theorem r1001_d231 : run1001 Go.Proofs.Ythcdiaahpodkoaa.pair3Drawn.d231 = true := by kernel_rfl
set_option maxRecDepth 100000 in
theorem r1000_d235 : run1000 Go.Proofs.Ythcdiaahpodkoaa.pair3Drawn.d235 = true := by kernel_rfl
set_option maxRecDepth 100000 in
theorem r1001_d235 : run1001 Go.Proofs.Ythcdiaahpodkoaa.pair3Drawn.d235 = true := by kernel_rfl
set_option maxRecDepth 100000 in
theorem r1000_d239 : run1000 Go.Proofs.Ythcdiaahpodkoaa.pair3Drawn.d239 = true := by kernel_rfl
set_option maxRecDepth 100000 in
theorem r1001_d239 : run1001 Go.Proofs.Ythcdiaahpodkoaa.pair3Drawn.d239 = true := by kernel_rfl
set_option maxRecDepth 100000 in
theorem r1000_d243 : run1000 Go.Proofs.Ythcdiaahpodkoaa.pair3Drawn.d243 = true := by kernel_rfl
set_option maxRecDepth 100000 in
theorem r1001_d243 : run1001 Go.Proofs.Ythcdiaahpodkoaa.pair3Drawn.d243 = true := by kernel_rfl
set_option maxRecDepth 100000 in
theorem r1000_d247 : run1000 Go.Proofs.Ythcdiaahpodkoaa.pair3Drawn.d247 = true := by kernel_rfl
set_option maxRecDepth 100000 in
theorem r1001_d247 : run1001 Go.Proofs.Ythcdiaahpodkoaa.pair3Drawn.d247 = true := by kernel_rfl
set_option maxRecDepth 100000 in
theorem r1000_d251 : run1000 Go.Proofs.Ythcdiaahpodkoaa.pair3Drawn.d251 = true := by kernel_rfl
set_option maxRecDepth 100000 in
theorem r1001_d251 : run1001 Go.Proofs.Ythcdiaahpodkoaa.pair3Drawn.d251 = true := by kernel_rfl
set_option maxRecDepth 100000 in
theorem r1000_d255 : run1000 Go.Proofs.Ythcdiaahpodkoaa.pair3Drawn.d255 = true := by kernel_rfl
set_option maxRecDepth 100000 in
theorem r1001_d255 : run1001 Go.Proofs.Ythcdiaahpodkoaa.pair3Drawn.d255 = true := by kernel_rfl
set_option maxRecDepth 100000 in
theorem r1000_d259 : run1000 Go.Proofs.Ythcdiaahpodkoaa.pair3Drawn.d259 = true := by kernel_rfl
set_option maxRecDepth 100000 in
theorem r1001_d259 : run1001 Go.Proofs.Ythcdiaahpodkoaa.pair3Drawn.d259 = true := by kernel_rfl
set_option maxRecDepth 100000 in
theorem r1000_d263 : run1000 Go.Proofs.Ythcdiaahpodkoaa.pair3Drawn.d263 = true := by kernel_rfl
set_option maxRecDepth 100000 in
theorem r1001_d263 : run1001 Go.Proofs.Ythcdiaahpodkoaa.pair3Drawn.d263 = true := by kernel_rfl
set_option maxRecDepth 100000 in
theorem r1000_d267 : run1000 Go.Proofs.Ythcdiaahpodkoaa.pair3Drawn.d267 = true := by kernel_rfl
set_option maxRecDepth 100000 in
theorem r1001_d267 : run1001 Go.Proofs.Ythcdiaahpodkoaa.pair3Drawn.d267 = true := by kernel_rfl
set_option maxRecDepth 100000 in
theorem r1000_d271 : run1000 Go.Proofs.Ythcdiaahpodkoaa.pair3Drawn.d271 = true := by kernel_rfl
set_option maxRecDepth 100000 in
theorem r1001_d271 : run1001 Go.Proofs.Ythcdiaahpodkoaa.pair3Drawn.d271 = true := by kernel_rfl
set_option maxRecDepth 100000 in
theorem r1000_d275 : run1000 Go.Proofs.Ythcdiaahpodkoaa.pair3Drawn.d275 = true := by kernel_rfl
set_option maxRecDepth 100000 in
theorem r1001_d275 : run1001 Go.Proofs.Ythcdiaahpodkoaa.pair3Drawn.d275 = true := by kernel_rfl
set_option maxRecDepth 100000 in
theorem r1000_d279 : run1000 Go.Proofs.Ythcdiaahpodkoaa.pair3Drawn.d279 = true := by kernel_rfl
set_option maxRecDepth 100000 in
theorem r1001_d279 : run1001 Go.Proofs.Ythcdiaahpodkoaa.pair3Drawn.d279 = true := by kernel_rfl
set_option maxRecDepth 100000 in
theorem r1000_d283 : run1000 Go.Proofs.Ythcdiaahpodkoaa.pair3Drawn.d283 = true := by kernel_rfl
set_option maxRecDepth 100000 in
theorem r1001_d283 : run1001 Go.Proofs.Ythcdiaahpodkoaa.pair3Drawn.d283 = true := by kernel_rfl
set_option maxRecDepth 100000 in
theorem r1000_d287 : run1000 Go.Proofs.Ythcdiaahpodkoaa.pair3Drawn.d287 = true := by kernel_rfl
set_option maxRecDepth 100000 in
theorem r1001_d287 : run1001 Go.Proofs.Ythcdiaahpodkoaa.pair3Drawn.d287 = true := by kernel_rfl
set_option maxRecDepth 100000 in
theorem r1000_d291 : run1000 Go.Proofs.Ythcdiaahpodkoaa.pair3Drawn.d291 = true := by kernel_rfl
set_option maxRecDepth 100000 in
theorem r1001_d291 : run1001 Go.Proofs.Ythcdiaahpodkoaa.pair3Drawn.d291 = true := by kernel_rfl
set_option maxRecDepth 100000 in
theorem r1000_d295 : run1000 Go.Proofs.Ythcdiaahpodkoaa.pair3Drawn.d295 = true := by kernel_rfl
set_option maxRecDepth 100000 in
theorem r1001_d295 : run1001 Go.Proofs.Ythcdiaahpodkoaa.pair3Drawn.d295 = true := by kernel_rfl
set_option maxRecDepth 100000 in
theorem r1000_d299 : run1000 Go.Proofs.Ythcdiaahpodkoaa.pair3Drawn.d299 = true := by kernel_rfl
set_option maxRecDepth 100000 in
theorem r1001_d299 : run1001 Go.Proofs.Ythcdiaahpodkoaa.pair3Drawn.d299 = true := by kernel_rfl
set_option maxRecDepth 100000 in
theorem r1000_d303 : run1000 Go.Proofs.Ythcdiaahpodkoaa.pair3Drawn.d303 = true := by kernel_rfl
set_option maxRecDepth 100000 in
theorem r1001_d303 : run1001 Go.Proofs.Ythcdiaahpodkoaa.pair3Drawn.d303 = true := by kernel_rfl
set_option maxRecDepth 100000 in
theorem r1000_d307 : run1000 Go.Proofs.Ythcdiaahpodkoaa.pair3Drawn.d307 = true := by kernel_rfl
set_option maxRecDepth 100000 in
theorem r1001_d307 : run1001 Go.Proofs.Ythcdiaahpodkoaa.pair3Drawn.d307 = true := by kernel_rfl
set_option maxRecDepth 100000 in
theorem r1000_d311 : run1000 Go.Proofs.Ythcdiaahpodkoaa.pair3Drawn.d311 = true := by kernel_rfl
set_option maxRecDepth 100000 in
theorem r1001_d311 : run1001 Go.Proofs.Ythcdiaahpodkoaa.pair3Drawn.d311 = true := by kernel_rfl
set_option maxRecDepth 100000 in
theorem r1000_d315 : run1000 Go.Proofs.Ythcdiaahpodkoaa.pair3Drawn.d315 = true := by kernel_rfl
set_option maxRecDepth 100000 in
theorem r1001_d315 : run1001 Go.Proofs.Ythcdiaahpodkoaa.pair3Drawn.d315 = true := by kernel_rfl
set_option maxRecDepth 100000 in
theorem r1000_d319 : run1000 Go.Proofs.Ythcdiaahpodkoaa.pair3Drawn.d319 = true := by kernel_rfl
set_option maxRecDepth 100000 in
theorem r1001_d319 : run1001 Go.Proofs.Ythcdiaahpodkoaa.pair3Drawn.d319 = true := by kernel_rfl
set_option maxRecDepth 100000 in
theorem r1000_d323 : run1000 Go.Proofs.Ythcdiaahpodkoaa.pair3Drawn.d323 = true := by kernel_rfl
set_option maxRecDepth 100000 in
theorem r1001_d323 : run1001 Go.Proofs.Ythcdiaahpodkoaa.pair3Drawn.d323 = true := by kernel_rfl
set_option maxRecDepth 100000 in
theorem r1000_d327 : run1000 Go.Proofs.Ythcdiaahpodkoaa.pair3Drawn.d327 = true := by kernel_rfl
set_option maxRecDepth 100000 in
theorem r1001_d327 : run1001 Go.Proofs.Ythcdiaahpodkoaa.pair3Drawn.d327 = true := by kernel_rfl
set_option maxRecDepth 100000 in
theorem r1000_d331 : run1000 Go.Proofs.Ythcdiaahpodkoaa.pair3Drawn.d331 = true := by kernel_rfl
set_option maxRecDepth 100000 in
theorem r1001_d331 : run1001 Go.Proofs.Ythcdiaahpodkoaa.pair3Drawn.d331 = true := by kernel_rfl
set_option maxRecDepth 100000 in
theorem r1000_d335 : run1000 Go.Proofs.Ythcdiaahpodkoaa.pair3Drawn.d335 = true := by kernel_rfl
set_option maxRecDepth 100000 in
theorem r1001_d335 : run1001 Go.Proofs.Ythcdiaahpodkoaa.pair3Drawn.d335 = true := by kernel_rfl
set_option maxRecDepth 100000 in
theorem r1000_d339 : run1000 Go.Proofs.Ythcdiaahpodkoaa.pair3Drawn.d339 = true := by kernel_rfl
set_option maxRecDepth 100000 in
theorem r1001_d339 : run1001 Go.Proofs.Ythcdiaahpodkoaa.pair3Drawn.d339 = true := by kernel_rfl
set_option maxRecDepth 100000 in
theorem r1000_d343 : run1000 Go.Proofs.Ythcdiaahpodkoaa.pair3Drawn.d343 = true := by kernel_rfl
set_option maxRecDepth 100000 in
theorem r1001_d343 : run1001 Go.Proofs.Ythcdiaahpodkoaa.pair3Drawn.d343 = true := by kernel_rfl
set_option maxRecDepth 100000 in
theorem r1000_d347 : run1000 Go.Proofs.Ythcdiaahpodkoaa.pair3Drawn.d347 = true := by kernel_rfl
set_option maxRecDepth 100000 in
theorem r1001_d347 : run1001 Go.Proofs.Ythcdiaahpodkoaa.pair3Drawn.d347 = true := by kernel_rfl
set_option maxRecDepth 100000 in
theorem r1000_d351 : run1000 Go.Proofs.Ythcdiaahpodkoaa.pair3Drawn.d351 = true := by kernel_rfl
set_option maxRecDepth 100000 in
theorem r1001_d351 : run1001 Go.Proofs.Ythcdiaahpodkoaa.pair3Drawn.d351 = true := by kernel_rfl
set_option maxRecDepth 100000 in
theorem r1000_d355 : run1000 Go.Proofs.Ythcdiaahpodkoaa.pair3Drawn.d355 = true := by kernel_rfl
set_option maxRecDepth 100000 in
theorem r1001_d355 : run1001 Go.Proofs.Ythcdiaahpodkoaa.pair3Drawn.d355 = true := by kernel_rfl
set_option maxRecDepth 100000 in
theorem r1000_d359 : run1000 Go.Proofs.Ythcdiaahpodkoaa.pair3Drawn.d359 = true := by kernel_rfl
set_option maxRecDepth 100000 in
theorem r1001_d359 : run1001 Go.Proofs.Ythcdiaahpodkoaa.pair3Drawn.d359 = true := by kernel_rfl
set_option maxRecDepth 100000 in
theorem r1000_d363 : run1000 Go.Proofs.Ythcdiaahpodkoaa.pair3Drawn.d363 = true := by kernel_rfl
set_option maxRecDepth 100000 in
theorem r1001_d363 : run1001 Go.Proofs.Ythcdiaahpodkoaa.pair3Drawn.d363 = true := by kernel_rfl
set_option maxRecDepth 100000 in
theorem r1000_d367 : run1000 Go.Proofs.Ythcdiaahpodkoaa.pair3Drawn.d367 = true := by kernel_rfl
set_option maxRecDepth 100000 in
theorem r1001_d367 : run1001 Go.Proofs.Ythcdiaahpodkoaa.pair3Drawn.d367 = true := by kernel_rfl
set_option maxRecDepth 100000 in
theorem r1000_d371 : run1000 Go.Proofs.Ythcdiaahpodkoaa.pair3Drawn.d371 = true := by kernel_rfl
set_option maxRecDepth 100000 in
theorem r1001_d371 : run1001 Go.Proofs.Ythcdiaahpodkoaa.pair3Drawn.d371 = true := by kernel_rfl
set_option maxRecDepth 100000 in
theorem r1000_d375 : run1000 Go.Proofs.Ythcdiaahpodkoaa.pair3Drawn.d375 = true := by kernel_rfl
set_option maxRecDepth 100000 in
theorem r1001_d375 : run1001 Go.Proofs.Ythcdiaahpodkoaa.pair3Drawn.d375 = true := by kernel_rfl
set_option maxRecDepth 100000 in
theorem r1000_d379 : run1000 Go.Proofs.Ythcdiaahpodkoaa.pair3Drawn.d379 = true := by kernel_rfl
set_option maxRecDepth 100000 in
theorem r1001_d379 : run1001 Go.Proofs.Ythcdiaahpodkoaa.pair3Drawn.d379 = true := by kernel_rfl
set_option maxRecDepth 100000 in
theorem r1000_d383 : run1000 Go.Proofs.Ythcdiaahpodkoaa.pair3Drawn.d383 = true := by kernel_rfl
set_option maxRecDepth 100000 in
theorem r1001_d383 : run1001 Go.Proofs.Ythcdiaahpodkoaa.pair3Drawn.d383 = true := by kernel_rfl
set_option maxRecDepth 100000 in
theorem r1000_d387 : run1000 Go.Proofs.Ythcdiaahpodkoaa.pair3Drawn.d387 = true := by kernel_rfl
set_option maxRecDepth 100000 in
theorem r1001_d387 : run1001 Go.Proofs.Ythcdiaahpodkoaa.pair3Drawn.d387 = true := by kernel_rfl
set_option maxRecDepth 100000 in
theorem r1000_d391 : run1000 Go.Proofs.Ythcdiaahpodkoaa.pair3Drawn.d391 = true := by kernel_rfl
set_option maxRecDepth 100000 in
theorem r1001_d391 : run1001 Go.Proofs.Ythcdiaahpodkoaa.pair3Drawn.d391 = true := by kernel_rfl
set_option maxRecDepth 100000 in
theorem r1000_d395 : run1000 Go.Proofs.Ythcdiaahpodkoaa.pair3Drawn.d395 = true := by kernel_rfl
set_option maxRecDepth 100000 in
theorem r1001_d395 : run1001 Go.Proofs.Ythcdiaahpodkoaa.pair3Drawn.d395 = true := by kernel_rfl
set_option maxRecDepth 100000 in
theorem r1000_d399 : run1000 Go.Proofs.Ythcdiaahpodkoaa.pair3Drawn.d399 = true := by kernel_rfl
set_option maxRecDepth 100000 in
theorem r1001_d399 : run1001 Go.Proofs.Ythcdiaahpodkoaa.pair3Drawn.d399 = true := by kernel_rfl
set_option maxRecDepth 100000 in
theorem r1000_d403 : run1000 Go.Proofs.Ythcdiaahpodkoaa.pair3Drawn.d403 = true := by kernel_rfl
set_option maxRecDepth 100000 in
theorem r1001_d403 : run1001 Go.Proofs.Ythcdiaahpodkoaa.pair3Drawn.d403 = true := by kernel_rfl
set_option maxRecDepth 100000 in
theorem r1000_d407 : run1000 Go.Proofs.Ythcdiaahpodkoaa.pair3Drawn.d407 = true := by kernel_rfl
set_option maxRecDepth 100000 in
theorem r1001_d407 : run1001 Go.Proofs.Ythcdiaahpodkoaa.pair3Drawn.d407 = true := by kernel_rfl
set_option maxRecDepth 100000 in
theorem r1000_d411 : run1000 Go.Proofs.Ythcdiaahpodkoaa.pair3Drawn.d411 = true := by kernel_rfl
set_option maxRecDepth 100000 in
theorem r1001_d411 : run1001 Go.Proofs.Ythcdiaahpodkoaa.pair3Drawn.d411 = true := by kernel_rfl
set_option maxRecDepth 100000 in
theorem r1000_d415 : run1000 Go.Proofs.Ythcdiaahpodkoaa.pair3Drawn.d415 = true := by kernel_rfl
set_option maxRecDepth 100000 in
theorem r1001_d415 : run1001 Go.Proofs.Ythcdiaahpodkoaa.pair3Drawn.d415 = true := by kernel_rfl
set_option maxRecDepth 100000 in
theorem r1000_d419 : run1000 Go.Proofs.Ythcdiaahpodkoaa.pair3Drawn.d419 = true := by kernel_rfl
set_option maxRecDepth 100000 in
theorem r1001_d419 : run1001 Go.Proofs.Ythcdiaahpodkoaa.pair3Drawn.d419 = true := by kernel_rfl
set_option maxRecDepth 100000 in
theorem r1000_d423 : run1000 Go.Proofs.Ythcdiaahpodkoaa.pair3Drawn.d423 = true := by kernel_rfl
set_option maxRecDepth 100000 in
theorem r1001_d423 : run1001 Go.Proofs.Ythcdiaahpodkoaa.pair3Drawn.d423 = true := by kernel_rfl
set_option maxRecDepth 100000 in
theorem r1000_d427 : run1000 Go.Proofs.Ythcdiaahpodkoaa.pair3Drawn.d427 = true := by kernel_rfl
set_option maxRecDepth 100000 in
theorem r1001_d427 : run1001 Go.Proofs.Ythcdiaahpodkoaa.pair3Drawn.d427 = true := by kernel_rfl
set_option maxRecDepth 100000 in
theorem r1000_d431 : run1000 Go.Proofs.Ythcdiaahpodkoaa.pair3Drawn.d431 = true := by kernel_rfl
set_option maxRecDepth 100000 in
theorem r1001_d431 : run1001 Go.Proofs.Ythcdiaahpodkoaa.pair3Drawn.d431 = true := by kernel_rfl
set_option maxRecDepth 100000 in
theorem r1000_d435 : run1000 Go.Proofs.Ythcdiaahpodkoaa.pair3Drawn.d435 = true := by kernel_rfl
set_option maxRecDepth 100000 in
theorem r1001_d435 : run1001 Go.Proofs.Ythcdiaahpodkoaa.pair3Drawn.d435 = true := by kernel_rfl
set_option maxRecDepth 100000 in
theorem r1000_d439 : run1000 Go.Proofs.Ythcdiaahpodkoaa.pair3Drawn.d439 = true := by kernel_rfl
set_option maxRecDepth 100000 in
theorem r1001_d439 : run1001 Go.Proofs.Ythcdiaahpodkoaa.pair3Drawn.d439 = true := by kernel_rfl
set_option maxRecDepth 100000 in
theorem r1000_d443 : run1000 Go.Proofs.Ythcdiaahpodkoaa.pair3Drawn.d443 = true := by kernel_rfl
set_option maxRecDepth 100000 in
theorem r1001_d443 : run1001 Go.Proofs.Ythcdiaahpodkoaa.pair3Drawn.d443 = true := by kernel_rfl
set_option maxRecDepth 100000 in
theorem r1000_d447 : run1000 Go.Proofs.Ythcdiaahpodkoaa.pair3Drawn.d447 = true := by kernel_rfl
set_option maxRecDepth 100000 in
theorem r1001_d447 : run1001 Go.Proofs.Ythcdiaahpodkoaa.pair3Drawn.d447 = true := by kernel_rfl
set_option maxRecDepth 100000 in
theorem r1000_d451 : run1000 Go.Proofs.Ythcdiaahpodkoaa.pair3Drawn.d451 = true := by kernel_rfl
set_option maxRecDepth 100000 in
theorem r1001_d451 : run1001 Go.Proofs.Ythcdiaahpodkoaa.pair3Drawn.d451 = true := by kernel_rfl
set_option maxRecDepth 100000 in
theorem r1000_d455 : run1000 Go.Proofs.Ythcdiaahpodkoaa.pair3Drawn.d455 = true := by kernel_rfl
set_option maxRecDepth 100000 in
theorem r1001_d455 : run1001 Go.Proofs.Ythcdiaahpodkoaa.pair3Drawn.d455 = true := by kernel_rfl
set_option maxRecDepth 100000 in
theorem r1000_d459 : run1000 Go.Proofs.Ythcdiaahpodkoaa.pair3Drawn.d459 = true := by kernel_rfl
set_option maxRecDepth 100000 in
theorem r1001_d459 : run1001 Go.Proofs.Ythcdiaahpodkoaa.pair3Drawn.d459 = true := by kernel_rfl
set_option maxRecDepth 100000 in
theorem r1000_d463 : run1000 Go.Proofs.Ythcdiaahpodkoaa.pair3Drawn.d463 = true := by kernel_rfl
set_option maxRecDepth 100000 in
theorem r1001_d463 : run1001 Go.Proofs.Ythcdiaahpodkoaa.pair3Drawn.d463 = true := by kernel_rfl
set_option maxRecDepth 100000 in
theorem r1000_d467 : run1000 Go.Proofs.Ythcdiaahpodkoaa.pair3Drawn.d467 = true := by kernel_rfl
set_option maxRecDepth 100000 in
theorem r1001_d467 : run1001 Go.Proofs.Ythcdiaahpodkoaa.pair3Drawn.d467 = true := by kernel_rfl
set_option maxRecDepth 100000 in
theorem r1000_d471 : run1000 Go.Proofs.Ythcdiaahpodkoaa.pair3Drawn.d471 = true := by kernel_rfl
set_option maxRecDepth 100000 in
theorem r1001_d471 : run1001 Go.Proofs.Ythcdiaahpodkoaa.pair3Drawn.d471 = true := by kernel_rfl
set_option maxRecDepth 100000 in
theorem r1000_d475 : run1000 Go.Proofs.Ythcdiaahpodkoaa.pair3Drawn.d475 = true := by kernel_rfl
set_option maxRecDepth 100000 in
theorem r1001_d475 : run1001 Go.Proofs.Ythcdiaahpodkoaa.pair3Drawn.d475 = true := by kernel_rfl
set_option maxRecDepth 100000 in
theorem r1000_d479 : run1000 Go.Proofs.Ythcdiaahpodkoaa.pair3Drawn.d479 = true := by kernel_rfl
set_option maxRecDepth 100000 in
theorem r1001_d479 : run1001 Go.Proofs.Ythcdiaahpodkoaa.pair3Drawn.d479 = true := by kernel_rfl
set_option maxRecDepth 100000 in
theorem r1000_d483 : run1000 Go.Proofs.Ythcdiaahpodkoaa.pair3Drawn.d483 = true := by kernel_rfl
set_option maxRecDepth 100000 in
theorem r1001_d483 : run1001 Go.Proofs.Ythcdiaahpodkoaa.pair3Drawn.d483 = true := by kernel_rfl
set_option maxRecDepth 100000 in
theorem r1000_d487 : run1000 Go.Proofs.Ythcdiaahpodkoaa.pair3Drawn.d487 = true := by kernel_rfl
set_option maxRecDepth 100000 in
theorem r1001_d487 : run1001 Go.Proofs.Ythcdiaahpodkoaa.pair3Drawn.d487 = true := by kernel_rfl
set_option maxRecDepth 100000 in
theorem r1000_d491 : run1000 Go.Proofs.Ythcdiaahpodkoaa.pair3Drawn.d491 = true := by kernel_rfl
set_option maxRecDepth 100000 in
theorem r1001_d491 : run1001 Go.Proofs.Ythcdiaahpodkoaa.pair3Drawn.d491 = true := by kernel_rfl
set_option maxRecDepth 100000 in
theorem r1000_d495 : run1000 Go.Proofs.Ythcdiaahpodkoaa.pair3Drawn.d495 = true := by kernel_rfl
set_option maxRecDepth 100000 in
theorem r1001_d495 : run1001 Go.Proofs.Ythcdiaahpodkoaa.pair3Drawn.d495 = true := by kernel_rfl
set_option maxRecDepth 100000 in
theorem r1000_d499 : run1000 Go.Proofs.Ythcdiaahpodkoaa.pair3Drawn.d499 = true := by kernel_rfl
set_option maxRecDepth 100000 in
theorem r1001_d499 : run1001 Go.Proofs.Ythcdiaahpodkoaa.pair3Drawn.d499 = true := by kernel_rfl
set_option maxRecDepth 100000 in
theorem r1000_d503 : run1000 Go.Proofs.Ythcdiaahpodkoaa.pair3Drawn.d503 = true := by kernel_rfl
set_option maxRecDepth 100000 in
theorem r1001_d503 : run1001 Go.Proofs.Ythcdiaahpodkoaa.pair3Drawn.d503 = true := by kernel_rfl
set_option maxRecDepth 100000 in
theorem r1000_d507 : run1000 Go.Proofs.Ythcdiaahpodkoaa.pair3Drawn.d507 = true := by kernel_rfl
set_option maxRecDepth 100000 in
theorem r1001_d507 : run1001 Go.Proofs.Ythcdiaahpodkoaa.pair3Drawn.d507 = true := by kernel_rfl
set_option maxRecDepth 100000 in
theorem r1000_d511 : run1000 Go.Proofs.Ythcdiaahpodkoaa.pair3Drawn.d511 = true := by kernel_rfl
set_option maxRecDepth 100000 in
theorem r1001_d511 : run1001 Go.Proofs.Ythcdiaahpodkoaa.pair3Drawn.d511 = true := by kernel_rfl
set_option maxRecDepth 100000 in
theorem r1000_d515 : run1000 Go.Proofs.Ythcdiaahpodkoaa.pair3Drawn.d515 = true := by kernel_rfl
set_option maxRecDepth 100000 in
theorem r1001_d515 : run1001 Go.Proofs.Ythcdiaahpodkoaa.pair3Drawn.d515 = true := by kernel_rfl
set_option maxRecDepth 100000 in
theorem r1000_d519 : run1000 Go.Proofs.Ythcdiaahpodkoaa.pair3Drawn.d519 = true := by kernel_rfl
set_option maxRecDepth 100000 in
theorem r1001_d519 : run1001 Go.Proofs.Ythcdiaahpodkoaa.pair3Drawn.d519 = true := by kernel_rfl
set_option maxRecDepth 100000 in
theorem r1000_d523 : run1000 Go.Proofs.Ythcdiaahpodkoaa.pair3Drawn.d523 = true := by kernel_rfl
set_option maxRecDepth 100000 in
theorem r1001_d523 : run1001 Go.Proofs.Ythcdiaahpodkoaa.pair3Drawn.d523 = true := by kernel_rfl
set_option maxRecDepth 100000 in
theorem r1000_d527 : run1000 Go.Proofs.Ythcdiaahpodkoaa.pair3Drawn.d527 = true := by kernel_rfl
set_option maxRecDepth 100000 in
theorem r1001_d527 : run1001 Go.Proofs.Ythcdiaahpodkoaa.pair3Drawn.d527 = true := by kernel_rfl
set_option maxRecDepth 100000 in
theorem r1000_d531 : run1000 Go.Proofs.Ythcdiaahpodkoaa.pair3Drawn.d531 = true := by kernel_rfl
set_option maxRecDepth 100000 in
theorem r1001_d531 : run1001 Go.Proofs.Ythcdiaahpodkoaa.pair3Drawn.d531 = true := by kernel_rfl
set_option maxRecDepth 100000 in
theorem r1000_d535 : run1000 Go.Proofs.Ythcdiaahpodkoaa.pair3Drawn.d535 = true := by kernel_rfl
set_option maxRecDepth 100000 in
theorem r1001_d535 : run1001 Go.Proofs.Ythcdiaahpodkoaa.pair3Drawn.d535 = true := by kernel_rfl
set_option maxRecDepth 100000 in
theorem r1000_d539 : run1000 Go.Proofs.Ythcdiaahpodkoaa.pair3Drawn.d539 = true := by kernel_rfl
set_option maxRecDepth 100000 in
theorem r1001_d539 : run1001 Go.Proofs.Ythcdiaahpodkoaa.pair3Drawn.d539 = true := by kernel_rfl
set_option maxRecDepth 100000 in
theorem r1000_d543 : run1000 Go.Proofs.Ythcdiaahpodkoaa.pair3Drawn.d543 = true := by kernel_rfl
set_option maxRecDepth 100000 in
theorem r1001_d543 : run1001 Go.Proofs.Ythcdiaahpodkoaa.pair3Drawn.d543 = true := by kernel_rfl
set_option maxRecDepth 100000 in
theorem r1000_d547 : run1000 Go.Proofs.Ythcdiaahpodkoaa.pair3Drawn.d547 = true := by kernel_rfl
set_option maxRecDepth 100000 in
theorem r1001_d547 : run1001 Go.Proofs.Ythcdiaahpodkoaa.pair3Drawn.d547 = true := by kernel_rfl
set_option maxRecDepth 100000 in
theorem r1000_d551 : run1000 Go.Proofs.Ythcdiaahpodkoaa.pair3Drawn.d551 = true := by kernel_rfl
set_option maxRecDepth 100000 in
theorem r1001_d551 : run1001 Go.Proofs.Ythcdiaahpodkoaa.pair3Drawn.d551 = true := by kernel_rfl
set_option maxRecDepth 100000 in
theorem r1000_d555 : run1000 Go.Proofs.Ythcdiaahpodkoaa.pair3Drawn.d555 = true := by kernel_rfl
set_option maxRecDepth 100000 in
theorem r1001_d555 : run1001 Go.Proofs.Ythcdiaahpodkoaa.pair3Drawn.d555 = true := by kernel_rfl
set_option maxRecDepth 100000 in
theorem r1000_d559 : run1000 Go.Proofs.Ythcdiaahpodkoaa.pair3Drawn.d559 = true := by kernel_rfl
set_option maxRecDepth 100000 in
theorem r1001_d559 : run1001 Go.Proofs.Ythcdiaahpodkoaa.pair3Drawn.d559 = true := by kernel_rfl
set_option maxRecDepth 100000 in
theorem r1000_d563 : run1000 Go.Proofs.Ythcdiaahpodkoaa.pair3Drawn.d563 = true := by kernel_rfl
set_option maxRecDepth 100000 in
theorem r1001_d563 : run1001 Go.Proofs.Ythcdiaahpodkoaa.pair3Drawn.d563 = true := by kernel_rfl
set_option maxRecDepth 100000 in
theorem r1000_d567 : run1000 Go.Proofs.Ythcdiaahpodkoaa.pair3Drawn.d567 = true := by kernel_rfl
set_option maxRecDepth 100000 in
theorem r1001_d567 : run1001 Go.Proofs.Ythcdiaahpodkoaa.pair3Drawn.d567 = true := by kernel_rfl
set_option maxRecDepth 100000 in
theorem r1000_d571 : run1000 Go.Proofs.Ythcdiaahpodkoaa.pair3Drawn.d571 = true := by kernel_rfl
set_option maxRecDepth 100000 in
theorem r1001_d571 : run1001 Go.Proofs.Ythcdiaahpodkoaa.pair3Drawn.d571 = true := by kernel_rfl
set_option maxRecDepth 100000 in
theorem r1000_d575 : run1000 Go.Proofs.Ythcdiaahpodkoaa.pair3Drawn.d575 = true := by kernel_rfl
set_option maxRecDepth 100000 in
theorem r1001_d575 : run1001 Go.Proofs.Ythcdiaahpodkoaa.pair3Drawn.d575 = true := by kernel_rfl
set_option maxRecDepth 100000 in
theorem r1000_d579 : run1000 Go.Proofs.Ythcdiaahpodkoaa.pair3Drawn.d579 = true := by kernel_rfl
set_option maxRecDepth 100000 in
theorem r1001_d579 : run1001 Go.Proofs.Ythcdiaahpodkoaa.pair3Drawn.d579 = true := by kernel_rfl
set_option maxRecDepth 100000 in
theorem r1000_d583 : run1000 Go.Proofs.Ythcdiaahpodkoaa.pair3Drawn.d583 = true := by kernel_rfl
set_option maxRecDepth 100000 in
theorem r1001_d583 : run1001 Go.Proofs.Ythcdiaahpodkoaa.pair3Drawn.d583 = true := by kernel_rfl
set_option maxRecDepth 100000 in
theorem r1000_d587 : run1000 Go.Proofs.Ythcdiaahpodkoaa.pair3Drawn.d587 = true := by kernel_rfl
set_option maxRecDepth 100000 in
theorem r1001_d587 : run1001 Go.Proofs.Ythcdiaahpodkoaa.pair3Drawn.d587 = true := by kernel_rfl
set_option maxRecDepth 100000 in
theorem r1000_d591 : run1000 Go.Proofs.Ythcdiaahpodkoaa.pair3Drawn.d591 = true := by kernel_rfl
set_option maxRecDepth 100000 in
theorem r1001_d591 : run1001 Go.Proofs.Ythcdiaahpodkoaa.pair3Drawn.d591 = true := by kernel_rfl
set_option maxRecDepth 100000 in
theorem r1000_d595 : run1000 Go.Proofs.Ythcdiaahpodkoaa.pair3Drawn.d595 = true := by kernel_rfl
set_option maxRecDepth 100000 in
theorem r1001_d595 : run1001 Go.Proofs.Ythcdiaahpodkoaa.pair3Drawn.d595 = true := by kernel_rfl
set_option maxRecDepth 100000 in
theorem r1000_d599 : run1000 Go.Proofs.Ythcdiaahpodkoaa.pair3Drawn.d599 = true := by kernel_rfl
set_option maxRecDepth 100000 in
theorem r1001_d599 : run1001 Go.Proofs.Ythcdiaahpodkoaa.pair3Drawn.d599 = true := by kernel_rfl
set_option maxRecDepth 100000 in
theorem r1000_d603 : run1000 Go.Proofs.Ythcdiaahpodkoaa.pair3Drawn.d603 = true := by kernel_rfl
set_option maxRecDepth 100000 in
theorem r1001_d603 : run1001 Go.Proofs.Ythcdiaahpodkoaa.pair3Drawn.d603 = true := by kernel_rfl
set_option maxRecDepth 100000 in
theorem r1000_d607 : run1000 Go.Proofs.Ythcdiaahpodkoaa.pair3Drawn.d607 = true := by kernel_rfl
set_option maxRecDepth 100000 in
theorem r1001_d607 : run1001 Go.Proofs.Ythcdiaahpodkoaa.pair3Drawn.d607 = true := by kernel_rfl
set_option maxRecDepth 100000 in
theorem r1000_d611 : run1000 Go.Proofs.Ythcdiaahpodkoaa.pair3Drawn.d611 = true := by kernel_rfl
set_option maxRecDepth 100000 in
theorem r1001_d611 : run1001 Go.Proofs.Ythcdiaahpodkoaa.pair3Drawn.d611 = true := by kernel_rfl
set_option maxRecDepth 100000 in
theorem r1000_d615 : run1000 Go.Proofs.Ythcdiaahpodkoaa.pair3Drawn.d615 = true := by kernel_rfl
set_option maxRecDepth 100000 in
theorem r1001_d615 : run1001 Go.Proofs.Ythcdiaahpodkoaa.pair3Drawn.d615 = true := by kernel_rfl
set_option maxRecDepth 100000 in
theorem r1000_d619 : run1000 Go.Proofs.Ythcdiaahpodkoaa.pair3Drawn.d619 = true := by kernel_rfl
set_option maxRecDepth 100000 in
theorem r1001_d619 : run1001 Go.Proofs.Ythcdiaahpodkoaa.pair3Drawn.d619 = true := by kernel_rfl
set_option maxRecDepth 100000 in
theorem r1000_d623 : run1000 Go.Proofs.Ythcdiaahpodkoaa.pair3Drawn.d623 = true := by kernel_rfl
set_option maxRecDepth 100000 in
theorem r1001_d623 : run1001 Go.Proofs.Ythcdiaahpodkoaa.pair3Drawn.d623 = true := by kernel_rfl
set_option maxRecDepth 100000 in
theorem r1000_d627 : run1000 Go.Proofs.Ythcdiaahpodkoaa.pair3Drawn.d627 = true := by kernel_rfl
set_option maxRecDepth 100000 in
theorem r1001_d627 : run1001 Go.Proofs.Ythcdiaahpodkoaa.pair3Drawn.d627 = true := by kernel_rfl
set_option maxRecDepth 100000 in
theorem r1000_d631 : run1000 Go.Proofs.Ythcdiaahpodkoaa.pair3Drawn.d631 = true := by kernel_rfl
set_option maxRecDepth 100000 in
theorem r1001_d631 : run1001 Go.Proofs.Ythcdiaahpodkoaa.pair3Drawn.d631 = true := by kernel_rfl
set_option maxRecDepth 100000 in
theorem r1000_d635 : run1000 Go.Proofs.Ythcdiaahpodkoaa.pair3Drawn.d635 = true := by kernel_rfl
set_option maxRecDepth 100000 in
theorem r1001_d635 : run1001 Go.Proofs.Ythcdiaahpodkoaa.pair3Drawn.d635 = true := by kernel_rfl
set_option maxRecDepth 100000 in
theorem r1000_d639 : run1000 Go.Proofs.Ythcdiaahpodkoaa.pair3Drawn.d639 = true := by kernel_rfl
set_option maxRecDepth 100000 in
theorem r1001_d639 : run1001 Go.Proofs.Ythcdiaahpodkoaa.pair3Drawn.d639 = true := by kernel_rfl
set_option maxRecDepth 100000 in
theorem r1000_d643 : run1000 Go.Proofs.Ythcdiaahpodkoaa.pair3Drawn.d643 = true := by kernel_rfl
set_option maxRecDepth 100000 in
theorem r1001_d643 : run1001 Go.Proofs.Ythcdiaahpodkoaa.pair3Drawn.d643 = true := by kernel_rfl
set_option maxRecDepth 100000 in
theorem r1000_d647 : run1000 Go.Proofs.Ythcdiaahpodkoaa.pair3Drawn.d647 = true := by kernel_rfl
set_option maxRecDepth 100000 in
theorem r1001_d647 : run1001 Go.Proofs.Ythcdiaahpodkoaa.pair3Drawn.d647 = true := by kernel_rfl
set_option maxRecDepth 100000 in
theorem r1000_d651 : run1000 Go.Proofs.Ythcdiaahpodkoaa.pair3Drawn.d651 = true := by kernel_rfl
set_option maxRecDepth 100000 in
theorem r1001_d651 : run1001 Go.Proofs.Ythcdiaahpodkoaa.pair3Drawn.d651 = true := by kernel_rfl
set_option maxRecDepth 100000 in
theorem r1000_d655 : run1000 Go.Proofs.Ythcdiaahpodkoaa.pair3Drawn.d655 = true := by kernel_rfl
set_option maxRecDepth 100000 in
theorem r1001_d655 : run1001 Go.Proofs.Ythcdiaahpodkoaa.pair3Drawn.d655 = true := by kernel_rfl
set_option maxRecDepth 100000 in
theorem r1000_d659 : run1000 Go.Proofs.Ythcdiaahpodkoaa.pair3Drawn.d659 = true := by kernel_rfl
set_option maxRecDepth 100000 in
theorem r1001_d659 : run1001 Go.Proofs.Ythcdiaahpodkoaa.pair3Drawn.d659 = true := by kernel_rfl
set_option maxRecDepth 100000 in
theorem r1000_d663 : run1000 Go.Proofs.Ythcdiaahpodkoaa.pair3Drawn.d663 = true := by kernel_rfl
set_option maxRecDepth 100000 in
theorem r1001_d663 : run1001 Go.Proofs.Ythcdiaahpodkoaa.pair3Drawn.d663 = true := by kernel_rfl
set_option maxRecDepth 100000 in
theorem r1000_d667 : run1000 Go.Proofs.Ythcdiaahpodkoaa.pair3Drawn.d667 = true := by kernel_rfl
set_option maxRecDepth 100000 in
theorem r1001_d667 : run1001 Go.Proofs.Ythcdiaahpodkoaa.pair3Drawn.d667 = true := by kernel_rfl
set_option maxRecDepth 100000 in
theorem r1000_d671 : run1000 Go.Proofs.Ythcdiaahpodkoaa.pair3Drawn.d671 = true := by kernel_rfl
set_option maxRecDepth 100000 in
theorem r1001_d671 : run1001 Go.Proofs.Ythcdiaahpodkoaa.pair3Drawn.d671 = true := by kernel_rfl
set_option maxRecDepth 100000 in
theorem r1000_d675 : run1000 Go.Proofs.Ythcdiaahpodkoaa.pair3Drawn.d675 = true := by kernel_rfl
set_option maxRecDepth 100000 in
theorem r1001_d675 : run1001 Go.Proofs.Ythcdiaahpodkoaa.pair3Drawn.d675 = true := by kernel_rfl
set_option maxRecDepth 100000 in
theorem r1000_d679 : run1000 Go.Proofs.Ythcdiaahpodkoaa.pair3Drawn.d679 = true := by kernel_rfl
set_option maxRecDepth 100000 in
theorem r1001_d679 : run1001 Go.Proofs.Ythcdiaahpodkoaa.pair3Drawn.d679 = true := by kernel_rfl
set_option maxRecDepth 100000 in
theorem r1000_d683 : run1000 Go.Proofs.Ythcdiaahpodkoaa.pair3Drawn.d683 = true := by kernel_rfl
set_option maxRecDepth 100000 in
theorem r1001_d683 : run1001 Go.Proofs.Ythcdiaahpodkoaa.pair3Drawn.d683 = true := by kernel_rfl
set_option maxRecDepth 100000 in
theorem r1000_d687 : run1000 Go.Proofs.Ythcdiaahpodkoaa.pair3Drawn.d687 = true := by kernel_rfl
set_option maxRecDepth 100000 in
theorem r1001_d687 : run1001 Go.Proofs.Ythcdiaahpodkoaa.pair3Drawn.d687 = true := by kernel_rfl
set_option maxRecDepth 100000 in
theorem r1000_d691 : run1000 Go.Proofs.Ythcdiaahpodkoaa.pair3Drawn.d691 = true := by kernel_rfl
set_option maxRecDepth 100000 in
theorem r1001_d691 : run1001 Go.Proofs.Ythcdiaahpodkoaa.pair3Drawn.d691 = true := by kernel_rfl
set_option maxRecDepth 100000 in
theorem r1000_d695 : run1000 Go.Proofs.Ythcdiaahpodkoaa.pair3Drawn.d695 = true := by kernel_rfl
set_option maxRecDepth 100000 in
theorem r1001_d695 : run1001 Go.Proofs.Ythcdiaahpodkoaa.pair3Drawn.d695 = true := by kernel_rfl
set_option maxRecDepth 100000 in
theorem r1000_d699 : run1000 Go.Proofs.Ythcdiaahpodkoaa.pair3Drawn.d699 = true := by kernel_rfl
set_option maxRecDepth 100000 in
theorem r1001_d699 : run1001 Go.Proofs.Ythcdiaahpodkoaa.pair3Drawn.d699 = true := by kernel_rfl
set_option maxRecDepth 100000 in
theorem r1000_d703 : run1000 Go.Proofs.Ythcdiaahpodkoaa.pair3Drawn.d703 = true := by kernel_rfl
set_option maxRecDepth 100000 in
theorem r1001_d703 : run1001 Go.Proofs.Ythcdiaahpodkoaa.pair3Drawn.d703 = true := by kernel_rfl
set_option maxRecDepth 100000 in
theorem r1000_d707 : run1000 Go.Proofs.Ythcdiaahpodkoaa.pair3Drawn.d707 = true := by kernel_rfl
set_option maxRecDepth 100000 in
theorem r1001_d707 : run1001 Go.Proofs.Ythcdiaahpodkoaa.pair3Drawn.d707 = true := by kernel_rfl
set_option maxRecDepth 100000 in
theorem r1000_d711 : run1000 Go.Proofs.Ythcdiaahpodkoaa.pair3Drawn.d711 = true := by kernel_rfl
set_option maxRecDepth 100000 in
theorem r1001_d711 : run1001 Go.Proofs.Ythcdiaahpodkoaa.pair3Drawn.d711 = true := by kernel_rfl
set_option maxRecDepth 100000 in
theorem r1000_d715 : run1000 Go.Proofs.Ythcdiaahpodkoaa.pair3Drawn.d715 = true := by kernel_rfl
set_option maxRecDepth 100000 in
theorem r1001_d715 : run1001 Go.Proofs.Ythcdiaahpodkoaa.pair3Drawn.d715 = true := by kernel_rfl
set_option maxRecDepth 100000 in
theorem r1000_d719 : run1000 Go.Proofs.Ythcdiaahpodkoaa.pair3Drawn.d719 = true := by kernel_rfl
set_option maxRecDepth 100000 in
theorem r1001_d719 : run1001 Go.Proofs.Ythcdiaahpodkoaa.pair3Drawn.d719 = true := by kernel_rfl
set_option maxRecDepth 100000 in
theorem r1000_d723 : run1000 Go.Proofs.Ythcdiaahpodkoaa.pair3Drawn.d723 = true := by kernel_rfl
set_option maxRecDepth 100000 in
theorem r1001_d723 : run1001 Go.Proofs.Ythcdiaahpodkoaa.pair3Drawn.d723 = true := by kernel_rfl
set_option maxRecDepth 100000 in
theorem r1000_d727 : run1000 Go.Proofs.Ythcdiaahpodkoaa.pair3Drawn.d727 = true := by kernel_rfl
set_option maxRecDepth 100000 in
theorem r1001_d727 : run1001 Go.Proofs.Ythcdiaahpodkoaa.pair3Drawn.d727 = true := by kernel_rfl
set_option maxRecDepth 100000 in
theorem r1000_d731 : run1000 Go.Proofs.Ythcdiaahpodkoaa.pair3Drawn.d731 = true := by kernel_rfl
set_option maxRecDepth 100000 in
theorem r1001_d731 : run1001 Go.Proofs.Ythcdiaahpodkoaa.pair3Drawn.d731 = true := by kernel_rfl
set_option maxRecDepth 100000 in
theorem r1000_d735 : run1000 Go.Proofs.Ythcdiaahpodkoaa.pair3Drawn.d735 = true := by kernel_rfl
set_option maxRecDepth 100000 in
theorem r1001_d735 : run1001 Go.Proofs.Ythcdiaahpodkoaa.pair3Drawn.d735 = true := by kernel_rfl
set_option maxRecDepth 100000 in
theorem r1000_d739 : run1000 Go.Proofs.Ythcdiaahpodkoaa.pair3Drawn.d739 = true := by kernel_rfl
set_option maxRecDepth 100000 in
theorem r1001_d739 : run1001 Go.Proofs.Ythcdiaahpodkoaa.pair3Drawn.d739 = true := by kernel_rfl
set_option maxRecDepth 100000 in
theorem r1000_d743 : run1000 Go.Proofs.Ythcdiaahpodkoaa.pair3Drawn.d743 = true := by kernel_rfl
set_option maxRecDepth 100000 in
theorem r1001_d743 : run1001 Go.Proofs.Ythcdiaahpodkoaa.pair3Drawn.d743 = true := by kernel_rfl
set_option maxRecDepth 100000 in
theorem r1000_d747 : run1000 Go.Proofs.Ythcdiaahpodkoaa.pair3Drawn.d747 = true := by kernel_rfl
set_option maxRecDepth 100000 in
theorem r1001_d747 : run1001 Go.Proofs.Ythcdiaahpodkoaa.pair3Drawn.d747 = true := by kernel_rfl
set_option maxRecDepth 100000 in
theorem r1000_d751 : run1000 Go.Proofs.Ythcdiaahpodkoaa.pair3Drawn.d751 = true := by kernel_rfl
set_option maxRecDepth 100000 in
theorem r1001_d751 : run1001 Go.Proofs.Ythcdiaahpodkoaa.pair3Drawn.d751 = true := by kernel_rfl
set_option maxRecDepth 100000 in
theorem r1000_d755 : run1000 Go.Proofs.Ythcdiaahpodkoaa.pair3Drawn.d755 = true := by kernel_rfl
set_option maxRecDepth 100000 in
theorem r1001_d755 : run1001 Go.Proofs.Ythcdiaahpodkoaa.pair3Drawn.d755 = true := by kernel_rfl
set_option maxRecDepth 100000 in
theorem r1000_d759 : run1000 Go.Proofs.Ythcdiaahpodkoaa.pair3Drawn.d759 = true := by kernel_rfl
set_option maxRecDepth 100000 in
theorem r1001_d759 : run1001 Go.Proofs.Ythcdiaahpodkoaa.pair3Drawn.d759 = true := by kernel_rfl
set_option maxRecDepth 100000 in
theorem r1000_d763 : run1000 Go.Proofs.Ythcdiaahpodkoaa.pair3Drawn.d763 = true := by kernel_rfl
set_option maxRecDepth 100000 in
theorem r1001_d763 : run1001 Go.Proofs.Ythcdiaahpodkoaa.pair3Drawn.d763 = true := by kernel_rfl
set_option maxRecDepth 100000 in
theorem r1000_d767 : run1000 Go.Proofs.Ythcdiaahpodkoaa.pair3Drawn.d767 = true := by kernel_rfl
set_option maxRecDepth 100000 in
theorem r1001_d767 : run1001 Go.Proofs.Ythcdiaahpodkoaa.pair3Drawn.d767 = true := by kernel_rfl
set_option maxRecDepth 100000 in
theorem r1000_d771 : run1000 Go.Proofs.Ythcdiaahpodkoaa.pair3Drawn.d771 = true := by kernel_rfl
set_option maxRecDepth 100000 in
theorem r1001_d771 : run1001 Go.Proofs.Ythcdiaahpodkoaa.pair3Drawn.d771 = true := by kernel_rfl
set_option maxRecDepth 100000 in
theorem r1000_d775 : run1000 Go.Proofs.Ythcdiaahpodkoaa.pair3Drawn.d775 = true := by kernel_rfl
set_option maxRecDepth 100000 in
theorem r1001_d775 : run1001 Go.Proofs.Ythcdiaahpodkoaa.pair3Drawn.d775 = true := by kernel_rfl
set_option maxRecDepth 100000 in
theorem r1000_d779 : run1000 Go.Proofs.Ythcdiaahpodkoaa.pair3Drawn.d779 = true := by kernel_rfl
set_option maxRecDepth 100000 in
theorem r1001_d779 : run1001 Go.Proofs.Ythcdiaahpodkoaa.pair3Drawn.d779 = true := by kernel_rfl
set_option maxRecDepth 100000 in
theorem r1000_d783 : run1000 Go.Proofs.Ythcdiaahpodkoaa.pair3Drawn.d783 = true := by kernel_rfl
set_option maxRecDepth 100000 in
theorem r1001_d783 : run1001 Go.Proofs.Ythcdiaahpodkoaa.pair3Drawn.d783 = true := by kernel_rfl
set_option maxRecDepth 100000 in
theorem r1000_d787 : run1000 Go.Proofs.Ythcdiaahpodkoaa.pair3Drawn.d787 = true := by kernel_rfl
set_option maxRecDepth 100000 in
theorem r1001_d787 : run1001 Go.Proofs.Ythcdiaahpodkoaa.pair3Drawn.d787 = true := by kernel_rfl
set_option maxRecDepth 100000 in
theorem r1000_d791 : run1000 Go.Proofs.Ythcdiaahpodkoaa.pair3Drawn.d791 = true := by kernel_rfl
set_option maxRecDepth 100000 in
theorem r1001_d791 : run1001 Go.Proofs.Ythcdiaahpodkoaa.pair3Drawn.d791 = true := by kernel_rfl
set_option maxRecDepth 100000 in
theorem r1000_d795 : run1000 Go.Proofs.Ythcdiaahpodkoaa.pair3Drawn.d795 = true := by kernel_rfl
set_option maxRecDepth 100000 in
theorem r1001_d795 : run1001 Go.Proofs.Ythcdiaahpodkoaa.pair3Drawn.d795 = true := by kernel_rfl
set_option maxRecDepth 100000 in
theorem r1000_d799 : run1000 Go.Proofs.Ythcdiaahpodkoaa.pair3Drawn.d799 = true := by kernel_rfl
set_option maxRecDepth 100000 in
theorem r1001_d799 : run1001 Go.Proofs.Ythcdiaahpodkoaa.pair3Drawn.d799 = true := by kernel_rfl
set_option maxRecDepth 100000 in
theorem r1000_d803 : run1000 Go.Proofs.Ythcdiaahpodkoaa.pair3Drawn.d803 = true := by kernel_rfl
set_option maxRecDepth 100000 in
theorem r1001_d803 : run1001 Go.Proofs.Ythcdiaahpodkoaa.pair3Drawn.d803 = true := by kernel_rfl
set_option maxRecDepth 100000 in
theorem r1000_d807 : run1000 Go.Proofs.Ythcdiaahpodkoaa.pair3Drawn.d807 = true := by kernel_rfl
set_option maxRecDepth 100000 in
theorem r1001_d807 : run1001 Go.Proofs.Ythcdiaahpodkoaa.pair3Drawn.d807 = true := by kernel_rfl
set_option maxRecDepth 100000 in
theorem r1000_d811 : run1000 Go.Proofs.Ythcdiaahpodkoaa.pair3Drawn.d811 = true := by kernel_rfl
set_option maxRecDepth 100000 in
theorem r1001_d811 : run1001 Go.Proofs.Ythcdiaahpodkoaa.pair3Drawn.d811 = true := by kernel_rfl
set_option maxRecDepth 100000 in
theorem r1000_d815 : run1000 Go.Proofs.Ythcdiaahpodkoaa.pair3Drawn.d815 = true := by kernel_rfl
set_option maxRecDepth 100000 in
theorem r1001_d815 : run1001 Go.Proofs.Ythcdiaahpodkoaa.pair3Drawn.d815 = true := by kernel_rfl
set_option maxRecDepth 100000 in
theorem r1000_d819 : run1000 Go.Proofs.Ythcdiaahpodkoaa.pair3Drawn.d819 = true := by kernel_rfl
set_option maxRecDepth 100000 in
theorem r1001_d819 : run1001 Go.Proofs.Ythcdiaahpodkoaa.pair3Drawn.d819 = true := by kernel_rfl
set_option maxRecDepth 100000 in
theorem r1000_d823 : run1000 Go.Proofs.Ythcdiaahpodkoaa.pair3Drawn.d823 = true := by kernel_rfl
set_option maxRecDepth 100000 in
theorem r1001_d823 : run1001 Go.Proofs.Ythcdiaahpodkoaa.pair3Drawn.d823 = true := by kernel_rfl
set_option maxRecDepth 100000 in
theorem r1000_d827 : run1000 Go.Proofs.Ythcdiaahpodkoaa.pair3Drawn.d827 = true := by kernel_rfl
set_option maxRecDepth 100000 in
theorem r1001_d827 : run1001 Go.Proofs.Ythcdiaahpodkoaa.pair3Drawn.d827 = true := by kernel_rfl
set_option maxRecDepth 100000 in
theorem r1000_d831 : run1000 Go.Proofs.Ythcdiaahpodkoaa.pair3Drawn.d831 = true := by kernel_rfl
set_option maxRecDepth 100000 in
theorem r1001_d831 : run1001 Go.Proofs.Ythcdiaahpodkoaa.pair3Drawn.d831 = true := by kernel_rfl
set_option maxRecDepth 100000 in
theorem r1000_d835 : run1000 Go.Proofs.Ythcdiaahpodkoaa.pair3Drawn.d835 = true := by kernel_rfl
set_option maxRecDepth 100000 in
theorem r1001_d835 : run1001 Go.Proofs.Ythcdiaahpodkoaa.pair3Drawn.d835 = true := by kernel_rfl
set_option maxRecDepth 100000 in
theorem r1000_d839 : run1000 Go.Proofs.Ythcdiaahpodkoaa.pair3Drawn.d839 = true := by kernel_rfl
set_option maxRecDepth 100000 in
theorem r1001_d839 : run1001 Go.Proofs.Ythcdiaahpodkoaa.pair3Drawn.d839 = true := by kernel_rfl
set_option maxRecDepth 100000 in
theorem r1000_d843 : run1000 Go.Proofs.Ythcdiaahpodkoaa.pair3Drawn.d843 = true := by kernel_rfl
set_option maxRecDepth 100000 in
theorem r1001_d843 : run1001 Go.Proofs.Ythcdiaahpodkoaa.pair3Drawn.d843 = true := by kernel_rfl
set_option maxRecDepth 100000 in
theorem r1000_d847 : run1000 Go.Proofs.Ythcdiaahpodkoaa.pair3Drawn.d847 = true := by kernel_rfl
set_option maxRecDepth 100000 in
theorem r1001_d847 : run1001 Go.Proofs.Ythcdiaahpodkoaa.pair3Drawn.d847 = true := by kernel_rfl
set_option maxRecDepth 100000 in
theorem r1000_d851 : run1000 Go.Proofs.Ythcdiaahpodkoaa.pair3Drawn.d851 = true := by kernel_rfl
set_option maxRecDepth 100000 in
theorem r1001_d851 : run1001 Go.Proofs.Ythcdiaahpodkoaa.pair3Drawn.d851 = true := by kernel_rfl
set_option maxRecDepth 100000 in
theorem r1000_d855 : run1000 Go.Proofs.Ythcdiaahpodkoaa.pair3Drawn.d855 = true := by kernel_rfl
set_option maxRecDepth 100000 in
theorem r1001_d855 : run1001 Go.Proofs.Ythcdiaahpodkoaa.pair3Drawn.d855 = true := by kernel_rfl
set_option maxRecDepth 100000 in
theorem r1000_d859 : run1000 Go.Proofs.Ythcdiaahpodkoaa.pair3Drawn.d859 = true := by kernel_rfl
set_option maxRecDepth 100000 in
theorem r1001_d859 : run1001 Go.Proofs.Ythcdiaahpodkoaa.pair3Drawn.d859 = true := by kernel_rfl
set_option maxRecDepth 100000 in
theorem r1000_d863 : run1000 Go.Proofs.Ythcdiaahpodkoaa.pair3Drawn.d863 = true := by kernel_rfl
set_option maxRecDepth 100000 in
theorem r1001_d863 : run1001 Go.Proofs.Ythcdiaahpodkoaa.pair3Drawn.d863 = true := by kernel_rfl
set_option maxRecDepth 100000 in
theorem r1000_d867 : run1000 Go.Proofs.Ythcdiaahpodkoaa.pair3Drawn.d867 = true := by kernel_rfl
set_option maxRecDepth 100000 in
theorem r1001_d867 : run1001 Go.Proofs.Ythcdiaahpodkoaa.pair3Drawn.d867 = true := by kernel_rfl
set_option maxRecDepth 100000 in
theorem r1000_d871 : run1000 Go.Proofs.Ythcdiaahpodkoaa.pair3Drawn.d871 = true := by kernel_rfl
set_option maxRecDepth 100000 in
theorem r1001_d871 : run1001 Go.Proofs.Ythcdiaahpodkoaa.pair3Drawn.d871 = true := by kernel_rfl
set_option maxRecDepth 100000 in
theorem r1000_d875 : run1000 Go.Proofs.Ythcdiaahpodkoaa.pair3Drawn.d875 = true := by kernel_rfl
set_option maxRecDepth 100000 in
theorem r1001_d875 : run1001 Go.Proofs.Ythcdiaahpodkoaa.pair3Drawn.d875 = true := by kernel_rfl
set_option maxRecDepth 100000 in
theorem r1000_d879 : run1000 Go.Proofs.Ythcdiaahpodkoaa.pair3Drawn.d879 = true := by kernel_rfl
set_option maxRecDepth 100000 in
theorem r1001_d879 : run1001 Go.Proofs.Ythcdiaahpodkoaa.pair3Drawn.d879 = true := by kernel_rfl
set_option maxRecDepth 100000 in
theorem r1000_d883 : run1000 Go.Proofs.Ythcdiaahpodkoaa.pair3Drawn.d883 = true := by kernel_rfl
set_option maxRecDepth 100000 in
theorem r1001_d883 : run1001 Go.Proofs.Ythcdiaahpodkoaa.pair3Drawn.d883 = true := by kernel_rfl
set_option maxRecDepth 100000 in
theorem r1000_d887 : run1000 Go.Proofs.Ythcdiaahpodkoaa.pair3Drawn.d887 = true := by kernel_rfl
set_option maxRecDepth 100000 in
theorem r1001_d887 : run1001 Go.Proofs.Ythcdiaahpodkoaa.pair3Drawn.d887 = true := by kernel_rfl
set_option maxRecDepth 100000 in
theorem r1000_d891 : run1000 Go.Proofs.Ythcdiaahpodkoaa.pair3Drawn.d891 = true := by kernel_rfl
set_option maxRecDepth 100000 in
theorem r1001_d891 : run1001 Go.Proofs.Ythcdiaahpodkoaa.pair3Drawn.d891 = true := by kernel_rfl
set_option maxRecDepth 100000 in
theorem r1000_d895 : run1000 Go.Proofs.Ythcdiaahpodkoaa.pair3Drawn.d895 = true := by kernel_rfl
set_option maxRecDepth 100000 in
theorem r1001_d895 : run1001 Go.Proofs.Ythcdiaahpodkoaa.pair3Drawn.d895 = true := by kernel_rfl
set_option maxRecDepth 100000 in
theorem r1000_d899 : run1000 Go.Proofs.Ythcdiaahpodkoaa.pair3Drawn.d899 = true := by kernel_rfl
set_option maxRecDepth 100000 in
theorem r1001_d899 : run1001 Go.Proofs.Ythcdiaahpodkoaa.pair3Drawn.d899 = true := by kernel_rfl
set_option maxRecDepth 100000 in
theorem r1000_d903 : run1000 Go.Proofs.Ythcdiaahpodkoaa.pair3Drawn.d903 = true := by kernel_rfl
set_option maxRecDepth 100000 in
theorem r1001_d903 : run1001 Go.Proofs.Ythcdiaahpodkoaa.pair3Drawn.d903 = true := by kernel_rfl
set_option maxRecDepth 100000 in
theorem r1000_d907 : run1000 Go.Proofs.Ythcdiaahpodkoaa.pair3Drawn.d907 = true := by kernel_rfl
set_option maxRecDepth 100000 in
theorem r1001_d907 : run1001 Go.Proofs.Ythcdiaahpodkoaa.pair3Drawn.d907 = true := by kernel_rfl
set_option maxRecDepth 100000 in
theorem r1000_d911 : run1000 Go.Proofs.Ythcdiaahpodkoaa.pair3Drawn.d911 = true := by kernel_rfl
set_option maxRecDepth 100000 in
theorem r1001_d911 : run1001 Go.Proofs.Ythcdiaahpodkoaa.pair3Drawn.d911 = true := by kernel_rfl
set_option maxRecDepth 100000 in
theorem r1000_d915 : run1000 Go.Proofs.Ythcdiaahpodkoaa.pair3Drawn.d915 = true := by kernel_rfl
set_option maxRecDepth 100000 in
theorem r1001_d915 : run1001 Go.Proofs.Ythcdiaahpodkoaa.pair3Drawn.d915 = true := by kernel_rfl
set_option maxRecDepth 100000 in
theorem r1000_d919 : run1000 Go.Proofs.Ythcdiaahpodkoaa.pair3Drawn.d919 = true := by kernel_rfl
set_option maxRecDepth 100000 in
theorem r1001_d919 : run1001 Go.Proofs.Ythcdiaahpodkoaa.pair3Drawn.d919 = true := by kernel_rfl
set_option maxRecDepth 100000 in
theorem r1000_d923 : run1000 Go.Proofs.Ythcdiaahpodkoaa.pair3Drawn.d923 = true := by kernel_rfl
set_option maxRecDepth 100000 in
theorem r1001_d923 : run1001 Go.Proofs.Ythcdiaahpodkoaa.pair3Drawn.d923 = true := by kernel_rfl
set_option maxRecDepth 100000 in
theorem r1000_d927 : run1000 Go.Proofs.Ythcdiaahpodkoaa.pair3Drawn.d927 = true := by kernel_rfl
set_option maxRecDepth 100000 in
theorem r1001_d927 : run1001 Go.Proofs.Ythcdiaahpodkoaa.pair3Drawn.d927 = true := by kernel_rfl
set_option maxRecDepth 100000 in
theorem r1000_d931 : run1000 Go.Proofs.Ythcdiaahpodkoaa.pair3Drawn.d931 = true := by kernel_rfl
set_option maxRecDepth 100000 in
theorem r1001_d931 : run1001 Go.Proofs.Ythcdiaahpodkoaa.pair3Drawn.d931 = true := by kernel_rfl
set_option maxRecDepth 100000 in
theorem r1000_d935 : run1000 Go.Proofs.Ythcdiaahpodkoaa.pair3Drawn.d935 = true := by kernel_rfl
set_option maxRecDepth 100000 in
theorem r1001_d935 : run1001 Go.Proofs.Ythcdiaahpodkoaa.pair3Drawn.d935 = true := by kernel_rfl
set_option maxRecDepth 100000 in
theorem r1000_d939 : run1000 Go.Proofs.Ythcdiaahpodkoaa.pair3Drawn.d939 = true := by kernel_rfl
set_option maxRecDepth 100000 in
theorem r1001_d939 : run1001 Go.Proofs.Ythcdiaahpodkoaa.pair3Drawn.d939 = true := by kernel_rfl
set_option maxRecDepth 100000 in
theorem r1000_d943 : run1000 Go.Proofs.Ythcdiaahpodkoaa.pair3Drawn.d943 = true := by kernel_rfl
set_option maxRecDepth 100000 in
theorem r1001_d943 : run1001 Go.Proofs.Ythcdiaahpodkoaa.pair3Drawn.d943 = true := by kernel_rfl
set_option maxRecDepth 100000 in
theorem r1000_d947 : run1000 Go.Proofs.Ythcdiaahpodkoaa.pair3Drawn.d947 = true := by kernel_rfl
set_option maxRecDepth 100000 in
theorem r1001_d947 : run1001 Go.Proofs.Ythcdiaahpodkoaa.pair3Drawn.d947 = true := by kernel_rfl
set_option maxRecDepth 100000 in
theorem r1000_d951 : run1000 Go.Proofs.Ythcdiaahpodkoaa.pair3Drawn.d951 = true := by kernel_rfl
set_option maxRecDepth 100000 in
theorem r1001_d951 : run1001 Go.Proofs.Ythcdiaahpodkoaa.pair3Drawn.d951 = true := by kernel_rfl
set_option maxRecDepth 100000 in
theorem r1000_d955 : run1000 Go.Proofs.Ythcdiaahpodkoaa.pair3Drawn.d955 = true := by kernel_rfl
set_option maxRecDepth 100000 in
theorem r1001_d955 : run1001 Go.Proofs.Ythcdiaahpodkoaa.pair3Drawn.d955 = true := by kernel_rfl
set_option maxRecDepth 100000 in
theorem r1000_d959 : run1000 Go.Proofs.Ythcdiaahpodkoaa.pair3Drawn.d959 = true := by kernel_rfl
set_option maxRecDepth 100000 in
theorem r1001_d959 : run1001 Go.Proofs.Ythcdiaahpodkoaa.pair3Drawn.d959 = true := by kernel_rfl
end Go.Proofs.Ythcdiaahpodkoaa.fnAboveRuns
