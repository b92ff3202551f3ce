/- Runs of the program at a seat. -/
import Derived.Test.YthcdiaahpodkoabFnWaysCellsP
namespace Go.Proofs.Ythcdiaahpodkoab.fnWaysCellsRuns
open Go Go.Eng
set_option linter.unusedVariables false
set_option linter.unusedSectionVars false
set_option linter.unusedSimpArgs false
set_option maxRecDepth 100000 in
theorem r_d3 : run Go.Proofs.Ythcdiaahpodkoab.waysDrawn.d3 = true := by kernel_rfl
set_option maxRecDepth 100000 in
theorem r_d7 : run Go.Proofs.Ythcdiaahpodkoab.waysDrawn.d7 = true := by kernel_rfl
set_option maxRecDepth 100000 in
theorem r_d11 : run Go.Proofs.Ythcdiaahpodkoab.waysDrawn.d11 = true := by kernel_rfl
set_option maxRecDepth 100000 in
theorem r_d15 : run Go.Proofs.Ythcdiaahpodkoab.waysDrawn.d15 = true := by kernel_rfl
set_option maxRecDepth 100000 in
theorem r_d19 : run Go.Proofs.Ythcdiaahpodkoab.waysDrawn.d19 = true := by kernel_rfl
set_option maxRecDepth 100000 in
theorem r_d23 : run Go.Proofs.Ythcdiaahpodkoab.waysDrawn.d23 = true := by kernel_rfl
set_option maxRecDepth 100000 in
theorem r_d27 : run Go.Proofs.Ythcdiaahpodkoab.waysDrawn.d27 = true := by kernel_rfl
set_option maxRecDepth 100000 in
theorem r_d31 : run Go.Proofs.Ythcdiaahpodkoab.waysDrawn.d31 = true := by kernel_rfl
set_option maxRecDepth 100000 in
theorem r_d35 : run Go.Proofs.Ythcdiaahpodkoab.waysDrawn.d35 = true := by kernel_rfl
set_option maxRecDepth 100000 in
theorem r_d39 : run Go.Proofs.Ythcdiaahpodkoab.waysDrawn.d39 = true := by kernel_rfl
set_option maxRecDepth 100000 in
theorem r_d43 : run Go.Proofs.Ythcdiaahpodkoab.waysDrawn.d43 = true := by kernel_rfl
set_option maxRecDepth 100000 in
theorem r_d47 : run Go.Proofs.Ythcdiaahpodkoab.waysDrawn.d47 = true := by kernel_rfl
set_option maxRecDepth 100000 in
theorem r_d51 : run Go.Proofs.Ythcdiaahpodkoab.waysDrawn.d51 = true := by kernel_rfl
set_option maxRecDepth 100000 in
theorem r_d55 : run Go.Proofs.Ythcdiaahpodkoab.waysDrawn.d55 = true := by kernel_rfl
set_option maxRecDepth 100000 in
theorem r_d59 : run Go.Proofs.Ythcdiaahpodkoab.waysDrawn.d59 = true := by kernel_rfl
set_option maxRecDepth 100000 in
theorem r_d63 : run Go.Proofs.Ythcdiaahpodkoab.waysDrawn.d63 = true := by kernel_rfl
set_option maxRecDepth 100000 in
theorem r_d67 : run Go.Proofs.Ythcdiaahpodkoab.waysDrawn.d67 = true := by kernel_rfl
set_option maxRecDepth 100000 in
theorem r_d71 : run Go.Proofs.Ythcdiaahpodkoab.waysDrawn.d71 = true := by kernel_rfl
set_option maxRecDepth 100000 in
theorem r_d75 : run Go.Proofs.Ythcdiaahpodkoab.waysDrawn.d75 = true := by kernel_rfl
set_option maxRecDepth 100000 in
theorem r_d79 : run Go.Proofs.Ythcdiaahpodkoab.waysDrawn.d79 = true := by kernel_rfl
set_option maxRecDepth 100000 in
theorem r_d83 : run Go.Proofs.Ythcdiaahpodkoab.waysDrawn.d83 = true := by kernel_rfl
set_option maxRecDepth 100000 in
theorem r_d87 : run Go.Proofs.Ythcdiaahpodkoab.waysDrawn.d87 = true := by kernel_rfl
set_option maxRecDepth 100000 in
theorem r_d91 : run Go.Proofs.Ythcdiaahpodkoab.waysDrawn.d91 = true := by kernel_rfl
set_option maxRecDepth 100000 in
theorem r_d95 : run Go.Proofs.Ythcdiaahpodkoab.waysDrawn.d95 = true := by kernel_rfl
set_option maxRecDepth 100000 in
theorem r_d99 : run Go.Proofs.Ythcdiaahpodkoab.waysDrawn.d99 = true := by kernel_rfl
set_option maxRecDepth 100000 in
theorem r_d103 : run Go.Proofs.Ythcdiaahpodkoab.waysDrawn.d103 = true := by kernel_rfl
set_option maxRecDepth 100000 in
theorem r_d107 : run Go.Proofs.Ythcdiaahpodkoab.waysDrawn.d107 = true := by kernel_rfl
set_option maxRecDepth 100000 in
theorem r_d111 : run Go.Proofs.Ythcdiaahpodkoab.waysDrawn.d111 = true := by kernel_rfl
set_option maxRecDepth 100000 in
theorem r_d115 : run Go.Proofs.Ythcdiaahpodkoab.waysDrawn.d115 = true := by kernel_rfl
set_option maxRecDepth 100000 in
theorem r_d119 : run Go.Proofs.Ythcdiaahpodkoab.waysDrawn.d119 = true := by kernel_rfl
set_option maxRecDepth 100000 in
theorem r_d123 : run Go.Proofs.Ythcdiaahpodkoab.waysDrawn.d123 = true := by kernel_rfl
set_option maxRecDepth 100000 in
theorem r_d127 : run Go.Proofs.Ythcdiaahpodkoab.waysDrawn.d127 = true := by kernel_rfl
set_option maxRecDepth 100000 in
theorem r_d131 : run Go.Proofs.Ythcdiaahpodkoab.waysDrawn.d131 = true := by kernel_rfl
set_option maxRecDepth 100000 in
theorem r_d135 : run Go.Proofs.Ythcdiaahpodkoab.waysDrawn.d135 = true := by kernel_rfl
set_option maxRecDepth 100000 in
theorem r_d139 : run Go.Proofs.Ythcdiaahpodkoab.waysDrawn.d139 = true := by kernel_rfl
set_option maxRecDepth 100000 in
theorem r_d143 : run Go.Proofs.Ythcdiaahpodkoab.waysDrawn.d143 = true := by kernel_rfl
set_option maxRecDepth 100000 in
theorem r_d147 : run Go.Proofs.Ythcdiaahpodkoab.waysDrawn.d147 = true := by kernel_rfl
set_option maxRecDepth 100000 in
theorem r_d151 : run Go.Proofs.Ythcdiaahpodkoab.waysDrawn.d151 = true := by kernel_rfl
set_option maxRecDepth 100000 in
theorem r_d155 : run Go.Proofs.Ythcdiaahpodkoab.waysDrawn.d155 = true := by kernel_rfl
set_option maxRecDepth 100000 in
theorem r_d159 : run Go.Proofs.Ythcdiaahpodkoab.waysDrawn.d159 = true := by kernel_rfl
set_option maxRecDepth 100000 in
theorem r_d163 : run Go.Proofs.Ythcdiaahpodkoab.waysDrawn.d163 = true := by kernel_rfl
set_option maxRecDepth 100000 in
theorem r_d167 : run Go.Proofs.Ythcdiaahpodkoab.waysDrawn.d167 = true := by kernel_rfl
set_option maxRecDepth 100000 in
theorem r_d171 : run Go.Proofs.Ythcdiaahpodkoab.waysDrawn.d171 = true := by kernel_rfl
set_option maxRecDepth 100000 in
theorem r_d175 : run Go.Proofs.Ythcdiaahpodkoab.waysDrawn.d175 = true := by kernel_rfl
set_option maxRecDepth 100000 in
theorem r_d179 : run Go.Proofs.Ythcdiaahpodkoab.waysDrawn.d179 = true := by kernel_rfl
set_option maxRecDepth 100000 in
theorem r_d183 : run Go.Proofs.Ythcdiaahpodkoab.waysDrawn.d183 = true := by kernel_rfl
set_option maxRecDepth 100000 in
theorem r_d187 : run Go.Proofs.Ythcdiaahpodkoab.waysDrawn.d187 = true := by kernel_rfl
set_option maxRecDepth 100000 in
theorem r_d191 : run Go.Proofs.Ythcdiaahpodkoab.waysDrawn.d191 = true := by kernel_rfl
set_option maxRecDepth 100000 in
theorem r_d195 : run Go.Proofs.Ythcdiaahpodkoab.waysDrawn.d195 = true := by kernel_rfl
set_option maxRecDepth 100000 in
theorem r_d199 : run Go.Proofs.Ythcdiaahpodkoab.waysDrawn.d199 = true := by kernel_rfl
set_option maxRecDepth 100000 in
theorem r_d203 : run Go.Proofs.Ythcdiaahpodkoab.waysDrawn.d203 = true := by kernel_rfl
set_option maxRecDepth 100000 in
theorem r_d207 : run Go.Proofs.Ythcdiaahpodkoab.waysDrawn.d207 = true := by kernel_rfl
set_option maxRecDepth 100000 in
theorem r_d211 : run Go.Proofs.Ythcdiaahpodkoab.waysDrawn.d211 = true := by kernel_rfl
set_option maxRecDepth 100000 in
theorem r_d215 : run Go.Proofs.Ythcdiaahpodkoab.waysDrawn.d215 = true := by kernel_rfl
set_option maxRecDepth 100000 in
theorem r_d219 : run Go.Proofs.Ythcdiaahpodkoab.waysDrawn.d219 = true := by kernel_rfl
set_option maxRecDepth 100000 in
theorem r_d223 : run Go.Proofs.Ythcdiaahpodkoab.waysDrawn.d223 = true := by kernel_rfl
set_option maxRecDepth 100000 in
theorem r_d227 : run Go.Proofs.Ythcdiaahpodkoab.waysDrawn.d227 = true := by kernel_rfl
set_option maxRecDepth 100000 in
theorem r_d231 : run Go.Proofs.Ythcdiaahpodkoab.waysDrawn.d231 = true := by kernel_rfl
set_option maxRecDepth 100000 in
theorem r_d235 : run Go.Proofs.Ythcdiaahpodkoab.waysDrawn.d235 = true := by kernel_rfl
set_option maxRecDepth 100000 in
theorem r_d239 : run Go.Proofs.Ythcdiaahpodkoab.waysDrawn.d239 = true := by kernel_rfl
set_option maxRecDepth 100000 in
theorem r_d243 : run Go.Proofs.Ythcdiaahpodkoab.waysDrawn.d243 = true := by kernel_rfl
set_option maxRecDepth 100000 in
theorem r_d247 : run Go.Proofs.Ythcdiaahpodkoab.waysDrawn.d247 = true := by kernel_rfl
set_option maxRecDepth 100000 in
theorem r_d251 : run Go.Proofs.Ythcdiaahpodkoab.waysDrawn.d251 = true := by kernel_rfl
set_option maxRecDepth 100000 in
theorem r_d255 : run Go.Proofs.Ythcdiaahpodkoab.waysDrawn.d255 = true := by kernel_rfl
end Go.Proofs.Ythcdiaahpodkoab.fnWaysCellsRuns
