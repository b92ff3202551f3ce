/- Runs of the program at a seat. -/
import Derived.Test.YtnglbchhlpbgkabFnTermsP
namespace Go.Proofs.Ytnglbchhlpbgkab.fnTermsRuns
open Go Go.Eng
set_option linter.unusedVariables false
set_option linter.unusedSectionVars false
set_option linter.unusedSimpArgs false
set_option maxRecDepth 100000
open Go.Proofs.Ytnglbchhlpbgkab.waysDrawn
theorem r_d0 : run d0 = true := by kernel_rfl
theorem r_d3 : run d3 = true := by kernel_rfl
theorem r_d6 : run d6 = true := by kernel_rfl
theorem r_d9 : run d9 = true := by kernel_rfl
theorem r_d12 : run d12 = true := by kernel_rfl
theorem r_d15 : run d15 = true := by kernel_rfl
theorem r_d18 : run d18 = true := by kernel_rfl
theorem r_d21 : run d21 = true := by kernel_rfl
theorem r_d24 : run d24 = true := by kernel_rfl
theorem r_d27 : run d27 = true := by kernel_rfl
theorem r_d30 : run d30 = true := by kernel_rfl
theorem r_d33 : run d33 = true := by kernel_rfl
theorem r_d36 : run d36 = true := by kernel_rfl
theorem r_d39 : run d39 = true := by kernel_rfl
theorem r_d42 : run d42 = true := by kernel_rfl
theorem r_d45 : run d45 = true := by kernel_rfl
theorem r_d48 : run d48 = true := by kernel_rfl
theorem r_d51 : run d51 = true := by kernel_rfl
theorem r_d54 : run d54 = true := by kernel_rfl
theorem r_d57 : run d57 = true := by kernel_rfl
theorem r_d60 : run d60 = true := by kernel_rfl
theorem r_d63 : run d63 = true := by kernel_rfl
theorem r_d66 : run d66 = true := by kernel_rfl
theorem r_d69 : run d69 = true := by kernel_rfl
theorem r_d72 : run d72 = true := by kernel_rfl
theorem r_d75 : run d75 = true := by kernel_rfl
theorem r_d78 : run d78 = true := by kernel_rfl
theorem r_d81 : run d81 = true := by kernel_rfl
theorem r_d84 : run d84 = true := by kernel_rfl
theorem r_d87 : run d87 = true := by kernel_rfl
theorem r_d90 : run d90 = true := by kernel_rfl
theorem r_d93 : run d93 = true := by kernel_rfl
theorem r_d96 : run d96 = true := by kernel_rfl
theorem r_d99 : run d99 = true := by kernel_rfl
theorem r_d102 : run d102 = true := by kernel_rfl
theorem r_d105 : run d105 = true := by kernel_rfl
theorem r_d108 : run d108 = true := by kernel_rfl
theorem r_d111 : run d111 = true := by kernel_rfl
theorem r_d114 : run d114 = true := by kernel_rfl
theorem r_d117 : run d117 = true := by kernel_rfl
theorem r_d120 : run d120 = true := by kernel_rfl
theorem r_d123 : run d123 = true := by kernel_rfl
theorem r_d126 : run d126 = true := by kernel_rfl
theorem r_d129 : run d129 = true := by kernel_rfl
theorem r_d132 : run d132 = true := by kernel_rfl
theorem r_d135 : run d135 = true := by kernel_rfl
theorem r_d138 : run d138 = true := by kernel_rfl
theorem r_d141 : run d141 = true := by kernel_rfl
theorem r_d144 : run d144 = true := by kernel_rfl
theorem r_d147 : run d147 = true := by kernel_rfl
theorem r_d150 : run d150 = true := by kernel_rfl
theorem r_d153 : run d153 = true := by kernel_rfl
theorem r_d156 : run d156 = true := by kernel_rfl
theorem r_d159 : run d159 = true := by kernel_rfl
theorem r_d162 : run d162 = true := by kernel_rfl
theorem r_d165 : run d165 = true := by kernel_rfl
theorem r_d168 : run d168 = true := by kernel_rfl
theorem r_d171 : run d171 = true := by kernel_rfl
theorem r_d174 : run d174 = true := by kernel_rfl
theorem r_d177 : run d177 = true := by kernel_rfl
theorem r_d180 : run d180 = true := by kernel_rfl
theorem r_d183 : run d183 = true := by kernel_rfl
theorem r_d186 : run d186 = true := by kernel_rfl
theorem r_d189 : run d189 = true := by kernel_rfl
theorem r_d192 : run d192 = true := by kernel_rfl
theorem r_d195 : run d195 = true := by kernel_rfl
theorem r_d198 : run d198 = true := by kernel_rfl
theorem r_d201 : run d201 = true := by kernel_rfl
theorem r_d204 : run d204 = true := by kernel_rfl
theorem r_d207 : run d207 = true := by kernel_rfl
theorem r_d210 : run d210 = true := by kernel_rfl
theorem r_d213 : run d213 = true := by kernel_rfl
theorem r_d216 : run d216 = true := by kernel_rfl
theorem r_d219 : run d219 = true := by kernel_rfl
theorem r_d222 : run d222 = true := by kernel_rfl
theorem r_d225 : run d225 = true := by kernel_rfl
theorem r_d228 : run d228 = true := by kernel_rfl
theorem r_d231 : run d231 = true := by kernel_rfl
theorem r_d234 : run d234 = true := by kernel_rfl
theorem r_d237 : run d237 = true := by kernel_rfl
theorem r_d240 : run d240 = true := by kernel_rfl
theorem r_d243 : run d243 = true := by kernel_rfl
theorem r_d246 : run d246 = true := by kernel_rfl
theorem r_d249 : run d249 = true := by kernel_rfl
theorem r_d252 : run d252 = true := by kernel_rfl
theorem r_d255 : run d255 = true := by kernel_rfl
end Go.Proofs.Ytnglbchhlpbgkab.fnTermsRuns
