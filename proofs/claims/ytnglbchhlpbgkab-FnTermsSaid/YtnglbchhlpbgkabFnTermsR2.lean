/- Runs of the program at a seat. -/
import Derived.Test.YtnglbchhlpbgkabFnTermsP
namespace Go.Proofs.Ytnglbchhlpbgkab.fnTermsRuns
open Go Go.Eng
set_option linter.unusedVariables false
set_option linter.unusedSectionVars false
set_option linter.unusedSimpArgs false
set_option maxRecDepth 100000
open Go.Proofs.Ytnglbchhlpbgkab.waysDrawn
theorem r_d2 : run d2 = true := by kernel_rfl
theorem r_d5 : run d5 = true := by kernel_rfl
theorem r_d8 : run d8 = true := by kernel_rfl
theorem r_d11 : run d11 = true := by kernel_rfl
theorem r_d14 : run d14 = true := by kernel_rfl
theorem r_d17 : run d17 = true := by kernel_rfl
theorem r_d20 : run d20 = true := by kernel_rfl
theorem r_d23 : run d23 = true := by kernel_rfl
theorem r_d26 : run d26 = true := by kernel_rfl
theorem r_d29 : run d29 = true := by kernel_rfl
theorem r_d32 : run d32 = true := by kernel_rfl
theorem r_d35 : run d35 = true := by kernel_rfl
theorem r_d38 : run d38 = true := by kernel_rfl
theorem r_d41 : run d41 = true := by kernel_rfl
theorem r_d44 : run d44 = true := by kernel_rfl
theorem r_d47 : run d47 = true := by kernel_rfl
theorem r_d50 : run d50 = true := by kernel_rfl
theorem r_d53 : run d53 = true := by kernel_rfl
theorem r_d56 : run d56 = true := by kernel_rfl
theorem r_d59 : run d59 = true := by kernel_rfl
theorem r_d62 : run d62 = true := by kernel_rfl
theorem r_d65 : run d65 = true := by kernel_rfl
theorem r_d68 : run d68 = true := by kernel_rfl
theorem r_d71 : run d71 = true := by kernel_rfl
theorem r_d74 : run d74 = true := by kernel_rfl
theorem r_d77 : run d77 = true := by kernel_rfl
theorem r_d80 : run d80 = true := by kernel_rfl
theorem r_d83 : run d83 = true := by kernel_rfl
theorem r_d86 : run d86 = true := by kernel_rfl
theorem r_d89 : run d89 = true := by kernel_rfl
theorem r_d92 : run d92 = true := by kernel_rfl
theorem r_d95 : run d95 = true := by kernel_rfl
theorem r_d98 : run d98 = true := by kernel_rfl
theorem r_d101 : run d101 = true := by kernel_rfl
theorem r_d104 : run d104 = true := by kernel_rfl
theorem r_d107 : run d107 = true := by kernel_rfl
theorem r_d110 : run d110 = true := by kernel_rfl
theorem r_d113 : run d113 = true := by kernel_rfl
theorem r_d116 : run d116 = true := by kernel_rfl
theorem r_d119 : run d119 = true := by kernel_rfl
theorem r_d122 : run d122 = true := by kernel_rfl
theorem r_d125 : run d125 = true := by kernel_rfl
theorem r_d128 : run d128 = true := by kernel_rfl
theorem r_d131 : run d131 = true := by kernel_rfl
theorem r_d134 : run d134 = true := by kernel_rfl
theorem r_d137 : run d137 = true := by kernel_rfl
theorem r_d140 : run d140 = true := by kernel_rfl
theorem r_d143 : run d143 = true := by kernel_rfl
theorem r_d146 : run d146 = true := by kernel_rfl
theorem r_d149 : run d149 = true := by kernel_rfl
theorem r_d152 : run d152 = true := by kernel_rfl
theorem r_d155 : run d155 = true := by kernel_rfl
theorem r_d158 : run d158 = true := by kernel_rfl
theorem r_d161 : run d161 = true := by kernel_rfl
theorem r_d164 : run d164 = true := by kernel_rfl
theorem r_d167 : run d167 = true := by kernel_rfl
theorem r_d170 : run d170 = true := by kernel_rfl
theorem r_d173 : run d173 = true := by kernel_rfl
theorem r_d176 : run d176 = true := by kernel_rfl
theorem r_d179 : run d179 = true := by kernel_rfl
theorem r_d182 : run d182 = true := by kernel_rfl
theorem r_d185 : run d185 = true := by kernel_rfl
theorem r_d188 : run d188 = true := by kernel_rfl
theorem r_d191 : run d191 = true := by kernel_rfl
theorem r_d194 : run d194 = true := by kernel_rfl
theorem r_d197 : run d197 = true := by kernel_rfl
theorem r_d200 : run d200 = true := by kernel_rfl
theorem r_d203 : run d203 = true := by kernel_rfl
theorem r_d206 : run d206 = true := by kernel_rfl
theorem r_d209 : run d209 = true := by kernel_rfl
theorem r_d212 : run d212 = true := by kernel_rfl
theorem r_d215 : run d215 = true := by kernel_rfl
theorem r_d218 : run d218 = true := by kernel_rfl
theorem r_d221 : run d221 = true := by kernel_rfl
theorem r_d224 : run d224 = true := by kernel_rfl
theorem r_d227 : run d227 = true := by kernel_rfl
theorem r_d230 : run d230 = true := by kernel_rfl
theorem r_d233 : run d233 = true := by kernel_rfl
theorem r_d236 : run d236 = true := by kernel_rfl
theorem r_d239 : run d239 = true := by kernel_rfl
theorem r_d242 : run d242 = true := by kernel_rfl
theorem r_d245 : run d245 = true := by kernel_rfl
theorem r_d248 : run d248 = true := by kernel_rfl
theorem r_d251 : run d251 = true := by kernel_rfl
theorem r_d254 : run d254 = true := by kernel_rfl
end Go.Proofs.Ytnglbchhlpbgkab.fnTermsRuns
