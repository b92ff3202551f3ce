/- Runs of the program at a seat. -/
import Derived.Test.YtnglbchhlpbgkabLogD0
import Derived.Test.YtnglbchhlpbgkabLogD1
import Derived.Test.YtnglbchhlpbgkabLogD2
import Derived.Test.YtnglbchhlpbgkabLogD3
import Derived.Test.YtnglbchhlpbgkabFnLogR0
import Derived.Test.YtnglbchhlpbgkabFnLogR1
import Derived.Test.YtnglbchhlpbgkabFnLogR2
import Derived.Test.YtnglbchhlpbgkabFnLogR3
namespace Go.Proofs.Ytnglbchhlpbgkab.fnLogRuns
open Go Go.Eng
set_option linter.unusedVariables false
set_option linter.unusedSectionVars false
set_option linter.unusedSimpArgs false
open Go.Proofs.Ytnglbchhlpbgkab.logDrawn
theorem a_ls0 : A ls0 := ⟨r_d0, r_d1, r_d2, r_d3, r_d4, r_d5, r_d6, r_d7, r_d8, r_d9, r_d10, r_d11, r_d12, r_d13, r_d14, r_d15, r_d16, r_d17, r_d18, r_d19, r_d20, r_d21, r_d22, r_d23, r_d24, r_d25, r_d26, r_d27, r_d28, r_d29, r_d30, r_d31, r_d32, r_d33, r_d34, r_d35, r_d36, r_d37, r_d38, r_d39, r_d40, r_d41, r_d42, r_d43, r_d44, r_d45, r_d46, r_d47, r_d48, r_d49, r_d50, r_d51, r_d52, r_d53, r_d54, r_d55, r_d56, r_d57, r_d58, r_d59, r_d60, r_d61, r_d62, r_d63, r_d64, r_d65, r_d66, r_d67, r_d68, r_d69, r_d70, r_d71, r_d72, r_d73, r_d74, r_d75, r_d76, trivial⟩
theorem n_top : G [] := .drewM (.ask (.tree _ cp)) a_ls0
end Go.Proofs.Ytnglbchhlpbgkab.fnLogRuns
