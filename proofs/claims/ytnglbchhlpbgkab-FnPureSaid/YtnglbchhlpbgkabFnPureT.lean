/- Runs of the program at a seat. -/
import Derived.Test.YtnglbchhlpbgkabPureD0
import Derived.Test.YtnglbchhlpbgkabPureD1
import Derived.Test.YtnglbchhlpbgkabPureD2
import Derived.Test.YtnglbchhlpbgkabFnPureR0
import Derived.Test.YtnglbchhlpbgkabFnPureR1
import Derived.Test.YtnglbchhlpbgkabFnPureR2
namespace Go.Proofs.Ytnglbchhlpbgkab.fnPureRuns
open Go Go.Eng
set_option linter.unusedVariables false
set_option linter.unusedSectionVars false
set_option linter.unusedSimpArgs false
open Go.Proofs.Ytnglbchhlpbgkab.pureDrawn
theorem a_ls0 : A ls0 := ⟨r_d0, r_d1, r_d2, r_d3, r_d4, r_d5, r_d6, r_d7, r_d8, r_d9, r_d10, r_d11, r_d12, trivial⟩
theorem a_ls1 : A ls1 := ⟨r_d0, r_d13, r_d14, r_d15, r_d16, r_d17, r_d18, r_d19, r_d20, r_d21, r_d22, trivial⟩
theorem n_0 : G [] := CoversG.part 3 (by kernel_rfl) fun v hv => by
  have h : v = 0 ∨ v = 1 ∨ v = 2 := by omega
  rcases h with rfl | rfl | rfl
  · exact .drewM (.tree _ cq0) a_ls0
  · exact .drewM (.tree _ cq1) a_ls1
  · exact .drewM (.tree _ cq2) a_ls1
end Go.Proofs.Ytnglbchhlpbgkab.fnPureRuns
