/- Runs of the program at a seat. -/
import Derived.Test.YtnobdifmnoehbabRootofD0
import Derived.Test.YtnobdifmnoehbabRootofD1
import Derived.Test.YtnobdifmnoehbabFnRootFullsR0
import Derived.Test.YtnobdifmnoehbabFnRootFullsR1
namespace Go.Proofs.Ytnobdifmnoehbab.fnRootFullsRuns
open Go Go.Eng
set_option linter.unusedVariables false
set_option linter.unusedSectionVars false
set_option linter.unusedSimpArgs false
open Go.Proofs.Ytnobdifmnoehbab.rootofDrawn
theorem a_ls0 : A ls0 := ⟨r_d0, r_d1, r_d2, trivial⟩
theorem a_ls1 : A ls1 := ⟨r_d3, r_d4, r_d2, trivial⟩
theorem a_ls2 : A ls2 := ⟨r_d5, r_d6, r_d2, trivial⟩
theorem a_ls3 : A ls3 := ⟨r_d7, r_d8, r_d2, trivial⟩
theorem a_ls4 : A ls4 := ⟨r_d9, r_d10, r_d2, trivial⟩
theorem a_ls5 : A ls5 := ⟨r_d11, r_d12, r_d2, trivial⟩
theorem n_0 : G [] := CoversG.part 6 (by kernel_rfl) fun v hv => by
  have h : v = 0 ∨ v = 1 ∨ v = 2 ∨ v = 3 ∨ v = 4 ∨ v = 5 := by omega
  rcases h with rfl | rfl | rfl | rfl | rfl | rfl
  · exact .drew (.tree _ c0) a_ls0
  · exact .drew (.tree _ c1) a_ls1
  · exact .drew (.tree _ c2) a_ls2
  · exact .drew (.tree _ c3) a_ls3
  · exact .drew (.tree _ c4) a_ls4
  · exact .drew (.tree _ c5) a_ls5
end Go.Proofs.Ytnobdifmnoehbab.fnRootFullsRuns
