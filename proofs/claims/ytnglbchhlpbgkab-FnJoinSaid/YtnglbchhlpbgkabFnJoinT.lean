/- Runs of the program at a seat. -/
import Derived.Test.YtnglbchhlpbgkabJoinD0
import Derived.Test.YtnglbchhlpbgkabJoinD1
import Derived.Test.YtnglbchhlpbgkabJoinD2
import Derived.Test.YtnglbchhlpbgkabFnJoinR0
import Derived.Test.YtnglbchhlpbgkabFnJoinR1
import Derived.Test.YtnglbchhlpbgkabFnJoinR2
namespace Go.Proofs.Ytnglbchhlpbgkab.fnJoinRuns
open Go Go.Eng
set_option linter.unusedVariables false
set_option linter.unusedSectionVars false
set_option linter.unusedSimpArgs false
open Go.Proofs.Ytnglbchhlpbgkab.joinDrawn
theorem a_ls0 : A ls0 := ⟨r_d0, r_d1, r_d2, r_d3, r_d4, r_d5, r_d6, r_d7, r_d8, r_d9, r_d10, r_d11, r_d12, r_d13, r_d14, r_d15, r_d16, r_d17, r_d18, r_d19, r_d20, r_d21, r_d22, r_d23, r_d24, r_d25, r_d26, trivial⟩
theorem a_ls1 : A ls1 := ⟨r_d27, r_d28, r_d29, r_d30, r_d31, r_d32, r_d33, r_d34, r_d35, r_d9, r_d10, r_d11, r_d12, r_d13, r_d14, r_d15, r_d16, r_d17, r_d18, r_d19, r_d20, r_d21, r_d22, r_d23, r_d24, r_d25, r_d26, trivial⟩
theorem a_ls2 : A ls2 := ⟨r_d36, r_d37, r_d38, r_d39, r_d40, r_d41, r_d42, r_d43, r_d44, r_d9, r_d10, r_d11, r_d12, r_d13, r_d14, r_d15, r_d16, r_d17, r_d18, r_d19, r_d20, r_d21, r_d22, r_d23, r_d24, r_d25, r_d26, trivial⟩
theorem a_ls3 : A ls3 := ⟨r_d45, r_d46, r_d47, r_d48, r_d49, r_d50, r_d51, r_d52, r_d53, r_d9, r_d10, r_d11, r_d12, r_d13, r_d14, r_d15, r_d16, r_d17, r_d18, r_d19, r_d20, r_d21, r_d22, r_d23, r_d24, r_d25, r_d26, trivial⟩
theorem a_ls4 : A ls4 := ⟨r_d54, r_d55, r_d56, r_d57, r_d58, r_d59, r_d60, r_d61, r_d62, r_d9, r_d10, r_d11, r_d12, r_d13, r_d14, r_d15, r_d16, r_d17, r_d18, r_d19, r_d20, r_d21, r_d22, r_d23, r_d24, r_d25, r_d26, trivial⟩
theorem a_ls5 : A ls5 := ⟨r_d63, r_d64, r_d65, r_d66, r_d67, r_d68, r_d69, r_d70, r_d71, r_d9, r_d10, r_d11, r_d12, r_d13, r_d14, r_d15, r_d16, r_d17, r_d18, r_d19, r_d20, r_d21, r_d22, r_d23, r_d24, r_d25, r_d26, trivial⟩
theorem a_ls6 : A ls6 := ⟨r_d72, r_d73, r_d74, r_d75, r_d76, r_d77, r_d78, r_d79, r_d80, r_d9, r_d10, r_d11, r_d12, r_d13, r_d14, r_d15, r_d16, r_d17, r_d18, r_d19, r_d20, r_d21, r_d22, r_d23, r_d24, r_d25, r_d26, trivial⟩
theorem a_ls7 : A ls7 := ⟨r_d81, r_d82, r_d83, r_d84, r_d85, r_d86, r_d87, r_d88, r_d89, r_d9, r_d10, r_d11, r_d12, r_d13, r_d14, r_d15, r_d16, r_d17, r_d18, r_d19, r_d20, r_d21, r_d22, r_d23, r_d24, r_d25, r_d26, trivial⟩
theorem a_ls8 : A ls8 := ⟨r_d90, r_d91, r_d92, r_d93, r_d94, r_d95, r_d96, r_d97, r_d98, r_d9, r_d10, r_d11, r_d12, r_d13, r_d14, r_d15, r_d16, r_d17, r_d18, r_d19, r_d20, r_d21, r_d22, r_d23, r_d24, r_d25, r_d26, trivial⟩
theorem a_ls9 : A ls9 := ⟨r_d99, r_d100, r_d101, r_d102, r_d103, r_d104, r_d105, r_d106, r_d107, r_d9, r_d10, r_d11, r_d12, r_d13, r_d14, r_d15, r_d16, r_d17, r_d18, r_d19, r_d20, r_d21, r_d22, r_d23, r_d24, r_d25, r_d26, trivial⟩
theorem a_ls10 : A ls10 := ⟨r_d108, r_d109, r_d110, r_d111, r_d112, r_d113, r_d114, r_d115, r_d116, r_d9, r_d10, r_d11, r_d12, r_d13, r_d14, r_d15, r_d16, r_d17, r_d18, r_d19, r_d20, r_d21, r_d22, r_d23, r_d24, r_d25, r_d26, trivial⟩
theorem a_ls11 : A ls11 := ⟨r_d117, r_d118, r_d119, r_d120, r_d121, r_d122, r_d123, r_d124, r_d125, r_d9, r_d10, r_d11, r_d12, r_d13, r_d14, r_d15, r_d16, r_d17, r_d18, r_d19, r_d20, r_d21, r_d22, r_d23, r_d24, r_d25, r_d26, trivial⟩
theorem n_0 : G [(5, 2, 2)] := CoversG.part 4098 (by kernel_rfl) fun v hv => by
  have h : v = 0 ∨ v = 1 := by omega
  rcases h with rfl | rfl
  · exact .drew (.tree _ c2_0) a_ls2
  · exact .drew (.tree _ c2_1) a_ls3
theorem n_1 : G [(5, 3, 3)] := CoversG.part 4099 (by kernel_rfl) fun v hv => by
  have h : v = 0 ∨ v = 1 ∨ v = 2 := by omega
  rcases h with rfl | rfl | rfl
  · exact .drew (.tree _ c3_0) a_ls4
  · exact .drew (.tree _ c3_1) a_ls5
  · exact .drew (.tree _ c3_2) a_ls6
theorem n_2 : G [(5, 4, 4)] := CoversG.part 4101 (by kernel_rfl) fun v hv => by
  have h : v = 0 ∨ v = 1 ∨ v = 2 ∨ v = 3 ∨ v = 4 := by omega
  rcases h with rfl | rfl | rfl | rfl | rfl
  · exact .drew (.tree _ c4_0) a_ls7
  · exact .drew (.tree _ c4_1) a_ls8
  · exact .drew (.tree _ c4_2) a_ls9
  · exact .drew (.tree _ c4_3) a_ls10
  · exact .drew (.tree _ c4_4) a_ls11
theorem n_3 : G [] := CoversG.part 5 (by kernel_rfl) fun v hv => by
  have h : v = 0 ∨ v = 1 ∨ v = 2 ∨ v = 3 ∨ v = 4 := by omega
  rcases h with rfl | rfl | rfl | rfl | rfl
  · exact .drew (.tree _ c0_0) a_ls0
  · exact .drew (.tree _ c1_0) a_ls1
  · exact n_0
  · exact n_1
  · exact n_2
end Go.Proofs.Ytnglbchhlpbgkab.fnJoinRuns
