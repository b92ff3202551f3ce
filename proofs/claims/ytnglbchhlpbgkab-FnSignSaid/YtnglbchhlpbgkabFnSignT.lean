/- Runs of the program at a seat. -/
import Derived.Test.YtnglbchhlpbgkabOneD0
import Derived.Test.YtnglbchhlpbgkabOneD1
import Derived.Test.YtnglbchhlpbgkabOneD2
import Derived.Test.YtnglbchhlpbgkabFnSignR0
import Derived.Test.YtnglbchhlpbgkabFnSignR1
import Derived.Test.YtnglbchhlpbgkabFnSignR2
namespace Go.Proofs.Ytnglbchhlpbgkab.fnSignRuns
open Go Go.Eng
set_option linter.unusedVariables false
set_option linter.unusedSectionVars false
set_option linter.unusedSimpArgs false
open Go.Proofs.Ytnglbchhlpbgkab.oneDrawn
theorem a_ls0 : A ls0 := ⟨r_d0, r_d1, r_d2, trivial⟩
theorem a_ls1 : A ls1 := ⟨r_d3, r_d1, r_d2, trivial⟩
theorem a_ls2 : A ls2 := ⟨r_d4, r_d1, r_d2, trivial⟩
theorem a_ls3 : A ls3 := ⟨r_d5, r_d1, r_d2, trivial⟩
theorem a_ls4 : A ls4 := ⟨r_d6, r_d1, r_d2, trivial⟩
theorem a_ls5 : A ls5 := ⟨r_d7, r_d1, r_d2, trivial⟩
theorem a_ls6 : A ls6 := ⟨r_d8, r_d1, r_d2, trivial⟩
theorem a_ls7 : A ls7 := ⟨r_d9, r_d1, r_d2, trivial⟩
theorem a_ls8 : A ls8 := ⟨r_d10, r_d1, r_d2, trivial⟩
theorem a_ls9 : A ls9 := ⟨r_d11, r_d1, r_d2, trivial⟩
theorem a_ls10 : A ls10 := ⟨r_d12, r_d1, r_d2, trivial⟩
theorem a_ls11 : A ls11 := ⟨r_d13, r_d1, r_d2, trivial⟩
theorem a_ls12 : A ls12 := ⟨r_d14, r_d1, r_d2, trivial⟩
theorem a_ls13 : A ls13 := ⟨r_d15, r_d1, r_d2, trivial⟩
theorem a_ls14 : A ls14 := ⟨r_d16, r_d1, r_d2, trivial⟩
theorem a_ls15 : A ls15 := ⟨r_d17, r_d1, r_d2, trivial⟩
theorem a_ls16 : A ls16 := ⟨r_d18, r_d1, r_d2, trivial⟩
theorem a_ls17 : A ls17 := ⟨r_d19, r_d1, r_d2, trivial⟩
theorem a_ls18 : A ls18 := ⟨r_d20, r_d1, r_d2, trivial⟩
theorem a_ls19 : A ls19 := ⟨r_d21, r_d1, r_d2, trivial⟩
theorem a_ls20 : A ls20 := ⟨r_d22, r_d1, r_d2, trivial⟩
theorem a_ls21 : A ls21 := ⟨r_d23, r_d1, r_d2, trivial⟩
theorem a_ls22 : A ls22 := ⟨r_d24, r_d1, r_d2, trivial⟩
theorem a_ls23 : A ls23 := ⟨r_d25, r_d1, r_d2, trivial⟩
theorem a_ls24 : A ls24 := ⟨r_d26, r_d1, r_d2, trivial⟩
theorem a_ls25 : A ls25 := ⟨r_d27, r_d1, r_d2, trivial⟩
theorem a_ls26 : A ls26 := ⟨r_d28, r_d1, r_d2, trivial⟩
theorem a_ls27 : A ls27 := ⟨r_d29, r_d1, r_d2, trivial⟩
theorem a_ls28 : A ls28 := ⟨r_d30, r_d1, r_d2, trivial⟩
theorem a_ls29 : A ls29 := ⟨r_d31, r_d1, r_d2, trivial⟩
theorem n_0 : G [(7, 2, 2)] := CoversG.part 4098 (by kernel_rfl) fun v hv => by
  have h : v = 0 ∨ v = 1 := by omega
  rcases h with rfl | rfl
  · exact .drew (.tree _ c2_0) a_ls2
  · exact .drew (.tree _ c2_1) a_ls3
theorem n_1 : G [(7, 3, 3)] := CoversG.part 4099 (by kernel_rfl) fun v hv => by
  have h : v = 0 ∨ v = 1 ∨ v = 2 := by omega
  rcases h with rfl | rfl | rfl
  · exact .drew (.tree _ c3_0) a_ls4
  · exact .drew (.tree _ c3_1) a_ls5
  · exact .drew (.tree _ c3_2) a_ls6
theorem n_2 : G [(7, 4, 4)] := CoversG.part 4101 (by kernel_rfl) fun v hv => by
  have h : v = 0 ∨ v = 1 ∨ v = 2 ∨ v = 3 ∨ v = 4 := by omega
  rcases h with rfl | rfl | rfl | rfl | rfl
  · exact .drew (.tree _ c4_0) a_ls7
  · exact .drew (.tree _ c4_1) a_ls8
  · exact .drew (.tree _ c4_2) a_ls9
  · exact .drew (.tree _ c4_3) a_ls10
  · exact .drew (.tree _ c4_4) a_ls11
theorem n_3 : G [(7, 5, 5)] := CoversG.part 4103 (by kernel_rfl) fun v hv => by
  have h : v = 0 ∨ v = 1 ∨ v = 2 ∨ v = 3 ∨ v = 4 ∨ v = 5 ∨ v = 6 := by omega
  rcases h with rfl | rfl | rfl | rfl | rfl | rfl | rfl
  · exact .drew (.tree _ c5_0) a_ls12
  · exact .drew (.tree _ c5_1) a_ls13
  · exact .drew (.tree _ c5_2) a_ls14
  · exact .drew (.tree _ c5_3) a_ls15
  · exact .drew (.tree _ c5_4) a_ls16
  · exact .drew (.tree _ c5_5) a_ls17
  · exact .drew (.tree _ c5_6) a_ls18
theorem n_4 : G [(7, 6, 6)] := CoversG.part 4107 (by kernel_rfl) fun v hv => by
  have h : v = 0 ∨ v = 1 ∨ v = 2 ∨ v = 3 ∨ v = 4 ∨ v = 5 ∨ v = 6 ∨ v = 7 ∨ v = 8 ∨ v = 9 ∨ v = 10 := by omega
  rcases h with rfl | rfl | rfl | rfl | rfl | rfl | rfl | rfl | rfl | rfl | rfl
  · exact .drew (.tree _ c6_0) a_ls19
  · exact .drew (.tree _ c6_1) a_ls20
  · exact .drew (.tree _ c6_2) a_ls21
  · exact .drew (.tree _ c6_3) a_ls22
  · exact .drew (.tree _ c6_4) a_ls23
  · exact .drew (.tree _ c6_5) a_ls24
  · exact .drew (.tree _ c6_6) a_ls25
  · exact .drew (.tree _ c6_7) a_ls26
  · exact .drew (.tree _ c6_8) a_ls27
  · exact .drew (.tree _ c6_9) a_ls28
  · exact .drew (.tree _ c6_10) a_ls29
theorem n_5 : G [] := CoversG.part 7 (by kernel_rfl) fun v hv => by
  have h : v = 0 ∨ v = 1 ∨ v = 2 ∨ v = 3 ∨ v = 4 ∨ v = 5 ∨ v = 6 := by omega
  rcases h with rfl | rfl | rfl | rfl | rfl | rfl | rfl
  · exact .drew (.tree _ c0_0) a_ls0
  · exact .drew (.tree _ c1_0) a_ls1
  · exact n_0
  · exact n_1
  · exact n_2
  · exact n_3
  · exact n_4
end Go.Proofs.Ytnglbchhlpbgkab.fnSignRuns
