/- Runs of the program at a seat. -/
import Derived.Test.YtnglbchhlpbgkabNewtonD0
import Derived.Test.YtnglbchhlpbgkabNewtonD1
import Derived.Test.YtnglbchhlpbgkabNewtonD2
import Derived.Test.YtnglbchhlpbgkabNewtonD3
import Derived.Test.YtnglbchhlpbgkabNewtonD4
import Derived.Test.YtnglbchhlpbgkabNewtonD5
import Derived.Test.YtnglbchhlpbgkabFnNewtonR0
import Derived.Test.YtnglbchhlpbgkabFnNewtonR1
import Derived.Test.YtnglbchhlpbgkabFnNewtonR2
import Derived.Test.YtnglbchhlpbgkabFnNewtonR3
import Derived.Test.YtnglbchhlpbgkabFnNewtonR4
import Derived.Test.YtnglbchhlpbgkabFnNewtonR5
namespace Go.Proofs.Ytnglbchhlpbgkab.fnNewtonRuns
open Go Go.Eng
set_option linter.unusedVariables false
set_option linter.unusedSectionVars false
set_option linter.unusedSimpArgs false
open Go.Proofs.Ytnglbchhlpbgkab.newtonDrawn
theorem a_ls0 : A ls0 := ⟨r_d0, r_d1, r_d2, r_d3, r_d4, r_d5, r_d52, r_d53, r_d54, r_d55, r_d56, r_d57, r_d58, trivial⟩
theorem a_ls1 : A ls1 := ⟨r_d6, r_d7, r_d8, r_d9, r_d10, r_d11, r_d52, r_d53, r_d54, r_d55, r_d56, r_d57, r_d58, trivial⟩
theorem a_ls2 : A ls2 := ⟨r_d12, r_d13, r_d14, r_d15, r_d16, r_d17, r_d18, r_d52, r_d53, r_d54, r_d55, r_d56, r_d57, r_d58, trivial⟩
theorem a_ls3 : A ls3 := ⟨r_d19, r_d20, r_d21, r_d22, r_d23, r_d24, r_d25, r_d26, r_d27, r_d52, r_d53, r_d54, r_d55, r_d56, r_d57, r_d58, trivial⟩
theorem a_ls4 : A ls4 := ⟨r_d28, r_d29, r_d30, r_d31, r_d32, r_d33, r_d34, r_d35, r_d36, r_d37, r_d38, r_d52, r_d53, r_d54, r_d55, r_d56, r_d57, r_d58, trivial⟩
theorem a_ls5 : A ls5 := ⟨r_d39, r_d40, r_d41, r_d42, r_d43, r_d44, r_d45, r_d46, r_d47, r_d48, r_d49, r_d50, r_d51, r_d52, r_d53, r_d54, r_d55, r_d56, r_d57, r_d58, trivial⟩
theorem n_0 : G [(6, 0, 0)] := CoversG.part 4099 (by kernel_rfl) fun v hv => by
  have h : v = 0 ∨ v = 1 ∨ v = 2 := by omega
  rcases h with rfl | rfl | rfl
  · exact .drewM (.ask (.pts [] (by kernel_rfl) (by kernel_rfl) (.three 8252 (by kernel_rfl) (.two 16408 (by kernel_rfl) (.two 20504 (by kernel_rfl) (.tree _ cn0_0_p0) (.tree _ cn0_0_p1)) (.two 20504 (by kernel_rfl) (.tree _ cn0_0_p2) (.tree _ cn0_0_p3))) (.two 16408 (by kernel_rfl) (.two 20504 (by kernel_rfl) (.tree _ cn0_0_p4) (.tree _ cn0_0_p5)) (.two 20504 (by kernel_rfl) (.tree _ cn0_0_p6) (.tree _ cn0_0_p7))) (.two 16408 (by kernel_rfl) (.two 20504 (by kernel_rfl) (.tree _ cn0_0_p8) (.tree _ cn0_0_p9)) (.two 20504 (by kernel_rfl) (.tree _ cn0_0_p10) (.tree _ cn0_0_p11)))))) a_ls0
  · exact .drewM (.ask (.pts [] (by kernel_rfl) (by kernel_rfl) (.three 8252 (by kernel_rfl) (.two 16408 (by kernel_rfl) (.two 20504 (by kernel_rfl) (.tree _ cn0_1_p0) (.tree _ cn0_1_p1)) (.two 20504 (by kernel_rfl) (.tree _ cn0_1_p2) (.tree _ cn0_1_p3))) (.two 16408 (by kernel_rfl) (.two 20504 (by kernel_rfl) (.tree _ cn0_1_p4) (.tree _ cn0_1_p5)) (.two 20504 (by kernel_rfl) (.tree _ cn0_1_p6) (.tree _ cn0_1_p7))) (.two 16408 (by kernel_rfl) (.two 20504 (by kernel_rfl) (.tree _ cn0_1_p8) (.tree _ cn0_1_p9)) (.two 20504 (by kernel_rfl) (.tree _ cn0_1_p10) (.tree _ cn0_1_p11)))))) a_ls0
  · exact .drewM (.ask (.pts [] (by kernel_rfl) (by kernel_rfl) (.three 8252 (by kernel_rfl) (.two 16408 (by kernel_rfl) (.two 20504 (by kernel_rfl) (.tree _ cn0_2_p0) (.tree _ cn0_2_p1)) (.two 20504 (by kernel_rfl) (.tree _ cn0_2_p2) (.tree _ cn0_2_p3))) (.two 16408 (by kernel_rfl) (.two 20504 (by kernel_rfl) (.tree _ cn0_2_p4) (.tree _ cn0_2_p5)) (.two 20504 (by kernel_rfl) (.tree _ cn0_2_p6) (.tree _ cn0_2_p7))) (.two 16408 (by kernel_rfl) (.two 20504 (by kernel_rfl) (.tree _ cn0_2_p8) (.tree _ cn0_2_p9)) (.two 20504 (by kernel_rfl) (.tree _ cn0_2_p10) (.tree _ cn0_2_p11)))))) a_ls0
theorem n_1 : G [(6, 1, 1)] := CoversG.part 4099 (by kernel_rfl) fun v hv => by
  have h : v = 0 ∨ v = 1 ∨ v = 2 := by omega
  rcases h with rfl | rfl | rfl
  · exact .drewM (.ask (.pts [8195] (by kernel_rfl) (by kernel_rfl) (.three 12348 (by kernel_rfl) (.two 20504 (by kernel_rfl) (.two 24600 (by kernel_rfl) (.tree _ cn1_0_p0) (.tree _ cn1_0_p1)) (.two 24600 (by kernel_rfl) (.tree _ cn1_0_p2) (.tree _ cn1_0_p3))) (.two 20504 (by kernel_rfl) (.two 24600 (by kernel_rfl) (.tree _ cn1_0_p4) (.tree _ cn1_0_p5)) (.two 24600 (by kernel_rfl) (.tree _ cn1_0_p6) (.tree _ cn1_0_p7))) (.two 20504 (by kernel_rfl) (.two 24600 (by kernel_rfl) (.tree _ cn1_0_p8) (.tree _ cn1_0_p9)) (.two 24600 (by kernel_rfl) (.tree _ cn1_0_p10) (.tree _ cn1_0_p11)))))) a_ls1
  · exact .drewM (.ask (.pts [8197] (by kernel_rfl) (by kernel_rfl) (.three 12348 (by kernel_rfl) (.two 20504 (by kernel_rfl) (.two 24600 (by kernel_rfl) (.tree _ cn1_1_p0) (.tree _ cn1_1_p1)) (.two 24600 (by kernel_rfl) (.tree _ cn1_1_p2) (.tree _ cn1_1_p3))) (.two 20504 (by kernel_rfl) (.two 24600 (by kernel_rfl) (.tree _ cn1_1_p4) (.tree _ cn1_1_p5)) (.two 24600 (by kernel_rfl) (.tree _ cn1_1_p6) (.tree _ cn1_1_p7))) (.two 20504 (by kernel_rfl) (.two 24600 (by kernel_rfl) (.tree _ cn1_1_p8) (.tree _ cn1_1_p9)) (.two 24600 (by kernel_rfl) (.tree _ cn1_1_p10) (.tree _ cn1_1_p11)))))) a_ls1
  · exact .drewM (.ask (.pts [8199] (by kernel_rfl) (by kernel_rfl) (.three 12348 (by kernel_rfl) (.two 20504 (by kernel_rfl) (.two 24600 (by kernel_rfl) (.tree _ cn1_2_p0) (.tree _ cn1_2_p1)) (.two 24600 (by kernel_rfl) (.tree _ cn1_2_p2) (.tree _ cn1_2_p3))) (.two 20504 (by kernel_rfl) (.two 24600 (by kernel_rfl) (.tree _ cn1_2_p4) (.tree _ cn1_2_p5)) (.two 24600 (by kernel_rfl) (.tree _ cn1_2_p6) (.tree _ cn1_2_p7))) (.two 20504 (by kernel_rfl) (.two 24600 (by kernel_rfl) (.tree _ cn1_2_p8) (.tree _ cn1_2_p9)) (.two 24600 (by kernel_rfl) (.tree _ cn1_2_p10) (.tree _ cn1_2_p11)))))) a_ls1
theorem n_2 : G [(6, 2, 2)] := CoversG.part 4099 (by kernel_rfl) fun v hv => by
  have h : v = 0 ∨ v = 1 ∨ v = 2 := by omega
  rcases h with rfl | rfl | rfl
  · exact .drewM (.ask (.pts [8195, 12291] (by kernel_rfl) (by kernel_rfl) (.three 16444 (by kernel_rfl) (.two 24600 (by kernel_rfl) (.two 28696 (by kernel_rfl) (.tree _ cn2_0_p0) (.tree _ cn2_0_p1)) (.two 28696 (by kernel_rfl) (.tree _ cn2_0_p2) (.tree _ cn2_0_p3))) (.two 24600 (by kernel_rfl) (.two 28696 (by kernel_rfl) (.tree _ cn2_0_p4) (.tree _ cn2_0_p5)) (.two 28696 (by kernel_rfl) (.tree _ cn2_0_p6) (.tree _ cn2_0_p7))) (.two 24600 (by kernel_rfl) (.two 28696 (by kernel_rfl) (.tree _ cn2_0_p8) (.tree _ cn2_0_p9)) (.two 28696 (by kernel_rfl) (.tree _ cn2_0_p10) (.tree _ cn2_0_p11)))))) a_ls2
  · exact .drewM (.ask (.pts [8197, 12293] (by kernel_rfl) (by kernel_rfl) (.three 16444 (by kernel_rfl) (.two 24600 (by kernel_rfl) (.two 28696 (by kernel_rfl) (.tree _ cn2_1_p0) (.tree _ cn2_1_p1)) (.two 28696 (by kernel_rfl) (.tree _ cn2_1_p2) (.tree _ cn2_1_p3))) (.two 24600 (by kernel_rfl) (.two 28696 (by kernel_rfl) (.tree _ cn2_1_p4) (.tree _ cn2_1_p5)) (.two 28696 (by kernel_rfl) (.tree _ cn2_1_p6) (.tree _ cn2_1_p7))) (.two 24600 (by kernel_rfl) (.two 28696 (by kernel_rfl) (.tree _ cn2_1_p8) (.tree _ cn2_1_p9)) (.two 28696 (by kernel_rfl) (.tree _ cn2_1_p10) (.tree _ cn2_1_p11)))))) a_ls2
  · exact .drewM (.ask (.pts [8199, 12295] (by kernel_rfl) (by kernel_rfl) (.three 16444 (by kernel_rfl) (.two 24600 (by kernel_rfl) (.two 28696 (by kernel_rfl) (.tree _ cn2_2_p0) (.tree _ cn2_2_p1)) (.two 28696 (by kernel_rfl) (.tree _ cn2_2_p2) (.tree _ cn2_2_p3))) (.two 24600 (by kernel_rfl) (.two 28696 (by kernel_rfl) (.tree _ cn2_2_p4) (.tree _ cn2_2_p5)) (.two 28696 (by kernel_rfl) (.tree _ cn2_2_p6) (.tree _ cn2_2_p7))) (.two 24600 (by kernel_rfl) (.two 28696 (by kernel_rfl) (.tree _ cn2_2_p8) (.tree _ cn2_2_p9)) (.two 28696 (by kernel_rfl) (.tree _ cn2_2_p10) (.tree _ cn2_2_p11)))))) a_ls2
theorem n_3 : G [(6, 3, 3)] := CoversG.part 4099 (by kernel_rfl) fun v hv => by
  have h : v = 0 ∨ v = 1 ∨ v = 2 := by omega
  rcases h with rfl | rfl | rfl
  · exact .drewM (.ask (.pts [8195, 12291, 16387] (by kernel_rfl) (by kernel_rfl) (.three 20540 (by kernel_rfl) (.two 28696 (by kernel_rfl) (.two 32792 (by kernel_rfl) (.tree _ cn3_0_p0) (.tree _ cn3_0_p1)) (.two 32792 (by kernel_rfl) (.tree _ cn3_0_p2) (.tree _ cn3_0_p3))) (.two 28696 (by kernel_rfl) (.two 32792 (by kernel_rfl) (.tree _ cn3_0_p4) (.tree _ cn3_0_p5)) (.two 32792 (by kernel_rfl) (.tree _ cn3_0_p6) (.tree _ cn3_0_p7))) (.two 28696 (by kernel_rfl) (.two 32792 (by kernel_rfl) (.tree _ cn3_0_p8) (.tree _ cn3_0_p9)) (.two 32792 (by kernel_rfl) (.tree _ cn3_0_p10) (.tree _ cn3_0_p11)))))) a_ls3
  · exact .drewM (.ask (.pts [8197, 12293, 16389] (by kernel_rfl) (by kernel_rfl) (.three 20540 (by kernel_rfl) (.two 28696 (by kernel_rfl) (.two 32792 (by kernel_rfl) (.tree _ cn3_1_p0) (.tree _ cn3_1_p1)) (.two 32792 (by kernel_rfl) (.tree _ cn3_1_p2) (.tree _ cn3_1_p3))) (.two 28696 (by kernel_rfl) (.two 32792 (by kernel_rfl) (.tree _ cn3_1_p4) (.tree _ cn3_1_p5)) (.two 32792 (by kernel_rfl) (.tree _ cn3_1_p6) (.tree _ cn3_1_p7))) (.two 28696 (by kernel_rfl) (.two 32792 (by kernel_rfl) (.tree _ cn3_1_p8) (.tree _ cn3_1_p9)) (.two 32792 (by kernel_rfl) (.tree _ cn3_1_p10) (.tree _ cn3_1_p11)))))) a_ls3
  · exact .drewM (.ask (.pts [8199, 12295, 16391] (by kernel_rfl) (by kernel_rfl) (.three 20540 (by kernel_rfl) (.two 28696 (by kernel_rfl) (.two 32792 (by kernel_rfl) (.tree _ cn3_2_p0) (.tree _ cn3_2_p1)) (.two 32792 (by kernel_rfl) (.tree _ cn3_2_p2) (.tree _ cn3_2_p3))) (.two 28696 (by kernel_rfl) (.two 32792 (by kernel_rfl) (.tree _ cn3_2_p4) (.tree _ cn3_2_p5)) (.two 32792 (by kernel_rfl) (.tree _ cn3_2_p6) (.tree _ cn3_2_p7))) (.two 28696 (by kernel_rfl) (.two 32792 (by kernel_rfl) (.tree _ cn3_2_p8) (.tree _ cn3_2_p9)) (.two 32792 (by kernel_rfl) (.tree _ cn3_2_p10) (.tree _ cn3_2_p11)))))) a_ls3
theorem n_4 : G [(6, 4, 4)] := CoversG.part 4099 (by kernel_rfl) fun v hv => by
  have h : v = 0 ∨ v = 1 ∨ v = 2 := by omega
  rcases h with rfl | rfl | rfl
  · exact .drewM (.ask (.pts [8195, 12291, 16387, 20483] (by kernel_rfl) (by kernel_rfl) (.three 24636 (by kernel_rfl) (.two 32792 (by kernel_rfl) (.two 36888 (by kernel_rfl) (.tree _ cn4_0_p0) (.tree _ cn4_0_p1)) (.two 36888 (by kernel_rfl) (.tree _ cn4_0_p2) (.tree _ cn4_0_p3))) (.two 32792 (by kernel_rfl) (.two 36888 (by kernel_rfl) (.tree _ cn4_0_p4) (.tree _ cn4_0_p5)) (.two 36888 (by kernel_rfl) (.tree _ cn4_0_p6) (.tree _ cn4_0_p7))) (.two 32792 (by kernel_rfl) (.two 36888 (by kernel_rfl) (.tree _ cn4_0_p8) (.tree _ cn4_0_p9)) (.two 36888 (by kernel_rfl) (.tree _ cn4_0_p10) (.tree _ cn4_0_p11)))))) a_ls4
  · exact .drewM (.ask (.pts [8197, 12293, 16389, 20485] (by kernel_rfl) (by kernel_rfl) (.three 24636 (by kernel_rfl) (.two 32792 (by kernel_rfl) (.two 36888 (by kernel_rfl) (.tree _ cn4_1_p0) (.tree _ cn4_1_p1)) (.two 36888 (by kernel_rfl) (.tree _ cn4_1_p2) (.tree _ cn4_1_p3))) (.two 32792 (by kernel_rfl) (.two 36888 (by kernel_rfl) (.tree _ cn4_1_p4) (.tree _ cn4_1_p5)) (.two 36888 (by kernel_rfl) (.tree _ cn4_1_p6) (.tree _ cn4_1_p7))) (.two 32792 (by kernel_rfl) (.two 36888 (by kernel_rfl) (.tree _ cn4_1_p8) (.tree _ cn4_1_p9)) (.two 36888 (by kernel_rfl) (.tree _ cn4_1_p10) (.tree _ cn4_1_p11)))))) a_ls4
  · exact .drewM (.ask (.pts [8199, 12295, 16391, 20487] (by kernel_rfl) (by kernel_rfl) (.three 24636 (by kernel_rfl) (.two 32792 (by kernel_rfl) (.two 36888 (by kernel_rfl) (.tree _ cn4_2_p0) (.tree _ cn4_2_p1)) (.two 36888 (by kernel_rfl) (.tree _ cn4_2_p2) (.tree _ cn4_2_p3))) (.two 32792 (by kernel_rfl) (.two 36888 (by kernel_rfl) (.tree _ cn4_2_p4) (.tree _ cn4_2_p5)) (.two 36888 (by kernel_rfl) (.tree _ cn4_2_p6) (.tree _ cn4_2_p7))) (.two 32792 (by kernel_rfl) (.two 36888 (by kernel_rfl) (.tree _ cn4_2_p8) (.tree _ cn4_2_p9)) (.two 36888 (by kernel_rfl) (.tree _ cn4_2_p10) (.tree _ cn4_2_p11)))))) a_ls4
theorem n_5 : G [(6, 5, 5)] := CoversG.part 4099 (by kernel_rfl) fun v hv => by
  have h : v = 0 ∨ v = 1 ∨ v = 2 := by omega
  rcases h with rfl | rfl | rfl
  · exact .drewM (.ask (.pts [8195, 12291, 16387, 20483, 24579] (by kernel_rfl) (by kernel_rfl) (.three 28732 (by kernel_rfl) (.two 36888 (by kernel_rfl) (.two 40984 (by kernel_rfl) (.tree _ cn5_0_p0) (.tree _ cn5_0_p1)) (.two 40984 (by kernel_rfl) (.tree _ cn5_0_p2) (.tree _ cn5_0_p3))) (.two 36888 (by kernel_rfl) (.two 40984 (by kernel_rfl) (.tree _ cn5_0_p4) (.tree _ cn5_0_p5)) (.two 40984 (by kernel_rfl) (.tree _ cn5_0_p6) (.tree _ cn5_0_p7))) (.two 36888 (by kernel_rfl) (.two 40984 (by kernel_rfl) (.tree _ cn5_0_p8) (.tree _ cn5_0_p9)) (.two 40984 (by kernel_rfl) (.tree _ cn5_0_p10) (.tree _ cn5_0_p11)))))) a_ls5
  · exact .drewM (.ask (.pts [8197, 12293, 16389, 20485, 24581] (by kernel_rfl) (by kernel_rfl) (.three 28732 (by kernel_rfl) (.two 36888 (by kernel_rfl) (.two 40984 (by kernel_rfl) (.tree _ cn5_1_p0) (.tree _ cn5_1_p1)) (.two 40984 (by kernel_rfl) (.tree _ cn5_1_p2) (.tree _ cn5_1_p3))) (.two 36888 (by kernel_rfl) (.two 40984 (by kernel_rfl) (.tree _ cn5_1_p4) (.tree _ cn5_1_p5)) (.two 40984 (by kernel_rfl) (.tree _ cn5_1_p6) (.tree _ cn5_1_p7))) (.two 36888 (by kernel_rfl) (.two 40984 (by kernel_rfl) (.tree _ cn5_1_p8) (.tree _ cn5_1_p9)) (.two 40984 (by kernel_rfl) (.tree _ cn5_1_p10) (.tree _ cn5_1_p11)))))) a_ls5
  · exact .drewM (.ask (.pts [8199, 12295, 16391, 20487, 24583] (by kernel_rfl) (by kernel_rfl) (.three 28732 (by kernel_rfl) (.two 36888 (by kernel_rfl) (.two 40984 (by kernel_rfl) (.tree _ cn5_2_p0) (.tree _ cn5_2_p1)) (.two 40984 (by kernel_rfl) (.tree _ cn5_2_p2) (.tree _ cn5_2_p3))) (.two 36888 (by kernel_rfl) (.two 40984 (by kernel_rfl) (.tree _ cn5_2_p4) (.tree _ cn5_2_p5)) (.two 40984 (by kernel_rfl) (.tree _ cn5_2_p6) (.tree _ cn5_2_p7))) (.two 36888 (by kernel_rfl) (.two 40984 (by kernel_rfl) (.tree _ cn5_2_p8) (.tree _ cn5_2_p9)) (.two 40984 (by kernel_rfl) (.tree _ cn5_2_p10) (.tree _ cn5_2_p11)))))) a_ls5
theorem n_6 : G [] := CoversG.part 6 (by kernel_rfl) fun v hv => by
  have h : v = 0 ∨ v = 1 ∨ v = 2 ∨ v = 3 ∨ v = 4 ∨ v = 5 := by omega
  rcases h with rfl | rfl | rfl | rfl | rfl | rfl
  · exact n_0
  · exact n_1
  · exact n_2
  · exact n_3
  · exact n_4
  · exact n_5
end Go.Proofs.Ytnglbchhlpbgkab.fnNewtonRuns
