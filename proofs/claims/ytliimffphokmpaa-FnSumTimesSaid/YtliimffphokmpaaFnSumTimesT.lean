/- Runs of the program at a seat. -/
import Derived.Test.YtliimffphokmpaaDssumtimesD0
import Derived.Test.YtliimffphokmpaaDssumtimesD1
import Derived.Test.YtliimffphokmpaaDssumtimesD2
import Derived.Test.YtliimffphokmpaaDssumtimesD3
import Derived.Test.YtliimffphokmpaaDssumtimesD4
import Derived.Test.YtliimffphokmpaaDssumtimesD5
import Derived.Test.YtliimffphokmpaaFnSumTimesR0
import Derived.Test.YtliimffphokmpaaFnSumTimesR1
import Derived.Test.YtliimffphokmpaaFnSumTimesR2
import Derived.Test.YtliimffphokmpaaFnSumTimesR3
import Derived.Test.YtliimffphokmpaaFnSumTimesR4
import Derived.Test.YtliimffphokmpaaFnSumTimesR5
import Derived.Test.YtliimffphokmpaaFnSumTimesR6
import Derived.Test.YtliimffphokmpaaFnSumTimesR7
import Derived.Test.YtliimffphokmpaaFnSumTimesR8
import Derived.Test.YtliimffphokmpaaFnSumTimesR12
namespace Go.Proofs.Ytliimffphokmpaa.fnSumTimesRuns
open Go Go.Eng
set_option linter.unusedVariables false
set_option linter.unusedSectionVars false
set_option linter.unusedSimpArgs false
set_option maxRecDepth 100000
open Go.Proofs.Ytliimffphokmpaa.dssumtimes
theorem g_a0_0_1 : Good t_a0_0_1 := .part 4 549756813884 549756813892 [(549756813884, 549756813888), (549756813889, 549756813892)] (by decide) (by decide) (by kernel_rfl) (cm g_a0_0_1_0 (cm g_a0_0_1_1 (nm)))
theorem g_a1_0_1 : Good t_a1_0_1 := .part 4 549756813884 549756813892 [(549756813884, 549756813888), (549756813889, 549756813892)] (by decide) (by decide) (by kernel_rfl) (cm g_a1_0_1_0 (cm g_a1_0_1_1 (nm)))
theorem g_a2_0_1 : Good t_a2_0_1 := .part 4 549756813884 549756813892 [(549756813884, 549756813888), (549756813889, 549756813892)] (by decide) (by decide) (by kernel_rfl) (cm g_a2_0_1_0 (cm g_a2_0_1_1 (nm)))
theorem g_a3_0_1 : Good t_a3_0_1 := .part 4 549756813884 549756813892 [(549756813884, 549756813888), (549756813889, 549756813892)] (by decide) (by decide) (by kernel_rfl) (cm g_a3_0_1_0 (cm g_a3_0_1_1 (nm)))
theorem g_a4_0_1 : Good t_a4_0_1 := .part 4 549756813884 549756813892 [(549756813884, 549756813888), (549756813889, 549756813892)] (by decide) (by decide) (by kernel_rfl) (cm g_a4_0_1_0 (cm g_a4_0_1_1 (nm)))
theorem g_a0_1_1 : Good t_a0_1_1 := .part 4 549756813884 549756813892 [(549756813884, 549756813888), (549756813889, 549756813892)] (by decide) (by decide) (by kernel_rfl) (cm g_a0_1_1_0 (cm g_a0_1_1_1 (nm)))
theorem g_a1_1_1 : Good t_a1_1_1 := .part 4 549756813884 549756813892 [(549756813884, 549756813888), (549756813889, 549756813892)] (by decide) (by decide) (by kernel_rfl) (cm g_a1_1_1_0 (cm g_a1_1_1_1 (nm)))
theorem g_a2_1_1 : Good t_a2_1_1 := .part 4 549756813884 549756813892 [(549756813884, 549756813888), (549756813889, 549756813892)] (by decide) (by decide) (by kernel_rfl) (cm g_a2_1_1_0 (cm g_a2_1_1_1 (nm)))
theorem g_a3_1_1 : Good t_a3_1_1 := .part 4 549756813884 549756813892 [(549756813884, 549756813888), (549756813889, 549756813892)] (by decide) (by decide) (by kernel_rfl) (cm g_a3_1_1_0 (cm g_a3_1_1_1 (nm)))
theorem g_a4_1_1 : Good t_a4_1_1 := .part 4 549756813884 549756813892 [(549756813884, 549756813888), (549756813889, 549756813892)] (by decide) (by decide) (by kernel_rfl) (cm g_a4_1_1_0 (cm g_a4_1_1_1 (nm)))
theorem g_a0_2_1 : Good t_a0_2_1 := .part 4 549756813884 549756813892 [(549756813884, 549756813888), (549756813889, 549756813892)] (by decide) (by decide) (by kernel_rfl) (cm g_a0_2_1_0 (cm g_a0_2_1_1 (nm)))
theorem g_a1_2_1 : Good t_a1_2_1 := .part 4 549756813884 549756813892 [(549756813884, 549756813888), (549756813889, 549756813892)] (by decide) (by decide) (by kernel_rfl) (cm g_a1_2_1_0 (cm g_a1_2_1_1 (nm)))
theorem g_a2_2_1 : Good t_a2_2_1 := .part 4 549756813884 549756813892 [(549756813884, 549756813888), (549756813889, 549756813892)] (by decide) (by decide) (by kernel_rfl) (cm g_a2_2_1_0 (cm g_a2_2_1_1 (nm)))
theorem g_a3_2_1 : Good t_a3_2_1 := .part 4 549756813884 549756813892 [(549756813884, 549756813888), (549756813889, 549756813892)] (by decide) (by decide) (by kernel_rfl) (cm g_a3_2_1_0 (cm g_a3_2_1_1 (nm)))
theorem g_a4_2_1 : Good t_a4_2_1 := .part 4 549756813884 549756813892 [(549756813884, 549756813888), (549756813889, 549756813892)] (by decide) (by decide) (by kernel_rfl) (cm g_a4_2_1_0 (cm g_a4_2_1_1 (nm)))
theorem g_a0_3_1 : Good t_a0_3_1 := .part 4 549756813884 549756813892 [(549756813884, 549756813888), (549756813889, 549756813892)] (by decide) (by decide) (by kernel_rfl) (cm g_a0_3_1_0 (cm g_a0_3_1_1 (nm)))
theorem g_a1_3_1 : Good t_a1_3_1 := .part 4 549756813884 549756813892 [(549756813884, 549756813888), (549756813889, 549756813892)] (by decide) (by decide) (by kernel_rfl) (cm g_a1_3_1_0 (cm g_a1_3_1_1 (nm)))
theorem g_a2_3_1 : Good t_a2_3_1 := .part 4 549756813884 549756813892 [(549756813884, 549756813888), (549756813889, 549756813892)] (by decide) (by decide) (by kernel_rfl) (cm g_a2_3_1_0 (cm g_a2_3_1_1 (nm)))
theorem g_a3_3_1 : Good t_a3_3_1 := .part 4 549756813884 549756813892 [(549756813884, 549756813888), (549756813889, 549756813892)] (by decide) (by decide) (by kernel_rfl) (cm g_a3_3_1_0 (cm g_a3_3_1_1 (nm)))
theorem g_a4_3_1 : Good t_a4_3_1 := .part 4 549756813884 549756813892 [(549756813884, 549756813888), (549756813889, 549756813892)] (by decide) (by decide) (by kernel_rfl) (cm g_a4_3_1_0 (cm g_a4_3_1_1 (nm)))
theorem g_a0_4_1 : Good t_a0_4_1 := .part 4 549756813884 549756813892 [(549756813884, 549756813888), (549756813889, 549756813892)] (by decide) (by decide) (by kernel_rfl) (cm g_a0_4_1_0 (cm g_a0_4_1_1 (nm)))
theorem g_a1_4_1 : Good t_a1_4_1 := .part 4 549756813884 549756813892 [(549756813884, 549756813888), (549756813889, 549756813892)] (by decide) (by decide) (by kernel_rfl) (cm g_a1_4_1_0 (cm g_a1_4_1_1 (nm)))
theorem g_a2_4_1 : Good t_a2_4_1 := .part 4 549756813884 549756813892 [(549756813884, 549756813888), (549756813889, 549756813892)] (by decide) (by decide) (by kernel_rfl) (cm g_a2_4_1_0 (cm g_a2_4_1_1 (nm)))
theorem g_a3_4_1 : Good t_a3_4_1 := .part 4 549756813884 549756813892 [(549756813884, 549756813888), (549756813889, 549756813892)] (by decide) (by decide) (by kernel_rfl) (cm g_a3_4_1_0 (cm g_a3_4_1_1 (nm)))
theorem g_a4_4_1 : Good t_a4_4_1 := .part 4 549756813884 549756813892 [(549756813884, 549756813888), (549756813889, 549756813892)] (by decide) (by decide) (by kernel_rfl) (cm g_a4_4_1_0 (cm g_a4_4_1_1 (nm)))
theorem g_a0_5_1 : Good t_a0_5_1 := .part 4 549756813884 549756813892 [(549756813884, 549756813888), (549756813889, 549756813892)] (by decide) (by decide) (by kernel_rfl) (cm g_a0_5_1_0 (cm g_a0_5_1_1 (nm)))
theorem g_a1_5_1 : Good t_a1_5_1 := .part 4 549756813884 549756813892 [(549756813884, 549756813888), (549756813889, 549756813892)] (by decide) (by decide) (by kernel_rfl) (cm g_a1_5_1_0 (cm g_a1_5_1_1 (nm)))
theorem g_a2_5_1 : Good t_a2_5_1 := .part 4 549756813884 549756813892 [(549756813884, 549756813888), (549756813889, 549756813892)] (by decide) (by decide) (by kernel_rfl) (cm g_a2_5_1_0 (cm g_a2_5_1_1 (nm)))
theorem g_a3_5_1 : Good t_a3_5_1 := .part 4 549756813884 549756813892 [(549756813884, 549756813888), (549756813889, 549756813892)] (by decide) (by decide) (by kernel_rfl) (cm g_a3_5_1_0 (cm g_a3_5_1_1 (nm)))
theorem g_a4_5_1 : Good t_a4_5_1 := .part 4 549756813884 549756813892 [(549756813884, 549756813888), (549756813889, 549756813892)] (by decide) (by decide) (by kernel_rfl) (cm g_a4_5_1_0 (cm g_a4_5_1_1 (nm)))
theorem L0 : AG l_L0 := ⟨g_a0_0_0, g_a0_0_1, g_x0_0, g_x0_1, g_l0_0_0, g_l0_0_1, trivial⟩
theorem L1 : AG l_L1 := ⟨g_a1_0_0, g_a1_0_1, g_x0_0, g_x0_1, g_l1_0_0, g_l1_0_1, trivial⟩
theorem L2 : AG l_L2 := ⟨g_a2_0_0, g_a2_0_1, g_x0_0, g_x0_1, g_l2_0_0, g_l2_0_1, trivial⟩
theorem L3 : AG l_L3 := ⟨g_a3_0_0, g_a3_0_1, g_x0_0, g_x0_1, g_l3_0_0, g_l3_0_1, trivial⟩
theorem L4 : AG l_L4 := ⟨g_a4_0_0, g_a4_0_1, g_x0_0, g_x0_1, g_l4_0_0, g_l4_0_1, trivial⟩
theorem L5 : AG l_L5 := ⟨g_a0_1_0, g_a0_1_1, g_x1_0, g_x1_1, g_l0_1_0, g_l0_1_1, trivial⟩
theorem L6 : AG l_L6 := ⟨g_a1_1_0, g_a1_1_1, g_x1_0, g_x1_1, g_l1_1_0, g_l1_1_1, trivial⟩
theorem L7 : AG l_L7 := ⟨g_a2_1_0, g_a2_1_1, g_x1_0, g_x1_1, g_l2_1_0, g_l2_1_1, trivial⟩
theorem L8 : AG l_L8 := ⟨g_a3_1_0, g_a3_1_1, g_x1_0, g_x1_1, g_l3_1_0, g_l3_1_1, trivial⟩
theorem L9 : AG l_L9 := ⟨g_a4_1_0, g_a4_1_1, g_x1_0, g_x1_1, g_l4_1_0, g_l4_1_1, trivial⟩
theorem L10 : AG l_L10 := ⟨g_a0_2_0, g_a0_2_1, g_x2_0, g_x2_1, g_l0_2_0, g_l0_2_1, trivial⟩
theorem L11 : AG l_L11 := ⟨g_a1_2_0, g_a1_2_1, g_x2_0, g_x2_1, g_l1_2_0, g_l1_2_1, trivial⟩
theorem L12 : AG l_L12 := ⟨g_a2_2_0, g_a2_2_1, g_x2_0, g_x2_1, g_l2_2_0, g_l2_2_1, trivial⟩
theorem L13 : AG l_L13 := ⟨g_a3_2_0, g_a3_2_1, g_x2_0, g_x2_1, g_l3_2_0, g_l3_2_1, trivial⟩
theorem L14 : AG l_L14 := ⟨g_a4_2_0, g_a4_2_1, g_x2_0, g_x2_1, g_l4_2_0, g_l4_2_1, trivial⟩
theorem L15 : AG l_L15 := ⟨g_a0_3_0, g_a0_3_1, g_x3_0, g_x3_1, g_l0_3_0, g_l0_3_1, trivial⟩
theorem L16 : AG l_L16 := ⟨g_a1_3_0, g_a1_3_1, g_x3_0, g_x3_1, g_l1_3_0, g_l1_3_1, trivial⟩
theorem L17 : AG l_L17 := ⟨g_a2_3_0, g_a2_3_1, g_x3_0, g_x3_1, g_l2_3_0, g_l2_3_1, trivial⟩
theorem L18 : AG l_L18 := ⟨g_a3_3_0, g_a3_3_1, g_x3_0, g_x3_1, g_l3_3_0, g_l3_3_1, trivial⟩
theorem L19 : AG l_L19 := ⟨g_a4_3_0, g_a4_3_1, g_x3_0, g_x3_1, g_l4_3_0, g_l4_3_1, trivial⟩
theorem L20 : AG l_L20 := ⟨g_a0_4_0, g_a0_4_1, g_x4_0, g_x4_1, g_l0_4_0, g_l0_4_1, trivial⟩
theorem L21 : AG l_L21 := ⟨g_a1_4_0, g_a1_4_1, g_x4_0, g_x4_1, g_l1_4_0, g_l1_4_1, trivial⟩
theorem L22 : AG l_L22 := ⟨g_a2_4_0, g_a2_4_1, g_x4_0, g_x4_1, g_l2_4_0, g_l2_4_1, trivial⟩
theorem L23 : AG l_L23 := ⟨g_a3_4_0, g_a3_4_1, g_x4_0, g_x4_1, g_l3_4_0, g_l3_4_1, trivial⟩
theorem L24 : AG l_L24 := ⟨g_a4_4_0, g_a4_4_1, g_x4_0, g_x4_1, g_l4_4_0, g_l4_4_1, trivial⟩
theorem L25 : AG l_L25 := ⟨g_a0_5_0, g_a0_5_1, g_x5_0, g_x5_1, g_l0_5_0, g_l0_5_1, trivial⟩
theorem L26 : AG l_L26 := ⟨g_a1_5_0, g_a1_5_1, g_x5_0, g_x5_1, g_l1_5_0, g_l1_5_1, trivial⟩
theorem L27 : AG l_L27 := ⟨g_a2_5_0, g_a2_5_1, g_x5_0, g_x5_1, g_l2_5_0, g_l2_5_1, trivial⟩
theorem L28 : AG l_L28 := ⟨g_a3_5_0, g_a3_5_1, g_x5_0, g_x5_1, g_l3_5_0, g_l3_5_1, trivial⟩
theorem L29 : AG l_L29 := ⟨g_a4_5_0, g_a4_5_1, g_x5_0, g_x5_1, g_l4_5_0, g_l4_5_1, trivial⟩
theorem n4 : G [(16464, 0, 0), (8194, 0, 0), (4101, 0, 0), (6, 0, 0)] := CoversG.ptsK 16 [20489] (by kernel_rfl) (by kernel_rfl) (.drewF (.tree _ c0) L0)
theorem n5 : G [(16464, 1, 1), (8194, 0, 0), (4101, 0, 0), (6, 0, 0)] := CoversG.ptsK 16 [20489] (by kernel_rfl) (by kernel_rfl) (.drewF (.tree _ c1) L0)
theorem n6 : G [(16464, 2, 79), (8194, 0, 0), (4101, 0, 0), (6, 0, 0)] := CoversG.ptsK 16 [20489] (by kernel_rfl) (by kernel_rfl) (.drewF (.tree _ c2) L0)
theorem n3 : G [(8194, 0, 0), (4101, 0, 0), (6, 0, 0)] := CoversG.three 16464 (by kernel_rfl) (n4) (n5) (n6)
theorem n8 : G [(20560, 0, 0), (8194, 1, 1), (4101, 0, 0), (6, 0, 0)] := CoversG.ptsK 16 [24585] (by kernel_rfl) (by kernel_rfl) (.drewF (.tree _ c3) L0)
theorem n9 : G [(20560, 1, 1), (8194, 1, 1), (4101, 0, 0), (6, 0, 0)] := CoversG.ptsK 16 [24585] (by kernel_rfl) (by kernel_rfl) (.drewF (.tree _ c4) L0)
theorem n10 : G [(20560, 2, 79), (8194, 1, 1), (4101, 0, 0), (6, 0, 0)] := CoversG.ptsK 16 [24585] (by kernel_rfl) (by kernel_rfl) (.drewF (.tree _ c5) L0)
theorem n7 : G [(8194, 1, 1), (4101, 0, 0), (6, 0, 0)] := CoversG.three 20560 (by kernel_rfl) (n8) (n9) (n10)
theorem n2 : G [(4101, 0, 0), (6, 0, 0)] := CoversG.part 8194 (by kernel_rfl) fun v hv => by
  have h : v = 0 ∨ v = 1 := by omega
  rcases h with rfl | rfl
  · exact n3
  · exact n7
theorem n13 : G [(16464, 0, 0), (8194, 0, 0), (4101, 1, 1), (6, 0, 0)] := CoversG.ptsK 16 [20489] (by kernel_rfl) (by kernel_rfl) (.drewF (.tree _ c6) L1)
theorem n14 : G [(16464, 1, 1), (8194, 0, 0), (4101, 1, 1), (6, 0, 0)] := CoversG.ptsK 16 [20489] (by kernel_rfl) (by kernel_rfl) (.drewF (.tree _ c7) L1)
theorem n15 : G [(16464, 2, 79), (8194, 0, 0), (4101, 1, 1), (6, 0, 0)] := CoversG.ptsK 16 [20489] (by kernel_rfl) (by kernel_rfl) (.drewF (.tree _ c8) L1)
theorem n12 : G [(8194, 0, 0), (4101, 1, 1), (6, 0, 0)] := CoversG.three 16464 (by kernel_rfl) (n13) (n14) (n15)
theorem n17 : G [(20560, 0, 0), (8194, 1, 1), (4101, 1, 1), (6, 0, 0)] := CoversG.ptsK 16 [24585] (by kernel_rfl) (by kernel_rfl) (.drewF (.tree _ c9) L1)
theorem n18 : G [(20560, 1, 1), (8194, 1, 1), (4101, 1, 1), (6, 0, 0)] := CoversG.ptsK 16 [24585] (by kernel_rfl) (by kernel_rfl) (.drewF (.tree _ c10) L1)
theorem n19 : G [(20560, 2, 79), (8194, 1, 1), (4101, 1, 1), (6, 0, 0)] := CoversG.ptsK 16 [24585] (by kernel_rfl) (by kernel_rfl) (.drewF (.tree _ c11) L1)
theorem n16 : G [(8194, 1, 1), (4101, 1, 1), (6, 0, 0)] := CoversG.three 20560 (by kernel_rfl) (n17) (n18) (n19)
theorem n11 : G [(4101, 1, 1), (6, 0, 0)] := CoversG.part 8194 (by kernel_rfl) fun v hv => by
  have h : v = 0 ∨ v = 1 := by omega
  rcases h with rfl | rfl
  · exact n12
  · exact n16
theorem n22 : G [(16464, 0, 0), (8194, 0, 0), (4101, 2, 2), (6, 0, 0)] := CoversG.ptsK 16 [20489] (by kernel_rfl) (by kernel_rfl) (.drewF (.tree _ c12) L2)
theorem n23 : G [(16464, 1, 1), (8194, 0, 0), (4101, 2, 2), (6, 0, 0)] := CoversG.ptsK 16 [20489] (by kernel_rfl) (by kernel_rfl) (.drewF (.tree _ c13) L2)
theorem n24 : G [(16464, 2, 79), (8194, 0, 0), (4101, 2, 2), (6, 0, 0)] := CoversG.ptsK 16 [20489] (by kernel_rfl) (by kernel_rfl) (.drewF (.tree _ c14) L2)
theorem n21 : G [(8194, 0, 0), (4101, 2, 2), (6, 0, 0)] := CoversG.three 16464 (by kernel_rfl) (n22) (n23) (n24)
theorem n26 : G [(20560, 0, 0), (8194, 1, 1), (4101, 2, 2), (6, 0, 0)] := CoversG.ptsK 16 [24585] (by kernel_rfl) (by kernel_rfl) (.drewF (.tree _ c15) L2)
theorem n27 : G [(20560, 1, 1), (8194, 1, 1), (4101, 2, 2), (6, 0, 0)] := CoversG.ptsK 16 [24585] (by kernel_rfl) (by kernel_rfl) (.drewF (.tree _ c16) L2)
theorem n28 : G [(20560, 2, 79), (8194, 1, 1), (4101, 2, 2), (6, 0, 0)] := CoversG.ptsK 16 [24585] (by kernel_rfl) (by kernel_rfl) (.drewF (.tree _ c17) L2)
theorem n25 : G [(8194, 1, 1), (4101, 2, 2), (6, 0, 0)] := CoversG.three 20560 (by kernel_rfl) (n26) (n27) (n28)
theorem n20 : G [(4101, 2, 2), (6, 0, 0)] := CoversG.part 8194 (by kernel_rfl) fun v hv => by
  have h : v = 0 ∨ v = 1 := by omega
  rcases h with rfl | rfl
  · exact n21
  · exact n25
theorem n31 : G [(16464, 0, 0), (8194, 0, 0), (4101, 3, 3), (6, 0, 0)] := CoversG.ptsK 16 [20489] (by kernel_rfl) (by kernel_rfl) (.drewF (.tree _ c18) L3)
theorem n32 : G [(16464, 1, 1), (8194, 0, 0), (4101, 3, 3), (6, 0, 0)] := CoversG.ptsK 16 [20489] (by kernel_rfl) (by kernel_rfl) (.drewF (.tree _ c19) L3)
theorem n33 : G [(16464, 2, 79), (8194, 0, 0), (4101, 3, 3), (6, 0, 0)] := CoversG.ptsK 16 [20489] (by kernel_rfl) (by kernel_rfl) (.drewF (.tree _ c20) L3)
theorem n30 : G [(8194, 0, 0), (4101, 3, 3), (6, 0, 0)] := CoversG.three 16464 (by kernel_rfl) (n31) (n32) (n33)
theorem n35 : G [(20560, 0, 0), (8194, 1, 1), (4101, 3, 3), (6, 0, 0)] := CoversG.ptsK 16 [24585] (by kernel_rfl) (by kernel_rfl) (.drewF (.tree _ c21) L3)
theorem n36 : G [(20560, 1, 1), (8194, 1, 1), (4101, 3, 3), (6, 0, 0)] := CoversG.ptsK 16 [24585] (by kernel_rfl) (by kernel_rfl) (.drewF (.tree _ c22) L3)
theorem n37 : G [(20560, 2, 79), (8194, 1, 1), (4101, 3, 3), (6, 0, 0)] := CoversG.ptsK 16 [24585] (by kernel_rfl) (by kernel_rfl) (.drewF (.tree _ c23) L3)
theorem n34 : G [(8194, 1, 1), (4101, 3, 3), (6, 0, 0)] := CoversG.three 20560 (by kernel_rfl) (n35) (n36) (n37)
theorem n29 : G [(4101, 3, 3), (6, 0, 0)] := CoversG.part 8194 (by kernel_rfl) fun v hv => by
  have h : v = 0 ∨ v = 1 := by omega
  rcases h with rfl | rfl
  · exact n30
  · exact n34
theorem n40 : G [(16464, 0, 0), (8194, 0, 0), (4101, 4, 4), (6, 0, 0)] := CoversG.ptsK 16 [20489] (by kernel_rfl) (by kernel_rfl) (.drewF (.tree _ c24) L4)
theorem n41 : G [(16464, 1, 1), (8194, 0, 0), (4101, 4, 4), (6, 0, 0)] := CoversG.ptsK 16 [20489] (by kernel_rfl) (by kernel_rfl) (.drewF (.tree _ c25) L4)
theorem n42 : G [(16464, 2, 79), (8194, 0, 0), (4101, 4, 4), (6, 0, 0)] := CoversG.ptsK 16 [20489] (by kernel_rfl) (by kernel_rfl) (.drewF (.tree _ c26) L4)
theorem n39 : G [(8194, 0, 0), (4101, 4, 4), (6, 0, 0)] := CoversG.three 16464 (by kernel_rfl) (n40) (n41) (n42)
theorem n44 : G [(20560, 0, 0), (8194, 1, 1), (4101, 4, 4), (6, 0, 0)] := CoversG.ptsK 16 [24585] (by kernel_rfl) (by kernel_rfl) (.drewF (.tree _ c27) L4)
theorem n45 : G [(20560, 1, 1), (8194, 1, 1), (4101, 4, 4), (6, 0, 0)] := CoversG.ptsK 16 [24585] (by kernel_rfl) (by kernel_rfl) (.drewF (.tree _ c28) L4)
theorem n46 : G [(20560, 2, 79), (8194, 1, 1), (4101, 4, 4), (6, 0, 0)] := CoversG.ptsK 16 [24585] (by kernel_rfl) (by kernel_rfl) (.drewF (.tree _ c29) L4)
theorem n43 : G [(8194, 1, 1), (4101, 4, 4), (6, 0, 0)] := CoversG.three 20560 (by kernel_rfl) (n44) (n45) (n46)
theorem n38 : G [(4101, 4, 4), (6, 0, 0)] := CoversG.part 8194 (by kernel_rfl) fun v hv => by
  have h : v = 0 ∨ v = 1 := by omega
  rcases h with rfl | rfl
  · exact n39
  · exact n43
theorem n1 : G [(6, 0, 0)] := CoversG.part 4101 (by kernel_rfl) fun v hv => by
  have h : v = 0 ∨ v = 1 ∨ v = 2 ∨ v = 3 ∨ v = 4 := by omega
  rcases h with rfl | rfl | rfl | rfl | rfl
  · exact n2
  · exact n11
  · exact n20
  · exact n29
  · exact n38
theorem n50 : G [(16464, 0, 0), (8194, 0, 0), (4101, 0, 0), (6, 1, 1)] := CoversG.ptsK 16 [20489] (by kernel_rfl) (by kernel_rfl) (.drewF (.tree _ c30) L5)
theorem n51 : G [(16464, 1, 1), (8194, 0, 0), (4101, 0, 0), (6, 1, 1)] := CoversG.ptsK 16 [20489] (by kernel_rfl) (by kernel_rfl) (.drewF (.tree _ c31) L5)
theorem n52 : G [(16464, 2, 79), (8194, 0, 0), (4101, 0, 0), (6, 1, 1)] := CoversG.ptsK 16 [20489] (by kernel_rfl) (by kernel_rfl) (.drewF (.tree _ c32) L5)
theorem n49 : G [(8194, 0, 0), (4101, 0, 0), (6, 1, 1)] := CoversG.three 16464 (by kernel_rfl) (n50) (n51) (n52)
theorem n54 : G [(20560, 0, 0), (8194, 1, 1), (4101, 0, 0), (6, 1, 1)] := CoversG.ptsK 16 [24585] (by kernel_rfl) (by kernel_rfl) (.drewF (.tree _ c33) L5)
theorem n55 : G [(20560, 1, 1), (8194, 1, 1), (4101, 0, 0), (6, 1, 1)] := CoversG.ptsK 16 [24585] (by kernel_rfl) (by kernel_rfl) (.drewF (.tree _ c34) L5)
theorem n56 : G [(20560, 2, 79), (8194, 1, 1), (4101, 0, 0), (6, 1, 1)] := CoversG.ptsK 16 [24585] (by kernel_rfl) (by kernel_rfl) (.drewF (.tree _ c35) L5)
theorem n53 : G [(8194, 1, 1), (4101, 0, 0), (6, 1, 1)] := CoversG.three 20560 (by kernel_rfl) (n54) (n55) (n56)
theorem n48 : G [(4101, 0, 0), (6, 1, 1)] := CoversG.part 8194 (by kernel_rfl) fun v hv => by
  have h : v = 0 ∨ v = 1 := by omega
  rcases h with rfl | rfl
  · exact n49
  · exact n53
theorem n59 : G [(16464, 0, 0), (8194, 0, 0), (4101, 1, 1), (6, 1, 1)] := CoversG.ptsK 16 [20489] (by kernel_rfl) (by kernel_rfl) (.drewF (.tree _ c36) L6)
theorem n60 : G [(16464, 1, 1), (8194, 0, 0), (4101, 1, 1), (6, 1, 1)] := CoversG.ptsK 16 [20489] (by kernel_rfl) (by kernel_rfl) (.drewF (.tree _ c37) L6)
theorem n61 : G [(16464, 2, 79), (8194, 0, 0), (4101, 1, 1), (6, 1, 1)] := CoversG.ptsK 16 [20489] (by kernel_rfl) (by kernel_rfl) (.drewF (.tree _ c38) L6)
theorem n58 : G [(8194, 0, 0), (4101, 1, 1), (6, 1, 1)] := CoversG.three 16464 (by kernel_rfl) (n59) (n60) (n61)
theorem n63 : G [(20560, 0, 0), (8194, 1, 1), (4101, 1, 1), (6, 1, 1)] := CoversG.ptsK 16 [24585] (by kernel_rfl) (by kernel_rfl) (.drewF (.tree _ c39) L6)
theorem n64 : G [(20560, 1, 1), (8194, 1, 1), (4101, 1, 1), (6, 1, 1)] := CoversG.ptsK 16 [24585] (by kernel_rfl) (by kernel_rfl) (.drewF (.tree _ c40) L6)
theorem n65 : G [(20560, 2, 79), (8194, 1, 1), (4101, 1, 1), (6, 1, 1)] := CoversG.ptsK 16 [24585] (by kernel_rfl) (by kernel_rfl) (.drewF (.tree _ c41) L6)
theorem n62 : G [(8194, 1, 1), (4101, 1, 1), (6, 1, 1)] := CoversG.three 20560 (by kernel_rfl) (n63) (n64) (n65)
theorem n57 : G [(4101, 1, 1), (6, 1, 1)] := CoversG.part 8194 (by kernel_rfl) fun v hv => by
  have h : v = 0 ∨ v = 1 := by omega
  rcases h with rfl | rfl
  · exact n58
  · exact n62
theorem n68 : G [(16464, 0, 0), (8194, 0, 0), (4101, 2, 2), (6, 1, 1)] := CoversG.ptsK 16 [20489] (by kernel_rfl) (by kernel_rfl) (.drewF (.tree _ c42) L7)
theorem n69 : G [(16464, 1, 1), (8194, 0, 0), (4101, 2, 2), (6, 1, 1)] := CoversG.ptsK 16 [20489] (by kernel_rfl) (by kernel_rfl) (.drewF (.tree _ c43) L7)
theorem n70 : G [(16464, 2, 79), (8194, 0, 0), (4101, 2, 2), (6, 1, 1)] := CoversG.ptsK 16 [20489] (by kernel_rfl) (by kernel_rfl) (.drewF (.tree _ c44) L7)
theorem n67 : G [(8194, 0, 0), (4101, 2, 2), (6, 1, 1)] := CoversG.three 16464 (by kernel_rfl) (n68) (n69) (n70)
theorem n72 : G [(20560, 0, 0), (8194, 1, 1), (4101, 2, 2), (6, 1, 1)] := CoversG.ptsK 16 [24585] (by kernel_rfl) (by kernel_rfl) (.drewF (.tree _ c45) L7)
theorem n73 : G [(20560, 1, 1), (8194, 1, 1), (4101, 2, 2), (6, 1, 1)] := CoversG.ptsK 16 [24585] (by kernel_rfl) (by kernel_rfl) (.drewF (.tree _ c46) L7)
theorem n74 : G [(20560, 2, 79), (8194, 1, 1), (4101, 2, 2), (6, 1, 1)] := CoversG.ptsK 16 [24585] (by kernel_rfl) (by kernel_rfl) (.drewF (.tree _ c47) L7)
theorem n71 : G [(8194, 1, 1), (4101, 2, 2), (6, 1, 1)] := CoversG.three 20560 (by kernel_rfl) (n72) (n73) (n74)
theorem n66 : G [(4101, 2, 2), (6, 1, 1)] := CoversG.part 8194 (by kernel_rfl) fun v hv => by
  have h : v = 0 ∨ v = 1 := by omega
  rcases h with rfl | rfl
  · exact n67
  · exact n71
theorem n77 : G [(16464, 0, 0), (8194, 0, 0), (4101, 3, 3), (6, 1, 1)] := CoversG.ptsK 16 [20489] (by kernel_rfl) (by kernel_rfl) (.drewF (.tree _ c48) L8)
theorem n78 : G [(16464, 1, 1), (8194, 0, 0), (4101, 3, 3), (6, 1, 1)] := CoversG.ptsK 16 [20489] (by kernel_rfl) (by kernel_rfl) (.drewF (.tree _ c49) L8)
theorem n79 : G [(16464, 2, 79), (8194, 0, 0), (4101, 3, 3), (6, 1, 1)] := CoversG.ptsK 16 [20489] (by kernel_rfl) (by kernel_rfl) (.drewF (.tree _ c50) L8)
theorem n76 : G [(8194, 0, 0), (4101, 3, 3), (6, 1, 1)] := CoversG.three 16464 (by kernel_rfl) (n77) (n78) (n79)
theorem n81 : G [(20560, 0, 0), (8194, 1, 1), (4101, 3, 3), (6, 1, 1)] := CoversG.ptsK 16 [24585] (by kernel_rfl) (by kernel_rfl) (.drewF (.tree _ c51) L8)
theorem n82 : G [(20560, 1, 1), (8194, 1, 1), (4101, 3, 3), (6, 1, 1)] := CoversG.ptsK 16 [24585] (by kernel_rfl) (by kernel_rfl) (.drewF (.tree _ c52) L8)
theorem n83 : G [(20560, 2, 79), (8194, 1, 1), (4101, 3, 3), (6, 1, 1)] := CoversG.ptsK 16 [24585] (by kernel_rfl) (by kernel_rfl) (.drewF (.tree _ c53) L8)
theorem n80 : G [(8194, 1, 1), (4101, 3, 3), (6, 1, 1)] := CoversG.three 20560 (by kernel_rfl) (n81) (n82) (n83)
theorem n75 : G [(4101, 3, 3), (6, 1, 1)] := CoversG.part 8194 (by kernel_rfl) fun v hv => by
  have h : v = 0 ∨ v = 1 := by omega
  rcases h with rfl | rfl
  · exact n76
  · exact n80
theorem n86 : G [(16464, 0, 0), (8194, 0, 0), (4101, 4, 4), (6, 1, 1)] := CoversG.ptsK 16 [20489] (by kernel_rfl) (by kernel_rfl) (.drewF (.tree _ c54) L9)
theorem n87 : G [(16464, 1, 1), (8194, 0, 0), (4101, 4, 4), (6, 1, 1)] := CoversG.ptsK 16 [20489] (by kernel_rfl) (by kernel_rfl) (.drewF (.tree _ c55) L9)
theorem n88 : G [(16464, 2, 79), (8194, 0, 0), (4101, 4, 4), (6, 1, 1)] := CoversG.ptsK 16 [20489] (by kernel_rfl) (by kernel_rfl) (.drewF (.tree _ c56) L9)
theorem n85 : G [(8194, 0, 0), (4101, 4, 4), (6, 1, 1)] := CoversG.three 16464 (by kernel_rfl) (n86) (n87) (n88)
theorem n90 : G [(20560, 0, 0), (8194, 1, 1), (4101, 4, 4), (6, 1, 1)] := CoversG.ptsK 16 [24585] (by kernel_rfl) (by kernel_rfl) (.drewF (.tree _ c57) L9)
theorem n91 : G [(20560, 1, 1), (8194, 1, 1), (4101, 4, 4), (6, 1, 1)] := CoversG.ptsK 16 [24585] (by kernel_rfl) (by kernel_rfl) (.drewF (.tree _ c58) L9)
theorem n92 : G [(20560, 2, 79), (8194, 1, 1), (4101, 4, 4), (6, 1, 1)] := CoversG.ptsK 16 [24585] (by kernel_rfl) (by kernel_rfl) (.drewF (.tree _ c59) L9)
theorem n89 : G [(8194, 1, 1), (4101, 4, 4), (6, 1, 1)] := CoversG.three 20560 (by kernel_rfl) (n90) (n91) (n92)
theorem n84 : G [(4101, 4, 4), (6, 1, 1)] := CoversG.part 8194 (by kernel_rfl) fun v hv => by
  have h : v = 0 ∨ v = 1 := by omega
  rcases h with rfl | rfl
  · exact n85
  · exact n89
theorem n47 : G [(6, 1, 1)] := CoversG.part 4101 (by kernel_rfl) fun v hv => by
  have h : v = 0 ∨ v = 1 ∨ v = 2 ∨ v = 3 ∨ v = 4 := by omega
  rcases h with rfl | rfl | rfl | rfl | rfl
  · exact n48
  · exact n57
  · exact n66
  · exact n75
  · exact n84
theorem n96 : G [(20560, 0, 0), (8194, 0, 0), (4101, 0, 0), (6, 2, 2)] := CoversG.ptsK 16 [24585] (by kernel_rfl) (by kernel_rfl) (.drewF (.tree _ c60) L10)
theorem n97 : G [(20560, 1, 1), (8194, 0, 0), (4101, 0, 0), (6, 2, 2)] := CoversG.ptsK 16 [24585] (by kernel_rfl) (by kernel_rfl) (.drewF (.tree _ c61) L10)
theorem n98 : G [(20560, 2, 79), (8194, 0, 0), (4101, 0, 0), (6, 2, 2)] := CoversG.ptsK 16 [24585] (by kernel_rfl) (by kernel_rfl) (.drewF (.tree _ c62) L10)
theorem n95 : G [(8194, 0, 0), (4101, 0, 0), (6, 2, 2)] := CoversG.three 20560 (by kernel_rfl) (n96) (n97) (n98)
theorem n100 : G [(28752, 0, 0), (8194, 1, 1), (4101, 0, 0), (6, 2, 2)] := CoversG.ptsK 16 [32777] (by kernel_rfl) (by kernel_rfl) (.drewF (.tree _ c63) L10)
theorem n101 : G [(28752, 1, 1), (8194, 1, 1), (4101, 0, 0), (6, 2, 2)] := CoversG.ptsK 16 [32777] (by kernel_rfl) (by kernel_rfl) (.drewF (.tree _ c64) L10)
theorem n102 : G [(28752, 2, 79), (8194, 1, 1), (4101, 0, 0), (6, 2, 2)] := CoversG.ptsK 16 [32777] (by kernel_rfl) (by kernel_rfl) (.drewF (.tree _ c65) L10)
theorem n99 : G [(8194, 1, 1), (4101, 0, 0), (6, 2, 2)] := CoversG.three 28752 (by kernel_rfl) (n100) (n101) (n102)
theorem n94 : G [(4101, 0, 0), (6, 2, 2)] := CoversG.part 8194 (by kernel_rfl) fun v hv => by
  have h : v = 0 ∨ v = 1 := by omega
  rcases h with rfl | rfl
  · exact n95
  · exact n99
theorem n105 : G [(20560, 0, 0), (8194, 0, 0), (4101, 1, 1), (6, 2, 2)] := CoversG.ptsK 16 [24585] (by kernel_rfl) (by kernel_rfl) (.drewF (.tree _ c66) L11)
theorem n106 : G [(20560, 1, 1), (8194, 0, 0), (4101, 1, 1), (6, 2, 2)] := CoversG.ptsK 16 [24585] (by kernel_rfl) (by kernel_rfl) (.drewF (.tree _ c67) L11)
theorem n107 : G [(20560, 2, 79), (8194, 0, 0), (4101, 1, 1), (6, 2, 2)] := CoversG.ptsK 16 [24585] (by kernel_rfl) (by kernel_rfl) (.drewF (.tree _ c68) L11)
theorem n104 : G [(8194, 0, 0), (4101, 1, 1), (6, 2, 2)] := CoversG.three 20560 (by kernel_rfl) (n105) (n106) (n107)
theorem n109 : G [(28752, 0, 0), (8194, 1, 1), (4101, 1, 1), (6, 2, 2)] := CoversG.ptsK 16 [32777] (by kernel_rfl) (by kernel_rfl) (.drewF (.tree _ c69) L11)
theorem n110 : G [(28752, 1, 1), (8194, 1, 1), (4101, 1, 1), (6, 2, 2)] := CoversG.ptsK 16 [32777] (by kernel_rfl) (by kernel_rfl) (.drewF (.tree _ c70) L11)
theorem n111 : G [(28752, 2, 79), (8194, 1, 1), (4101, 1, 1), (6, 2, 2)] := CoversG.ptsK 16 [32777] (by kernel_rfl) (by kernel_rfl) (.drewF (.tree _ c71) L11)
theorem n108 : G [(8194, 1, 1), (4101, 1, 1), (6, 2, 2)] := CoversG.three 28752 (by kernel_rfl) (n109) (n110) (n111)
theorem n103 : G [(4101, 1, 1), (6, 2, 2)] := CoversG.part 8194 (by kernel_rfl) fun v hv => by
  have h : v = 0 ∨ v = 1 := by omega
  rcases h with rfl | rfl
  · exact n104
  · exact n108
theorem n114 : G [(20560, 0, 0), (8194, 0, 0), (4101, 2, 2), (6, 2, 2)] := CoversG.ptsK 16 [24585] (by kernel_rfl) (by kernel_rfl) (.drewF (.tree _ c72) L12)
theorem n115 : G [(20560, 1, 1), (8194, 0, 0), (4101, 2, 2), (6, 2, 2)] := CoversG.ptsK 16 [24585] (by kernel_rfl) (by kernel_rfl) (.drewF (.tree _ c73) L12)
theorem n116 : G [(20560, 2, 79), (8194, 0, 0), (4101, 2, 2), (6, 2, 2)] := CoversG.ptsK 16 [24585] (by kernel_rfl) (by kernel_rfl) (.drewF (.tree _ c74) L12)
theorem n113 : G [(8194, 0, 0), (4101, 2, 2), (6, 2, 2)] := CoversG.three 20560 (by kernel_rfl) (n114) (n115) (n116)
theorem n118 : G [(28752, 0, 0), (8194, 1, 1), (4101, 2, 2), (6, 2, 2)] := CoversG.ptsK 16 [32777] (by kernel_rfl) (by kernel_rfl) (.drewF (.tree _ c75) L12)
theorem n119 : G [(28752, 1, 1), (8194, 1, 1), (4101, 2, 2), (6, 2, 2)] := CoversG.ptsK 16 [32777] (by kernel_rfl) (by kernel_rfl) (.drewF (.tree _ c76) L12)
theorem n120 : G [(28752, 2, 79), (8194, 1, 1), (4101, 2, 2), (6, 2, 2)] := CoversG.ptsK 16 [32777] (by kernel_rfl) (by kernel_rfl) (.drewF (.tree _ c77) L12)
theorem n117 : G [(8194, 1, 1), (4101, 2, 2), (6, 2, 2)] := CoversG.three 28752 (by kernel_rfl) (n118) (n119) (n120)
theorem n112 : G [(4101, 2, 2), (6, 2, 2)] := CoversG.part 8194 (by kernel_rfl) fun v hv => by
  have h : v = 0 ∨ v = 1 := by omega
  rcases h with rfl | rfl
  · exact n113
  · exact n117
theorem n123 : G [(20560, 0, 0), (8194, 0, 0), (4101, 3, 3), (6, 2, 2)] := CoversG.ptsK 16 [24585] (by kernel_rfl) (by kernel_rfl) (.drewF (.tree _ c78) L13)
theorem n124 : G [(20560, 1, 1), (8194, 0, 0), (4101, 3, 3), (6, 2, 2)] := CoversG.ptsK 16 [24585] (by kernel_rfl) (by kernel_rfl) (.drewF (.tree _ c79) L13)
theorem n125 : G [(20560, 2, 79), (8194, 0, 0), (4101, 3, 3), (6, 2, 2)] := CoversG.ptsK 16 [24585] (by kernel_rfl) (by kernel_rfl) (.drewF (.tree _ c80) L13)
theorem n122 : G [(8194, 0, 0), (4101, 3, 3), (6, 2, 2)] := CoversG.three 20560 (by kernel_rfl) (n123) (n124) (n125)
theorem n127 : G [(28752, 0, 0), (8194, 1, 1), (4101, 3, 3), (6, 2, 2)] := CoversG.ptsK 16 [32777] (by kernel_rfl) (by kernel_rfl) (.drewF (.tree _ c81) L13)
theorem n128 : G [(28752, 1, 1), (8194, 1, 1), (4101, 3, 3), (6, 2, 2)] := CoversG.ptsK 16 [32777] (by kernel_rfl) (by kernel_rfl) (.drewF (.tree _ c82) L13)
theorem n129 : G [(28752, 2, 79), (8194, 1, 1), (4101, 3, 3), (6, 2, 2)] := CoversG.ptsK 16 [32777] (by kernel_rfl) (by kernel_rfl) (.drewF (.tree _ c83) L13)
theorem n126 : G [(8194, 1, 1), (4101, 3, 3), (6, 2, 2)] := CoversG.three 28752 (by kernel_rfl) (n127) (n128) (n129)
theorem n121 : G [(4101, 3, 3), (6, 2, 2)] := CoversG.part 8194 (by kernel_rfl) fun v hv => by
  have h : v = 0 ∨ v = 1 := by omega
  rcases h with rfl | rfl
  · exact n122
  · exact n126
theorem n132 : G [(20560, 0, 0), (8194, 0, 0), (4101, 4, 4), (6, 2, 2)] := CoversG.ptsK 16 [24585] (by kernel_rfl) (by kernel_rfl) (.drewF (.tree _ c84) L14)
theorem n133 : G [(20560, 1, 1), (8194, 0, 0), (4101, 4, 4), (6, 2, 2)] := CoversG.ptsK 16 [24585] (by kernel_rfl) (by kernel_rfl) (.drewF (.tree _ c85) L14)
theorem n134 : G [(20560, 2, 79), (8194, 0, 0), (4101, 4, 4), (6, 2, 2)] := CoversG.ptsK 16 [24585] (by kernel_rfl) (by kernel_rfl) (.drewF (.tree _ c86) L14)
theorem n131 : G [(8194, 0, 0), (4101, 4, 4), (6, 2, 2)] := CoversG.three 20560 (by kernel_rfl) (n132) (n133) (n134)
theorem n136 : G [(28752, 0, 0), (8194, 1, 1), (4101, 4, 4), (6, 2, 2)] := CoversG.ptsK 16 [32777] (by kernel_rfl) (by kernel_rfl) (.drewF (.tree _ c87) L14)
theorem n137 : G [(28752, 1, 1), (8194, 1, 1), (4101, 4, 4), (6, 2, 2)] := CoversG.ptsK 16 [32777] (by kernel_rfl) (by kernel_rfl) (.drewF (.tree _ c88) L14)
theorem n138 : G [(28752, 2, 79), (8194, 1, 1), (4101, 4, 4), (6, 2, 2)] := CoversG.ptsK 16 [32777] (by kernel_rfl) (by kernel_rfl) (.drewF (.tree _ c89) L14)
theorem n135 : G [(8194, 1, 1), (4101, 4, 4), (6, 2, 2)] := CoversG.three 28752 (by kernel_rfl) (n136) (n137) (n138)
theorem n130 : G [(4101, 4, 4), (6, 2, 2)] := CoversG.part 8194 (by kernel_rfl) fun v hv => by
  have h : v = 0 ∨ v = 1 := by omega
  rcases h with rfl | rfl
  · exact n131
  · exact n135
theorem n93 : G [(6, 2, 2)] := CoversG.part 4101 (by kernel_rfl) fun v hv => by
  have h : v = 0 ∨ v = 1 ∨ v = 2 ∨ v = 3 ∨ v = 4 := by omega
  rcases h with rfl | rfl | rfl | rfl | rfl
  · exact n94
  · exact n103
  · exact n112
  · exact n121
  · exact n130
theorem n142 : G [(24656, 0, 0), (8194, 0, 0), (4101, 0, 0), (6, 3, 3)] := CoversG.ptsK 16 [28681] (by kernel_rfl) (by kernel_rfl) (.drewF (.tree _ c90) L15)
theorem n143 : G [(24656, 1, 1), (8194, 0, 0), (4101, 0, 0), (6, 3, 3)] := CoversG.ptsK 16 [28681] (by kernel_rfl) (by kernel_rfl) (.drewF (.tree _ c91) L15)
theorem n144 : G [(24656, 2, 79), (8194, 0, 0), (4101, 0, 0), (6, 3, 3)] := CoversG.ptsK 16 [28681] (by kernel_rfl) (by kernel_rfl) (.drewF (.tree _ c92) L15)
theorem n141 : G [(8194, 0, 0), (4101, 0, 0), (6, 3, 3)] := CoversG.three 24656 (by kernel_rfl) (n142) (n143) (n144)
theorem n146 : G [(36944, 0, 0), (8194, 1, 1), (4101, 0, 0), (6, 3, 3)] := CoversG.ptsK 16 [40969] (by kernel_rfl) (by kernel_rfl) (.drewF (.tree _ c93) L15)
theorem n147 : G [(36944, 1, 1), (8194, 1, 1), (4101, 0, 0), (6, 3, 3)] := CoversG.ptsK 16 [40969] (by kernel_rfl) (by kernel_rfl) (.drewF (.tree _ c94) L15)
theorem n148 : G [(36944, 2, 79), (8194, 1, 1), (4101, 0, 0), (6, 3, 3)] := CoversG.ptsK 16 [40969] (by kernel_rfl) (by kernel_rfl) (.drewF (.tree _ c95) L15)
theorem n145 : G [(8194, 1, 1), (4101, 0, 0), (6, 3, 3)] := CoversG.three 36944 (by kernel_rfl) (n146) (n147) (n148)
theorem n140 : G [(4101, 0, 0), (6, 3, 3)] := CoversG.part 8194 (by kernel_rfl) fun v hv => by
  have h : v = 0 ∨ v = 1 := by omega
  rcases h with rfl | rfl
  · exact n141
  · exact n145
theorem n151 : G [(24656, 0, 0), (8194, 0, 0), (4101, 1, 1), (6, 3, 3)] := CoversG.ptsK 16 [28681] (by kernel_rfl) (by kernel_rfl) (.drewF (.tree _ c96) L16)
theorem n152 : G [(24656, 1, 1), (8194, 0, 0), (4101, 1, 1), (6, 3, 3)] := CoversG.ptsK 16 [28681] (by kernel_rfl) (by kernel_rfl) (.drewF (.tree _ c97) L16)
theorem n153 : G [(24656, 2, 79), (8194, 0, 0), (4101, 1, 1), (6, 3, 3)] := CoversG.ptsK 16 [28681] (by kernel_rfl) (by kernel_rfl) (.drewF (.tree _ c98) L16)
theorem n150 : G [(8194, 0, 0), (4101, 1, 1), (6, 3, 3)] := CoversG.three 24656 (by kernel_rfl) (n151) (n152) (n153)
theorem n155 : G [(36944, 0, 0), (8194, 1, 1), (4101, 1, 1), (6, 3, 3)] := CoversG.ptsK 16 [40969] (by kernel_rfl) (by kernel_rfl) (.drewF (.tree _ c99) L16)
theorem n156 : G [(36944, 1, 1), (8194, 1, 1), (4101, 1, 1), (6, 3, 3)] := CoversG.ptsK 16 [40969] (by kernel_rfl) (by kernel_rfl) (.drewF (.tree _ c100) L16)
theorem n157 : G [(36944, 2, 79), (8194, 1, 1), (4101, 1, 1), (6, 3, 3)] := CoversG.ptsK 16 [40969] (by kernel_rfl) (by kernel_rfl) (.drewF (.tree _ c101) L16)
theorem n154 : G [(8194, 1, 1), (4101, 1, 1), (6, 3, 3)] := CoversG.three 36944 (by kernel_rfl) (n155) (n156) (n157)
theorem n149 : G [(4101, 1, 1), (6, 3, 3)] := CoversG.part 8194 (by kernel_rfl) fun v hv => by
  have h : v = 0 ∨ v = 1 := by omega
  rcases h with rfl | rfl
  · exact n150
  · exact n154
theorem n160 : G [(24656, 0, 0), (8194, 0, 0), (4101, 2, 2), (6, 3, 3)] := CoversG.ptsK 16 [28681] (by kernel_rfl) (by kernel_rfl) (.drewF (.tree _ c102) L17)
theorem n161 : G [(24656, 1, 1), (8194, 0, 0), (4101, 2, 2), (6, 3, 3)] := CoversG.ptsK 16 [28681] (by kernel_rfl) (by kernel_rfl) (.drewF (.tree _ c103) L17)
theorem n162 : G [(24656, 2, 79), (8194, 0, 0), (4101, 2, 2), (6, 3, 3)] := CoversG.ptsK 16 [28681] (by kernel_rfl) (by kernel_rfl) (.drewF (.tree _ c104) L17)
theorem n159 : G [(8194, 0, 0), (4101, 2, 2), (6, 3, 3)] := CoversG.three 24656 (by kernel_rfl) (n160) (n161) (n162)
theorem n164 : G [(36944, 0, 0), (8194, 1, 1), (4101, 2, 2), (6, 3, 3)] := CoversG.ptsK 16 [40969] (by kernel_rfl) (by kernel_rfl) (.drewF (.tree _ c105) L17)
theorem n165 : G [(36944, 1, 1), (8194, 1, 1), (4101, 2, 2), (6, 3, 3)] := CoversG.ptsK 16 [40969] (by kernel_rfl) (by kernel_rfl) (.drewF (.tree _ c106) L17)
theorem n166 : G [(36944, 2, 79), (8194, 1, 1), (4101, 2, 2), (6, 3, 3)] := CoversG.ptsK 16 [40969] (by kernel_rfl) (by kernel_rfl) (.drewF (.tree _ c107) L17)
theorem n163 : G [(8194, 1, 1), (4101, 2, 2), (6, 3, 3)] := CoversG.three 36944 (by kernel_rfl) (n164) (n165) (n166)
theorem n158 : G [(4101, 2, 2), (6, 3, 3)] := CoversG.part 8194 (by kernel_rfl) fun v hv => by
  have h : v = 0 ∨ v = 1 := by omega
  rcases h with rfl | rfl
  · exact n159
  · exact n163
theorem n169 : G [(24656, 0, 0), (8194, 0, 0), (4101, 3, 3), (6, 3, 3)] := CoversG.ptsK 16 [28681] (by kernel_rfl) (by kernel_rfl) (.drewF (.tree _ c108) L18)
theorem n170 : G [(24656, 1, 1), (8194, 0, 0), (4101, 3, 3), (6, 3, 3)] := CoversG.ptsK 16 [28681] (by kernel_rfl) (by kernel_rfl) (.drewF (.tree _ c109) L18)
theorem n171 : G [(24656, 2, 79), (8194, 0, 0), (4101, 3, 3), (6, 3, 3)] := CoversG.ptsK 16 [28681] (by kernel_rfl) (by kernel_rfl) (.drewF (.tree _ c110) L18)
theorem n168 : G [(8194, 0, 0), (4101, 3, 3), (6, 3, 3)] := CoversG.three 24656 (by kernel_rfl) (n169) (n170) (n171)
theorem n173 : G [(36944, 0, 0), (8194, 1, 1), (4101, 3, 3), (6, 3, 3)] := CoversG.ptsK 16 [40969] (by kernel_rfl) (by kernel_rfl) (.drewF (.tree _ c111) L18)
theorem n174 : G [(36944, 1, 1), (8194, 1, 1), (4101, 3, 3), (6, 3, 3)] := CoversG.ptsK 16 [40969] (by kernel_rfl) (by kernel_rfl) (.drewF (.tree _ c112) L18)
theorem n175 : G [(36944, 2, 79), (8194, 1, 1), (4101, 3, 3), (6, 3, 3)] := CoversG.ptsK 16 [40969] (by kernel_rfl) (by kernel_rfl) (.drewF (.tree _ c113) L18)
theorem n172 : G [(8194, 1, 1), (4101, 3, 3), (6, 3, 3)] := CoversG.three 36944 (by kernel_rfl) (n173) (n174) (n175)
theorem n167 : G [(4101, 3, 3), (6, 3, 3)] := CoversG.part 8194 (by kernel_rfl) fun v hv => by
  have h : v = 0 ∨ v = 1 := by omega
  rcases h with rfl | rfl
  · exact n168
  · exact n172
theorem n178 : G [(24656, 0, 0), (8194, 0, 0), (4101, 4, 4), (6, 3, 3)] := CoversG.ptsK 16 [28681] (by kernel_rfl) (by kernel_rfl) (.drewF (.tree _ c114) L19)
theorem n179 : G [(24656, 1, 1), (8194, 0, 0), (4101, 4, 4), (6, 3, 3)] := CoversG.ptsK 16 [28681] (by kernel_rfl) (by kernel_rfl) (.drewF (.tree _ c115) L19)
theorem n180 : G [(24656, 2, 79), (8194, 0, 0), (4101, 4, 4), (6, 3, 3)] := CoversG.ptsK 16 [28681] (by kernel_rfl) (by kernel_rfl) (.drewF (.tree _ c116) L19)
theorem n177 : G [(8194, 0, 0), (4101, 4, 4), (6, 3, 3)] := CoversG.three 24656 (by kernel_rfl) (n178) (n179) (n180)
theorem n182 : G [(36944, 0, 0), (8194, 1, 1), (4101, 4, 4), (6, 3, 3)] := CoversG.ptsK 16 [40969] (by kernel_rfl) (by kernel_rfl) (.drewF (.tree _ c117) L19)
theorem n183 : G [(36944, 1, 1), (8194, 1, 1), (4101, 4, 4), (6, 3, 3)] := CoversG.ptsK 16 [40969] (by kernel_rfl) (by kernel_rfl) (.drewF (.tree _ c118) L19)
theorem n184 : G [(36944, 2, 79), (8194, 1, 1), (4101, 4, 4), (6, 3, 3)] := CoversG.ptsK 16 [40969] (by kernel_rfl) (by kernel_rfl) (.drewF (.tree _ c119) L19)
theorem n181 : G [(8194, 1, 1), (4101, 4, 4), (6, 3, 3)] := CoversG.three 36944 (by kernel_rfl) (n182) (n183) (n184)
theorem n176 : G [(4101, 4, 4), (6, 3, 3)] := CoversG.part 8194 (by kernel_rfl) fun v hv => by
  have h : v = 0 ∨ v = 1 := by omega
  rcases h with rfl | rfl
  · exact n177
  · exact n181
theorem n139 : G [(6, 3, 3)] := CoversG.part 4101 (by kernel_rfl) fun v hv => by
  have h : v = 0 ∨ v = 1 ∨ v = 2 ∨ v = 3 ∨ v = 4 := by omega
  rcases h with rfl | rfl | rfl | rfl | rfl
  · exact n140
  · exact n149
  · exact n158
  · exact n167
  · exact n176
theorem n188 : G [(32848, 0, 0), (8194, 0, 0), (4101, 0, 0), (6, 4, 4)] := CoversG.ptsK 16 [36873] (by kernel_rfl) (by kernel_rfl) (.drewF (.tree _ c120) L20)
theorem n189 : G [(32848, 1, 1), (8194, 0, 0), (4101, 0, 0), (6, 4, 4)] := CoversG.ptsK 16 [36873] (by kernel_rfl) (by kernel_rfl) (.drewF (.tree _ c121) L20)
theorem n190 : G [(32848, 2, 79), (8194, 0, 0), (4101, 0, 0), (6, 4, 4)] := CoversG.ptsK 16 [36873] (by kernel_rfl) (by kernel_rfl) (.drewF (.tree _ c122) L20)
theorem n187 : G [(8194, 0, 0), (4101, 0, 0), (6, 4, 4)] := CoversG.three 32848 (by kernel_rfl) (n188) (n189) (n190)
theorem n192 : G [(53328, 0, 0), (8194, 1, 1), (4101, 0, 0), (6, 4, 4)] := CoversG.ptsK 16 [57353] (by kernel_rfl) (by kernel_rfl) (.drewF (.tree _ c123) L20)
theorem n193 : G [(53328, 1, 1), (8194, 1, 1), (4101, 0, 0), (6, 4, 4)] := CoversG.ptsK 16 [57353] (by kernel_rfl) (by kernel_rfl) (.drewF (.tree _ c124) L20)
theorem n194 : G [(53328, 2, 79), (8194, 1, 1), (4101, 0, 0), (6, 4, 4)] := CoversG.ptsK 16 [57353] (by kernel_rfl) (by kernel_rfl) (.drewF (.tree _ c125) L20)
theorem n191 : G [(8194, 1, 1), (4101, 0, 0), (6, 4, 4)] := CoversG.three 53328 (by kernel_rfl) (n192) (n193) (n194)
theorem n186 : G [(4101, 0, 0), (6, 4, 4)] := CoversG.part 8194 (by kernel_rfl) fun v hv => by
  have h : v = 0 ∨ v = 1 := by omega
  rcases h with rfl | rfl
  · exact n187
  · exact n191
theorem n197 : G [(32848, 0, 0), (8194, 0, 0), (4101, 1, 1), (6, 4, 4)] := CoversG.ptsK 16 [36873] (by kernel_rfl) (by kernel_rfl) (.drewF (.tree _ c126) L21)
theorem n198 : G [(32848, 1, 1), (8194, 0, 0), (4101, 1, 1), (6, 4, 4)] := CoversG.ptsK 16 [36873] (by kernel_rfl) (by kernel_rfl) (.drewF (.tree _ c127) L21)
theorem n199 : G [(32848, 2, 79), (8194, 0, 0), (4101, 1, 1), (6, 4, 4)] := CoversG.ptsK 16 [36873] (by kernel_rfl) (by kernel_rfl) (.drewF (.tree _ c128) L21)
theorem n196 : G [(8194, 0, 0), (4101, 1, 1), (6, 4, 4)] := CoversG.three 32848 (by kernel_rfl) (n197) (n198) (n199)
theorem n201 : G [(53328, 0, 0), (8194, 1, 1), (4101, 1, 1), (6, 4, 4)] := CoversG.ptsK 16 [57353] (by kernel_rfl) (by kernel_rfl) (.drewF (.tree _ c129) L21)
theorem n202 : G [(53328, 1, 1), (8194, 1, 1), (4101, 1, 1), (6, 4, 4)] := CoversG.ptsK 16 [57353] (by kernel_rfl) (by kernel_rfl) (.drewF (.tree _ c130) L21)
theorem n203 : G [(53328, 2, 79), (8194, 1, 1), (4101, 1, 1), (6, 4, 4)] := CoversG.ptsK 16 [57353] (by kernel_rfl) (by kernel_rfl) (.drewF (.tree _ c131) L21)
theorem n200 : G [(8194, 1, 1), (4101, 1, 1), (6, 4, 4)] := CoversG.three 53328 (by kernel_rfl) (n201) (n202) (n203)
theorem n195 : G [(4101, 1, 1), (6, 4, 4)] := CoversG.part 8194 (by kernel_rfl) fun v hv => by
  have h : v = 0 ∨ v = 1 := by omega
  rcases h with rfl | rfl
  · exact n196
  · exact n200
theorem n206 : G [(32848, 0, 0), (8194, 0, 0), (4101, 2, 2), (6, 4, 4)] := CoversG.ptsK 16 [36873] (by kernel_rfl) (by kernel_rfl) (.drewF (.tree _ c132) L22)
theorem n207 : G [(32848, 1, 1), (8194, 0, 0), (4101, 2, 2), (6, 4, 4)] := CoversG.ptsK 16 [36873] (by kernel_rfl) (by kernel_rfl) (.drewF (.tree _ c133) L22)
theorem n208 : G [(32848, 2, 79), (8194, 0, 0), (4101, 2, 2), (6, 4, 4)] := CoversG.ptsK 16 [36873] (by kernel_rfl) (by kernel_rfl) (.drewF (.tree _ c134) L22)
theorem n205 : G [(8194, 0, 0), (4101, 2, 2), (6, 4, 4)] := CoversG.three 32848 (by kernel_rfl) (n206) (n207) (n208)
theorem n210 : G [(53328, 0, 0), (8194, 1, 1), (4101, 2, 2), (6, 4, 4)] := CoversG.ptsK 16 [57353] (by kernel_rfl) (by kernel_rfl) (.drewF (.tree _ c135) L22)
theorem n211 : G [(53328, 1, 1), (8194, 1, 1), (4101, 2, 2), (6, 4, 4)] := CoversG.ptsK 16 [57353] (by kernel_rfl) (by kernel_rfl) (.drewF (.tree _ c136) L22)
theorem n212 : G [(53328, 2, 79), (8194, 1, 1), (4101, 2, 2), (6, 4, 4)] := CoversG.ptsK 16 [57353] (by kernel_rfl) (by kernel_rfl) (.drewF (.tree _ c137) L22)
theorem n209 : G [(8194, 1, 1), (4101, 2, 2), (6, 4, 4)] := CoversG.three 53328 (by kernel_rfl) (n210) (n211) (n212)
theorem n204 : G [(4101, 2, 2), (6, 4, 4)] := CoversG.part 8194 (by kernel_rfl) fun v hv => by
  have h : v = 0 ∨ v = 1 := by omega
  rcases h with rfl | rfl
  · exact n205
  · exact n209
theorem n215 : G [(32848, 0, 0), (8194, 0, 0), (4101, 3, 3), (6, 4, 4)] := CoversG.ptsK 16 [36873] (by kernel_rfl) (by kernel_rfl) (.drewF (.tree _ c138) L23)
theorem n216 : G [(32848, 1, 1), (8194, 0, 0), (4101, 3, 3), (6, 4, 4)] := CoversG.ptsK 16 [36873] (by kernel_rfl) (by kernel_rfl) (.drewF (.tree _ c139) L23)
theorem n217 : G [(32848, 2, 79), (8194, 0, 0), (4101, 3, 3), (6, 4, 4)] := CoversG.ptsK 16 [36873] (by kernel_rfl) (by kernel_rfl) (.drewF (.tree _ c140) L23)
theorem n214 : G [(8194, 0, 0), (4101, 3, 3), (6, 4, 4)] := CoversG.three 32848 (by kernel_rfl) (n215) (n216) (n217)
theorem n219 : G [(53328, 0, 0), (8194, 1, 1), (4101, 3, 3), (6, 4, 4)] := CoversG.ptsK 16 [57353] (by kernel_rfl) (by kernel_rfl) (.drewF (.tree _ c141) L23)
theorem n220 : G [(53328, 1, 1), (8194, 1, 1), (4101, 3, 3), (6, 4, 4)] := CoversG.ptsK 16 [57353] (by kernel_rfl) (by kernel_rfl) (.drewF (.tree _ c142) L23)
theorem n221 : G [(53328, 2, 79), (8194, 1, 1), (4101, 3, 3), (6, 4, 4)] := CoversG.ptsK 16 [57353] (by kernel_rfl) (by kernel_rfl) (.drewF (.tree _ c143) L23)
theorem n218 : G [(8194, 1, 1), (4101, 3, 3), (6, 4, 4)] := CoversG.three 53328 (by kernel_rfl) (n219) (n220) (n221)
theorem n213 : G [(4101, 3, 3), (6, 4, 4)] := CoversG.part 8194 (by kernel_rfl) fun v hv => by
  have h : v = 0 ∨ v = 1 := by omega
  rcases h with rfl | rfl
  · exact n214
  · exact n218
theorem n224 : G [(32848, 0, 0), (8194, 0, 0), (4101, 4, 4), (6, 4, 4)] := CoversG.ptsK 16 [36873] (by kernel_rfl) (by kernel_rfl) (.drewF (.tree _ c144) L24)
theorem n225 : G [(32848, 1, 1), (8194, 0, 0), (4101, 4, 4), (6, 4, 4)] := CoversG.ptsK 16 [36873] (by kernel_rfl) (by kernel_rfl) (.drewF (.tree _ c145) L24)
theorem n226 : G [(32848, 2, 79), (8194, 0, 0), (4101, 4, 4), (6, 4, 4)] := CoversG.ptsK 16 [36873] (by kernel_rfl) (by kernel_rfl) (.drewF (.tree _ c146) L24)
theorem n223 : G [(8194, 0, 0), (4101, 4, 4), (6, 4, 4)] := CoversG.three 32848 (by kernel_rfl) (n224) (n225) (n226)
theorem n228 : G [(53328, 0, 0), (8194, 1, 1), (4101, 4, 4), (6, 4, 4)] := CoversG.ptsK 16 [57353] (by kernel_rfl) (by kernel_rfl) (.drewF (.tree _ c147) L24)
theorem n229 : G [(53328, 1, 1), (8194, 1, 1), (4101, 4, 4), (6, 4, 4)] := CoversG.ptsK 16 [57353] (by kernel_rfl) (by kernel_rfl) (.drewF (.tree _ c148) L24)
theorem n230 : G [(53328, 2, 79), (8194, 1, 1), (4101, 4, 4), (6, 4, 4)] := CoversG.ptsK 16 [57353] (by kernel_rfl) (by kernel_rfl) (.drewF (.tree _ c149) L24)
theorem n227 : G [(8194, 1, 1), (4101, 4, 4), (6, 4, 4)] := CoversG.three 53328 (by kernel_rfl) (n228) (n229) (n230)
theorem n222 : G [(4101, 4, 4), (6, 4, 4)] := CoversG.part 8194 (by kernel_rfl) fun v hv => by
  have h : v = 0 ∨ v = 1 := by omega
  rcases h with rfl | rfl
  · exact n223
  · exact n227
theorem n185 : G [(6, 4, 4)] := CoversG.part 4101 (by kernel_rfl) fun v hv => by
  have h : v = 0 ∨ v = 1 ∨ v = 2 ∨ v = 3 ∨ v = 4 := by omega
  rcases h with rfl | rfl | rfl | rfl | rfl
  · exact n186
  · exact n195
  · exact n204
  · exact n213
  · exact n222
theorem n234 : G [(41040, 0, 0), (8194, 0, 0), (4101, 0, 0), (6, 5, 5)] := CoversG.ptsK 16 [45065] (by kernel_rfl) (by kernel_rfl) (.drewF (.tree _ c150) L25)
theorem n235 : G [(41040, 1, 1), (8194, 0, 0), (4101, 0, 0), (6, 5, 5)] := CoversG.ptsK 16 [45065] (by kernel_rfl) (by kernel_rfl) (.drewF (.tree _ c151) L25)
theorem n236 : G [(41040, 2, 79), (8194, 0, 0), (4101, 0, 0), (6, 5, 5)] := CoversG.ptsK 16 [45065] (by kernel_rfl) (by kernel_rfl) (.drewF (.tree _ c152) L25)
theorem n233 : G [(8194, 0, 0), (4101, 0, 0), (6, 5, 5)] := CoversG.three 41040 (by kernel_rfl) (n234) (n235) (n236)
theorem n238 : G [(69712, 0, 0), (8194, 1, 1), (4101, 0, 0), (6, 5, 5)] := CoversG.ptsK 16 [73737] (by kernel_rfl) (by kernel_rfl) (.drewF (.tree _ c153) L25)
theorem n239 : G [(69712, 1, 1), (8194, 1, 1), (4101, 0, 0), (6, 5, 5)] := CoversG.ptsK 16 [73737] (by kernel_rfl) (by kernel_rfl) (.drewF (.tree _ c154) L25)
theorem n240 : G [(69712, 2, 79), (8194, 1, 1), (4101, 0, 0), (6, 5, 5)] := CoversG.ptsK 16 [73737] (by kernel_rfl) (by kernel_rfl) (.drewF (.tree _ c155) L25)
theorem n237 : G [(8194, 1, 1), (4101, 0, 0), (6, 5, 5)] := CoversG.three 69712 (by kernel_rfl) (n238) (n239) (n240)
theorem n232 : G [(4101, 0, 0), (6, 5, 5)] := CoversG.part 8194 (by kernel_rfl) fun v hv => by
  have h : v = 0 ∨ v = 1 := by omega
  rcases h with rfl | rfl
  · exact n233
  · exact n237
theorem n243 : G [(41040, 0, 0), (8194, 0, 0), (4101, 1, 1), (6, 5, 5)] := CoversG.ptsK 16 [45065] (by kernel_rfl) (by kernel_rfl) (.drewF (.tree _ c156) L26)
theorem n244 : G [(41040, 1, 1), (8194, 0, 0), (4101, 1, 1), (6, 5, 5)] := CoversG.ptsK 16 [45065] (by kernel_rfl) (by kernel_rfl) (.drewF (.tree _ c157) L26)
theorem n245 : G [(41040, 2, 79), (8194, 0, 0), (4101, 1, 1), (6, 5, 5)] := CoversG.ptsK 16 [45065] (by kernel_rfl) (by kernel_rfl) (.drewF (.tree _ c158) L26)
theorem n242 : G [(8194, 0, 0), (4101, 1, 1), (6, 5, 5)] := CoversG.three 41040 (by kernel_rfl) (n243) (n244) (n245)
theorem n247 : G [(69712, 0, 0), (8194, 1, 1), (4101, 1, 1), (6, 5, 5)] := CoversG.ptsK 16 [73737] (by kernel_rfl) (by kernel_rfl) (.drewF (.tree _ c159) L26)
theorem n248 : G [(69712, 1, 1), (8194, 1, 1), (4101, 1, 1), (6, 5, 5)] := CoversG.ptsK 16 [73737] (by kernel_rfl) (by kernel_rfl) (.drewF (.tree _ c160) L26)
theorem n249 : G [(69712, 2, 79), (8194, 1, 1), (4101, 1, 1), (6, 5, 5)] := CoversG.ptsK 16 [73737] (by kernel_rfl) (by kernel_rfl) (.drewF (.tree _ c161) L26)
theorem n246 : G [(8194, 1, 1), (4101, 1, 1), (6, 5, 5)] := CoversG.three 69712 (by kernel_rfl) (n247) (n248) (n249)
theorem n241 : G [(4101, 1, 1), (6, 5, 5)] := CoversG.part 8194 (by kernel_rfl) fun v hv => by
  have h : v = 0 ∨ v = 1 := by omega
  rcases h with rfl | rfl
  · exact n242
  · exact n246
theorem n252 : G [(41040, 0, 0), (8194, 0, 0), (4101, 2, 2), (6, 5, 5)] := CoversG.ptsK 16 [45065] (by kernel_rfl) (by kernel_rfl) (.drewF (.tree _ c162) L27)
theorem n253 : G [(41040, 1, 1), (8194, 0, 0), (4101, 2, 2), (6, 5, 5)] := CoversG.ptsK 16 [45065] (by kernel_rfl) (by kernel_rfl) (.drewF (.tree _ c163) L27)
theorem n254 : G [(41040, 2, 79), (8194, 0, 0), (4101, 2, 2), (6, 5, 5)] := CoversG.ptsK 16 [45065] (by kernel_rfl) (by kernel_rfl) (.drewF (.tree _ c164) L27)
theorem n251 : G [(8194, 0, 0), (4101, 2, 2), (6, 5, 5)] := CoversG.three 41040 (by kernel_rfl) (n252) (n253) (n254)
theorem n256 : G [(69712, 0, 0), (8194, 1, 1), (4101, 2, 2), (6, 5, 5)] := CoversG.ptsK 16 [73737] (by kernel_rfl) (by kernel_rfl) (.drewF (.tree _ c165) L27)
theorem n257 : G [(69712, 1, 1), (8194, 1, 1), (4101, 2, 2), (6, 5, 5)] := CoversG.ptsK 16 [73737] (by kernel_rfl) (by kernel_rfl) (.drewF (.tree _ c166) L27)
theorem n258 : G [(69712, 2, 79), (8194, 1, 1), (4101, 2, 2), (6, 5, 5)] := CoversG.ptsK 16 [73737] (by kernel_rfl) (by kernel_rfl) (.drewF (.tree _ c167) L27)
theorem n255 : G [(8194, 1, 1), (4101, 2, 2), (6, 5, 5)] := CoversG.three 69712 (by kernel_rfl) (n256) (n257) (n258)
theorem n250 : G [(4101, 2, 2), (6, 5, 5)] := CoversG.part 8194 (by kernel_rfl) fun v hv => by
  have h : v = 0 ∨ v = 1 := by omega
  rcases h with rfl | rfl
  · exact n251
  · exact n255
theorem n261 : G [(41040, 0, 0), (8194, 0, 0), (4101, 3, 3), (6, 5, 5)] := CoversG.ptsK 16 [45065] (by kernel_rfl) (by kernel_rfl) (.drewF (.tree _ c168) L28)
theorem n262 : G [(41040, 1, 1), (8194, 0, 0), (4101, 3, 3), (6, 5, 5)] := CoversG.ptsK 16 [45065] (by kernel_rfl) (by kernel_rfl) (.drewF (.tree _ c169) L28)
theorem n263 : G [(41040, 2, 79), (8194, 0, 0), (4101, 3, 3), (6, 5, 5)] := CoversG.ptsK 16 [45065] (by kernel_rfl) (by kernel_rfl) (.drewF (.tree _ c170) L28)
theorem n260 : G [(8194, 0, 0), (4101, 3, 3), (6, 5, 5)] := CoversG.three 41040 (by kernel_rfl) (n261) (n262) (n263)
theorem n265 : G [(69712, 0, 0), (8194, 1, 1), (4101, 3, 3), (6, 5, 5)] := CoversG.ptsK 16 [73737] (by kernel_rfl) (by kernel_rfl) (.drewF (.tree _ c171) L28)
theorem n266 : G [(69712, 1, 1), (8194, 1, 1), (4101, 3, 3), (6, 5, 5)] := CoversG.ptsK 16 [73737] (by kernel_rfl) (by kernel_rfl) (.drewF (.tree _ c172) L28)
theorem n267 : G [(69712, 2, 79), (8194, 1, 1), (4101, 3, 3), (6, 5, 5)] := CoversG.ptsK 16 [73737] (by kernel_rfl) (by kernel_rfl) (.drewF (.tree _ c173) L28)
theorem n264 : G [(8194, 1, 1), (4101, 3, 3), (6, 5, 5)] := CoversG.three 69712 (by kernel_rfl) (n265) (n266) (n267)
theorem n259 : G [(4101, 3, 3), (6, 5, 5)] := CoversG.part 8194 (by kernel_rfl) fun v hv => by
  have h : v = 0 ∨ v = 1 := by omega
  rcases h with rfl | rfl
  · exact n260
  · exact n264
theorem n270 : G [(41040, 0, 0), (8194, 0, 0), (4101, 4, 4), (6, 5, 5)] := CoversG.ptsK 16 [45065] (by kernel_rfl) (by kernel_rfl) (.drewF (.tree _ c174) L29)
theorem n271 : G [(41040, 1, 1), (8194, 0, 0), (4101, 4, 4), (6, 5, 5)] := CoversG.ptsK 16 [45065] (by kernel_rfl) (by kernel_rfl) (.drewF (.tree _ c175) L29)
theorem n272 : G [(41040, 2, 79), (8194, 0, 0), (4101, 4, 4), (6, 5, 5)] := CoversG.ptsK 16 [45065] (by kernel_rfl) (by kernel_rfl) (.drewF (.tree _ c176) L29)
theorem n269 : G [(8194, 0, 0), (4101, 4, 4), (6, 5, 5)] := CoversG.three 41040 (by kernel_rfl) (n270) (n271) (n272)
theorem n274 : G [(69712, 0, 0), (8194, 1, 1), (4101, 4, 4), (6, 5, 5)] := CoversG.ptsK 16 [73737] (by kernel_rfl) (by kernel_rfl) (.drewF (.tree _ c177) L29)
theorem n275 : G [(69712, 1, 1), (8194, 1, 1), (4101, 4, 4), (6, 5, 5)] := CoversG.ptsK 16 [73737] (by kernel_rfl) (by kernel_rfl) (.drewF (.tree _ c178) L29)
theorem n276 : G [(69712, 2, 79), (8194, 1, 1), (4101, 4, 4), (6, 5, 5)] := CoversG.ptsK 16 [73737] (by kernel_rfl) (by kernel_rfl) (.drewF (.tree _ c179) L29)
theorem n273 : G [(8194, 1, 1), (4101, 4, 4), (6, 5, 5)] := CoversG.three 69712 (by kernel_rfl) (n274) (n275) (n276)
theorem n268 : G [(4101, 4, 4), (6, 5, 5)] := CoversG.part 8194 (by kernel_rfl) fun v hv => by
  have h : v = 0 ∨ v = 1 := by omega
  rcases h with rfl | rfl
  · exact n269
  · exact n273
theorem n231 : G [(6, 5, 5)] := CoversG.part 4101 (by kernel_rfl) fun v hv => by
  have h : v = 0 ∨ v = 1 ∨ v = 2 ∨ v = 3 ∨ v = 4 := by omega
  rcases h with rfl | rfl | rfl | rfl | rfl
  · exact n232
  · exact n241
  · exact n250
  · exact n259
  · exact n268
theorem n0 : G [] := CoversG.part 6 (by kernel_rfl) fun v hv => by
  have h : v = 0 ∨ v = 1 ∨ v = 2 ∨ v = 3 ∨ v = 4 ∨ v = 5 := by omega
  rcases h with rfl | rfl | rfl | rfl | rfl | rfl
  · exact n1
  · exact n47
  · exact n93
  · exact n139
  · exact n185
  · exact n231
end Go.Proofs.Ytliimffphokmpaa.fnSumTimesRuns
