/- Runs of the program at a seat. -/
import Derived.Test.YtennigkljnfjmaaRopowersD0
import Derived.Test.YtennigkljnfjmaaRopowersD1
import Derived.Test.YtennigkljnfjmaaRopowersD2
import Derived.Test.YtennigkljnfjmaaRopowersD3
import Derived.Test.YtennigkljnfjmaaFnPowersFromR0
import Derived.Test.YtennigkljnfjmaaFnPowersFromR1
import Derived.Test.YtennigkljnfjmaaFnPowersFromR2
import Derived.Test.YtennigkljnfjmaaFnPowersFromR3
namespace Go.Proofs.Ytennigkljnfjmaa.fnPowersFromRuns
open Go Go.Eng
set_option linter.unusedVariables false
set_option linter.unusedSectionVars false
set_option linter.unusedSimpArgs false
set_option maxRecDepth 100000
open Go.Proofs.Ytennigkljnfjmaa.ropowers
theorem g_e1_0 : Good t_e1_0 := .part 4 549755813889 549755813894 [(549755813889, 549755813889), (549755813890, 549755813890), (549755813891, 549755813891), (549755813892, 549755813892), (549755813893, 549755813893), (549755813894, 549755813894)] (by decide) (by decide) (by kernel_rfl) (cm g_e1_0_0 (cm g_e1_0_1 (cm g_e1_0_2 (cm g_e1_0_3 (cm g_e1_0_4 (cm g_e1_0_5 (nm)))))))
theorem g_e1_1 : Good t_e1_1 := .part 4 549755813897 549755813902 [(549755813897, 549755813902)] (by decide) (by decide) (by kernel_rfl) (cm g_e1_1_0 (nm))
theorem g_e1_2 : Good t_e1_2 := .part 4 549755813881 549755813886 [(549755813881, 549755813886)] (by decide) (by decide) (by kernel_rfl) (cm g_e1_2_0 (nm))
theorem g_x1_0 : Good t_x1_0 := .part 4 549755813889 549755813894 [(549755813889, 549755813889), (549755813890, 549755813890), (549755813891, 549755813891), (549755813892, 549755813892), (549755813893, 549755813893), (549755813894, 549755813894)] (by decide) (by decide) (by kernel_rfl) (cm g_x1_0_0 (cm g_x1_0_1 (cm g_x1_0_2 (cm g_x1_0_3 (cm g_x1_0_4 (cm g_x1_0_5 (nm)))))))
theorem g_x1_1 : Good t_x1_1 := .part 4 549755813897 549755813902 [(549755813897, 549755813902)] (by decide) (by decide) (by kernel_rfl) (cm g_x1_1_0 (nm))
theorem g_x1_2 : Good t_x1_2 := .part 4 549755813881 549755813886 [(549755813881, 549755813886)] (by decide) (by decide) (by kernel_rfl) (cm g_x1_2_0 (nm))
theorem g_e2_0 : Good t_e2_0 := .part 4 549755813889 549755813894 [(549755813889, 549755813889), (549755813890, 549755813890), (549755813891, 549755813891), (549755813892, 549755813892), (549755813893, 549755813893), (549755813894, 549755813894)] (by decide) (by decide) (by kernel_rfl) (cm g_e2_0_0 (cm g_e2_0_1 (cm g_e2_0_2 (cm g_e2_0_3 (cm g_e2_0_4 (cm g_e2_0_5 (nm)))))))
theorem g_e2_1 : Good t_e2_1 := .part 4 549755813897 549755813902 [(549755813897, 549755813902)] (by decide) (by decide) (by kernel_rfl) (cm g_e2_1_0 (nm))
theorem g_e2_2 : Good t_e2_2 := .part 4 549755813881 549755813886 [(549755813881, 549755813886)] (by decide) (by decide) (by kernel_rfl) (cm g_e2_2_0 (nm))
theorem g_x2_0 : Good t_x2_0 := .part 4 549755813889 549755813894 [(549755813889, 549755813889), (549755813890, 549755813890), (549755813891, 549755813891), (549755813892, 549755813892), (549755813893, 549755813893), (549755813894, 549755813894)] (by decide) (by decide) (by kernel_rfl) (cm g_x2_0_0 (cm g_x2_0_1 (cm g_x2_0_2 (cm g_x2_0_3 (cm g_x2_0_4 (cm g_x2_0_5 (nm)))))))
theorem g_x2_1 : Good t_x2_1 := .part 4 549755813897 549755813902 [(549755813897, 549755813902)] (by decide) (by decide) (by kernel_rfl) (cm g_x2_1_0 (nm))
theorem g_x2_2 : Good t_x2_2 := .part 4 549755813881 549755813886 [(549755813881, 549755813886)] (by decide) (by decide) (by kernel_rfl) (cm g_x2_2_0 (nm))
theorem g_e3_0 : Good t_e3_0 := .part 4 549755813889 549755813894 [(549755813889, 549755813889), (549755813890, 549755813890), (549755813891, 549755813891), (549755813892, 549755813892), (549755813893, 549755813893), (549755813894, 549755813894)] (by decide) (by decide) (by kernel_rfl) (cm g_e3_0_0 (cm g_e3_0_1 (cm g_e3_0_2 (cm g_e3_0_3 (cm g_e3_0_4 (cm g_e3_0_5 (nm)))))))
theorem g_e3_1 : Good t_e3_1 := .part 4 549755813897 549755813902 [(549755813897, 549755813902)] (by decide) (by decide) (by kernel_rfl) (cm g_e3_1_0 (nm))
theorem g_e3_2 : Good t_e3_2 := .part 4 549755813881 549755813886 [(549755813881, 549755813886)] (by decide) (by decide) (by kernel_rfl) (cm g_e3_2_0 (nm))
theorem g_x3_0 : Good t_x3_0 := .part 4 549755813889 549755813894 [(549755813889, 549755813889), (549755813890, 549755813890), (549755813891, 549755813891), (549755813892, 549755813892), (549755813893, 549755813893), (549755813894, 549755813894)] (by decide) (by decide) (by kernel_rfl) (cm g_x3_0_0 (cm g_x3_0_1 (cm g_x3_0_2 (cm g_x3_0_3 (cm g_x3_0_4 (cm g_x3_0_5 (nm)))))))
theorem g_x3_1 : Good t_x3_1 := .part 4 549755813897 549755813902 [(549755813897, 549755813902)] (by decide) (by decide) (by kernel_rfl) (cm g_x3_1_0 (nm))
theorem g_x3_2 : Good t_x3_2 := .part 4 549755813881 549755813886 [(549755813881, 549755813886)] (by decide) (by decide) (by kernel_rfl) (cm g_x3_2_0 (nm))
theorem g_e4_0 : Good t_e4_0 := .part 4 549755813889 549755813894 [(549755813889, 549755813889), (549755813890, 549755813890), (549755813891, 549755813891), (549755813892, 549755813892), (549755813893, 549755813893), (549755813894, 549755813894)] (by decide) (by decide) (by kernel_rfl) (cm g_e4_0_0 (cm g_e4_0_1 (cm g_e4_0_2 (cm g_e4_0_3 (cm g_e4_0_4 (cm g_e4_0_5 (nm)))))))
theorem g_e4_1 : Good t_e4_1 := .part 4 549755813897 549755813902 [(549755813897, 549755813902)] (by decide) (by decide) (by kernel_rfl) (cm g_e4_1_0 (nm))
theorem g_e4_2 : Good t_e4_2 := .part 4 549755813881 549755813886 [(549755813881, 549755813886)] (by decide) (by decide) (by kernel_rfl) (cm g_e4_2_0 (nm))
theorem g_x4_0 : Good t_x4_0 := .part 4 549755813889 549755813894 [(549755813889, 549755813889), (549755813890, 549755813890), (549755813891, 549755813891), (549755813892, 549755813892), (549755813893, 549755813893), (549755813894, 549755813894)] (by decide) (by decide) (by kernel_rfl) (cm g_x4_0_0 (cm g_x4_0_1 (cm g_x4_0_2 (cm g_x4_0_3 (cm g_x4_0_4 (cm g_x4_0_5 (nm)))))))
theorem g_x4_1 : Good t_x4_1 := .part 4 549755813897 549755813902 [(549755813897, 549755813902)] (by decide) (by decide) (by kernel_rfl) (cm g_x4_1_0 (nm))
theorem g_x4_2 : Good t_x4_2 := .part 4 549755813881 549755813886 [(549755813881, 549755813886)] (by decide) (by decide) (by kernel_rfl) (cm g_x4_2_0 (nm))
theorem L0 : AG l_L0 := ⟨g_e1_0, g_e1_1, g_e1_2, g_x1_0, g_x1_1, g_x1_2, trivial⟩
theorem L1 : AG l_L1 := ⟨g_e2_0, g_e2_1, g_e2_2, g_x2_0, g_x2_1, g_x2_2, trivial⟩
theorem L2 : AG l_L2 := ⟨g_e3_0, g_e3_1, g_e3_2, g_x3_0, g_x3_1, g_x3_2, trivial⟩
theorem L3 : AG l_L3 := ⟨g_e4_0, g_e4_1, g_e4_2, g_x4_0, g_x4_1, g_x4_2, trivial⟩
theorem L4 : AG l_L4 := ⟨g_e1_0, g_e1_1, g_e1_2, trivial⟩
theorem L5 : AG l_L5 := ⟨g_e2_0, g_e2_1, g_e2_2, trivial⟩
theorem L6 : AG l_L6 := ⟨g_e3_0, g_e3_1, g_e3_2, trivial⟩
theorem L7 : AG l_L7 := ⟨g_e4_0, g_e4_1, g_e4_2, trivial⟩
theorem n5 : G [(16393, 1008, 8), (12292, 0, 0), (8252, 0, 0), (4099, 0, 0), (5, 0, 0)] := CoversG.ptsK 16 [24582] (by kernel_rfl) (by kernel_rfl) (.drewF (.tree _ c0) L0)
theorem n4 : G [(12292, 0, 0), (8252, 0, 0), (4099, 0, 0), (5, 0, 0)] := CoversG.ptsK 8 [16393] (by kernel_rfl) (by kernel_rfl) (n5)
theorem n7 : G [(16393, 1008, 8), (20489, 1009, 8), (12292, 1, 1), (8252, 0, 0), (4099, 0, 0), (5, 0, 0)] := CoversG.ptsK 16 [28678] (by kernel_rfl) (by kernel_rfl) (.drewF (.tree _ c1) L1)
theorem n6 : G [(12292, 1, 1), (8252, 0, 0), (4099, 0, 0), (5, 0, 0)] := CoversG.ptsK 8 [16393, 20489] (by kernel_rfl) (by kernel_rfl) (n7)
theorem n9 : G [(16393, 1008, 8), (20489, 1009, 8), (24585, 1010, 8), (12292, 2, 2), (8252, 0, 0), (4099, 0, 0), (5, 0, 0)] := CoversG.ptsK 16 [32774] (by kernel_rfl) (by kernel_rfl) (.drewF (.tree _ c2) L2)
theorem n8 : G [(12292, 2, 2), (8252, 0, 0), (4099, 0, 0), (5, 0, 0)] := CoversG.ptsK 8 [16393, 20489, 24585] (by kernel_rfl) (by kernel_rfl) (n9)
theorem n11 : G [(16393, 1008, 8), (20489, 1009, 8), (24585, 1010, 8), (28681, 1011, 8), (12292, 3, 3), (8252, 0, 0), (4099, 0, 0), (5, 0, 0)] := CoversG.ptsK 16 [36870] (by kernel_rfl) (by kernel_rfl) (.drewF (.tree _ c3) L3)
theorem n10 : G [(12292, 3, 3), (8252, 0, 0), (4099, 0, 0), (5, 0, 0)] := CoversG.ptsK 8 [16393, 20489, 24585, 28681] (by kernel_rfl) (by kernel_rfl) (n11)
theorem n3 : G [(8252, 0, 0), (4099, 0, 0), (5, 0, 0)] := CoversG.part 12292 (by kernel_rfl) fun v hv => by
  have h : v = 0 ∨ v = 1 ∨ v = 2 ∨ v = 3 := by omega
  rcases h with rfl | rfl | rfl | rfl
  · exact n4
  · exact n6
  · exact n8
  · exact n10
theorem n14 : G [(16393, 1008, 8), (12292, 0, 0), (8252, 1, 1), (4099, 0, 0), (5, 0, 0)] := CoversG.ptsK 16 [24582] (by kernel_rfl) (by kernel_rfl) (.drewF (.tree _ c4) L0)
theorem n13 : G [(12292, 0, 0), (8252, 1, 1), (4099, 0, 0), (5, 0, 0)] := CoversG.ptsK 8 [16393] (by kernel_rfl) (by kernel_rfl) (n14)
theorem n16 : G [(16393, 1008, 8), (20489, 1009, 8), (12292, 1, 1), (8252, 1, 1), (4099, 0, 0), (5, 0, 0)] := CoversG.ptsK 16 [28678] (by kernel_rfl) (by kernel_rfl) (.drewF (.tree _ c5) L1)
theorem n15 : G [(12292, 1, 1), (8252, 1, 1), (4099, 0, 0), (5, 0, 0)] := CoversG.ptsK 8 [16393, 20489] (by kernel_rfl) (by kernel_rfl) (n16)
theorem n18 : G [(16393, 1008, 8), (20489, 1009, 8), (24585, 1010, 8), (12292, 2, 2), (8252, 1, 1), (4099, 0, 0), (5, 0, 0)] := CoversG.ptsK 16 [32774] (by kernel_rfl) (by kernel_rfl) (.drewF (.tree _ c6) L2)
theorem n17 : G [(12292, 2, 2), (8252, 1, 1), (4099, 0, 0), (5, 0, 0)] := CoversG.ptsK 8 [16393, 20489, 24585] (by kernel_rfl) (by kernel_rfl) (n18)
theorem n20 : G [(16393, 1008, 8), (20489, 1009, 8), (24585, 1010, 8), (28681, 1011, 8), (12292, 3, 3), (8252, 1, 1), (4099, 0, 0), (5, 0, 0)] := CoversG.ptsK 16 [36870] (by kernel_rfl) (by kernel_rfl) (.drewF (.tree _ c7) L3)
theorem n19 : G [(12292, 3, 3), (8252, 1, 1), (4099, 0, 0), (5, 0, 0)] := CoversG.ptsK 8 [16393, 20489, 24585, 28681] (by kernel_rfl) (by kernel_rfl) (n20)
theorem n12 : G [(8252, 1, 1), (4099, 0, 0), (5, 0, 0)] := CoversG.part 12292 (by kernel_rfl) fun v hv => by
  have h : v = 0 ∨ v = 1 ∨ v = 2 ∨ v = 3 := by omega
  rcases h with rfl | rfl | rfl | rfl
  · exact n13
  · exact n15
  · exact n17
  · exact n19
theorem n23 : G [(16393, 1008, 8), (12292, 0, 0), (8252, 2, 59), (4099, 0, 0), (5, 0, 0)] := CoversG.ptsK 16 [24582] (by kernel_rfl) (by kernel_rfl) (.drewF (.tree _ c8) L0)
theorem n22 : G [(12292, 0, 0), (8252, 2, 59), (4099, 0, 0), (5, 0, 0)] := CoversG.ptsK 8 [16393] (by kernel_rfl) (by kernel_rfl) (n23)
theorem n25 : G [(16393, 1008, 8), (20489, 1009, 8), (12292, 1, 1), (8252, 2, 59), (4099, 0, 0), (5, 0, 0)] := CoversG.ptsK 16 [28678] (by kernel_rfl) (by kernel_rfl) (.drewF (.tree _ c9) L1)
theorem n24 : G [(12292, 1, 1), (8252, 2, 59), (4099, 0, 0), (5, 0, 0)] := CoversG.ptsK 8 [16393, 20489] (by kernel_rfl) (by kernel_rfl) (n25)
theorem n27 : G [(16393, 1008, 8), (20489, 1009, 8), (24585, 1010, 8), (12292, 2, 2), (8252, 2, 59), (4099, 0, 0), (5, 0, 0)] := CoversG.ptsK 16 [32774] (by kernel_rfl) (by kernel_rfl) (.drewF (.tree _ c10) L2)
theorem n26 : G [(12292, 2, 2), (8252, 2, 59), (4099, 0, 0), (5, 0, 0)] := CoversG.ptsK 8 [16393, 20489, 24585] (by kernel_rfl) (by kernel_rfl) (n27)
theorem n29 : G [(16393, 1008, 8), (20489, 1009, 8), (24585, 1010, 8), (28681, 1011, 8), (12292, 3, 3), (8252, 2, 59), (4099, 0, 0), (5, 0, 0)] := CoversG.ptsK 16 [36870] (by kernel_rfl) (by kernel_rfl) (.drewF (.tree _ c11) L3)
theorem n28 : G [(12292, 3, 3), (8252, 2, 59), (4099, 0, 0), (5, 0, 0)] := CoversG.ptsK 8 [16393, 20489, 24585, 28681] (by kernel_rfl) (by kernel_rfl) (n29)
theorem n21 : G [(8252, 2, 59), (4099, 0, 0), (5, 0, 0)] := CoversG.part 12292 (by kernel_rfl) fun v hv => by
  have h : v = 0 ∨ v = 1 ∨ v = 2 ∨ v = 3 := by omega
  rcases h with rfl | rfl | rfl | rfl
  · exact n22
  · exact n24
  · exact n26
  · exact n28
theorem n2 : G [(4099, 0, 0), (5, 0, 0)] := CoversG.three 8252 (by kernel_rfl) (n3) (n12) (n21)
theorem n33 : G [(16393, 1008, 8), (12292, 0, 0), (8252, 0, 0), (4099, 1, 1), (5, 0, 0)] := CoversG.ptsK 16 [24582] (by kernel_rfl) (by kernel_rfl) (.drewF (.tree _ c12) L0)
theorem n32 : G [(12292, 0, 0), (8252, 0, 0), (4099, 1, 1), (5, 0, 0)] := CoversG.ptsK 8 [16393] (by kernel_rfl) (by kernel_rfl) (n33)
theorem n35 : G [(16393, 1008, 8), (20489, 1009, 8), (12292, 1, 1), (8252, 0, 0), (4099, 1, 1), (5, 0, 0)] := CoversG.ptsK 16 [28678] (by kernel_rfl) (by kernel_rfl) (.drewF (.tree _ c13) L1)
theorem n34 : G [(12292, 1, 1), (8252, 0, 0), (4099, 1, 1), (5, 0, 0)] := CoversG.ptsK 8 [16393, 20489] (by kernel_rfl) (by kernel_rfl) (n35)
theorem n37 : G [(16393, 1008, 8), (20489, 1009, 8), (24585, 1010, 8), (12292, 2, 2), (8252, 0, 0), (4099, 1, 1), (5, 0, 0)] := CoversG.ptsK 16 [32774] (by kernel_rfl) (by kernel_rfl) (.drewF (.tree _ c14) L2)
theorem n36 : G [(12292, 2, 2), (8252, 0, 0), (4099, 1, 1), (5, 0, 0)] := CoversG.ptsK 8 [16393, 20489, 24585] (by kernel_rfl) (by kernel_rfl) (n37)
theorem n39 : G [(16393, 1008, 8), (20489, 1009, 8), (24585, 1010, 8), (28681, 1011, 8), (12292, 3, 3), (8252, 0, 0), (4099, 1, 1), (5, 0, 0)] := CoversG.ptsK 16 [36870] (by kernel_rfl) (by kernel_rfl) (.drewF (.tree _ c15) L3)
theorem n38 : G [(12292, 3, 3), (8252, 0, 0), (4099, 1, 1), (5, 0, 0)] := CoversG.ptsK 8 [16393, 20489, 24585, 28681] (by kernel_rfl) (by kernel_rfl) (n39)
theorem n31 : G [(8252, 0, 0), (4099, 1, 1), (5, 0, 0)] := CoversG.part 12292 (by kernel_rfl) fun v hv => by
  have h : v = 0 ∨ v = 1 ∨ v = 2 ∨ v = 3 := by omega
  rcases h with rfl | rfl | rfl | rfl
  · exact n32
  · exact n34
  · exact n36
  · exact n38
theorem n42 : G [(16393, 1008, 8), (12292, 0, 0), (8252, 1, 1), (4099, 1, 1), (5, 0, 0)] := CoversG.ptsK 16 [24582] (by kernel_rfl) (by kernel_rfl) (.drewF (.tree _ c16) L0)
theorem n41 : G [(12292, 0, 0), (8252, 1, 1), (4099, 1, 1), (5, 0, 0)] := CoversG.ptsK 8 [16393] (by kernel_rfl) (by kernel_rfl) (n42)
theorem n44 : G [(16393, 1008, 8), (20489, 1009, 8), (12292, 1, 1), (8252, 1, 1), (4099, 1, 1), (5, 0, 0)] := CoversG.ptsK 16 [28678] (by kernel_rfl) (by kernel_rfl) (.drewF (.tree _ c17) L1)
theorem n43 : G [(12292, 1, 1), (8252, 1, 1), (4099, 1, 1), (5, 0, 0)] := CoversG.ptsK 8 [16393, 20489] (by kernel_rfl) (by kernel_rfl) (n44)
theorem n46 : G [(16393, 1008, 8), (20489, 1009, 8), (24585, 1010, 8), (12292, 2, 2), (8252, 1, 1), (4099, 1, 1), (5, 0, 0)] := CoversG.ptsK 16 [32774] (by kernel_rfl) (by kernel_rfl) (.drewF (.tree _ c18) L2)
theorem n45 : G [(12292, 2, 2), (8252, 1, 1), (4099, 1, 1), (5, 0, 0)] := CoversG.ptsK 8 [16393, 20489, 24585] (by kernel_rfl) (by kernel_rfl) (n46)
theorem n48 : G [(16393, 1008, 8), (20489, 1009, 8), (24585, 1010, 8), (28681, 1011, 8), (12292, 3, 3), (8252, 1, 1), (4099, 1, 1), (5, 0, 0)] := CoversG.ptsK 16 [36870] (by kernel_rfl) (by kernel_rfl) (.drewF (.tree _ c19) L3)
theorem n47 : G [(12292, 3, 3), (8252, 1, 1), (4099, 1, 1), (5, 0, 0)] := CoversG.ptsK 8 [16393, 20489, 24585, 28681] (by kernel_rfl) (by kernel_rfl) (n48)
theorem n40 : G [(8252, 1, 1), (4099, 1, 1), (5, 0, 0)] := CoversG.part 12292 (by kernel_rfl) fun v hv => by
  have h : v = 0 ∨ v = 1 ∨ v = 2 ∨ v = 3 := by omega
  rcases h with rfl | rfl | rfl | rfl
  · exact n41
  · exact n43
  · exact n45
  · exact n47
theorem n51 : G [(16393, 1008, 8), (12292, 0, 0), (8252, 2, 59), (4099, 1, 1), (5, 0, 0)] := CoversG.ptsK 16 [24582] (by kernel_rfl) (by kernel_rfl) (.drewF (.tree _ c20) L0)
theorem n50 : G [(12292, 0, 0), (8252, 2, 59), (4099, 1, 1), (5, 0, 0)] := CoversG.ptsK 8 [16393] (by kernel_rfl) (by kernel_rfl) (n51)
theorem n53 : G [(16393, 1008, 8), (20489, 1009, 8), (12292, 1, 1), (8252, 2, 59), (4099, 1, 1), (5, 0, 0)] := CoversG.ptsK 16 [28678] (by kernel_rfl) (by kernel_rfl) (.drewF (.tree _ c21) L1)
theorem n52 : G [(12292, 1, 1), (8252, 2, 59), (4099, 1, 1), (5, 0, 0)] := CoversG.ptsK 8 [16393, 20489] (by kernel_rfl) (by kernel_rfl) (n53)
theorem n55 : G [(16393, 1008, 8), (20489, 1009, 8), (24585, 1010, 8), (12292, 2, 2), (8252, 2, 59), (4099, 1, 1), (5, 0, 0)] := CoversG.ptsK 16 [32774] (by kernel_rfl) (by kernel_rfl) (.drewF (.tree _ c22) L2)
theorem n54 : G [(12292, 2, 2), (8252, 2, 59), (4099, 1, 1), (5, 0, 0)] := CoversG.ptsK 8 [16393, 20489, 24585] (by kernel_rfl) (by kernel_rfl) (n55)
theorem n57 : G [(16393, 1008, 8), (20489, 1009, 8), (24585, 1010, 8), (28681, 1011, 8), (12292, 3, 3), (8252, 2, 59), (4099, 1, 1), (5, 0, 0)] := CoversG.ptsK 16 [36870] (by kernel_rfl) (by kernel_rfl) (.drewF (.tree _ c23) L3)
theorem n56 : G [(12292, 3, 3), (8252, 2, 59), (4099, 1, 1), (5, 0, 0)] := CoversG.ptsK 8 [16393, 20489, 24585, 28681] (by kernel_rfl) (by kernel_rfl) (n57)
theorem n49 : G [(8252, 2, 59), (4099, 1, 1), (5, 0, 0)] := CoversG.part 12292 (by kernel_rfl) fun v hv => by
  have h : v = 0 ∨ v = 1 ∨ v = 2 ∨ v = 3 := by omega
  rcases h with rfl | rfl | rfl | rfl
  · exact n50
  · exact n52
  · exact n54
  · exact n56
theorem n30 : G [(4099, 1, 1), (5, 0, 0)] := CoversG.three 8252 (by kernel_rfl) (n31) (n40) (n49)
theorem n61 : G [(16393, 1008, 8), (12292, 0, 0), (8252, 0, 0), (4099, 2, 2), (5, 0, 0)] := CoversG.ptsK 16 [24582] (by kernel_rfl) (by kernel_rfl) (.drewF (.tree _ c24) L0)
theorem n60 : G [(12292, 0, 0), (8252, 0, 0), (4099, 2, 2), (5, 0, 0)] := CoversG.ptsK 8 [16393] (by kernel_rfl) (by kernel_rfl) (n61)
theorem n63 : G [(16393, 1008, 8), (20489, 1009, 8), (12292, 1, 1), (8252, 0, 0), (4099, 2, 2), (5, 0, 0)] := CoversG.ptsK 16 [28678] (by kernel_rfl) (by kernel_rfl) (.drewF (.tree _ c25) L1)
theorem n62 : G [(12292, 1, 1), (8252, 0, 0), (4099, 2, 2), (5, 0, 0)] := CoversG.ptsK 8 [16393, 20489] (by kernel_rfl) (by kernel_rfl) (n63)
theorem n65 : G [(16393, 1008, 8), (20489, 1009, 8), (24585, 1010, 8), (12292, 2, 2), (8252, 0, 0), (4099, 2, 2), (5, 0, 0)] := CoversG.ptsK 16 [32774] (by kernel_rfl) (by kernel_rfl) (.drewF (.tree _ c26) L2)
theorem n64 : G [(12292, 2, 2), (8252, 0, 0), (4099, 2, 2), (5, 0, 0)] := CoversG.ptsK 8 [16393, 20489, 24585] (by kernel_rfl) (by kernel_rfl) (n65)
theorem n67 : G [(16393, 1008, 8), (20489, 1009, 8), (24585, 1010, 8), (28681, 1011, 8), (12292, 3, 3), (8252, 0, 0), (4099, 2, 2), (5, 0, 0)] := CoversG.ptsK 16 [36870] (by kernel_rfl) (by kernel_rfl) (.drewF (.tree _ c27) L3)
theorem n66 : G [(12292, 3, 3), (8252, 0, 0), (4099, 2, 2), (5, 0, 0)] := CoversG.ptsK 8 [16393, 20489, 24585, 28681] (by kernel_rfl) (by kernel_rfl) (n67)
theorem n59 : G [(8252, 0, 0), (4099, 2, 2), (5, 0, 0)] := CoversG.part 12292 (by kernel_rfl) fun v hv => by
  have h : v = 0 ∨ v = 1 ∨ v = 2 ∨ v = 3 := by omega
  rcases h with rfl | rfl | rfl | rfl
  · exact n60
  · exact n62
  · exact n64
  · exact n66
theorem n70 : G [(16393, 1008, 8), (12292, 0, 0), (8252, 1, 1), (4099, 2, 2), (5, 0, 0)] := CoversG.ptsK 16 [24582] (by kernel_rfl) (by kernel_rfl) (.drewF (.tree _ c28) L0)
theorem n69 : G [(12292, 0, 0), (8252, 1, 1), (4099, 2, 2), (5, 0, 0)] := CoversG.ptsK 8 [16393] (by kernel_rfl) (by kernel_rfl) (n70)
theorem n72 : G [(16393, 1008, 8), (20489, 1009, 8), (12292, 1, 1), (8252, 1, 1), (4099, 2, 2), (5, 0, 0)] := CoversG.ptsK 16 [28678] (by kernel_rfl) (by kernel_rfl) (.drewF (.tree _ c29) L1)
theorem n71 : G [(12292, 1, 1), (8252, 1, 1), (4099, 2, 2), (5, 0, 0)] := CoversG.ptsK 8 [16393, 20489] (by kernel_rfl) (by kernel_rfl) (n72)
theorem n74 : G [(16393, 1008, 8), (20489, 1009, 8), (24585, 1010, 8), (12292, 2, 2), (8252, 1, 1), (4099, 2, 2), (5, 0, 0)] := CoversG.ptsK 16 [32774] (by kernel_rfl) (by kernel_rfl) (.drewF (.tree _ c30) L2)
theorem n73 : G [(12292, 2, 2), (8252, 1, 1), (4099, 2, 2), (5, 0, 0)] := CoversG.ptsK 8 [16393, 20489, 24585] (by kernel_rfl) (by kernel_rfl) (n74)
theorem n76 : G [(16393, 1008, 8), (20489, 1009, 8), (24585, 1010, 8), (28681, 1011, 8), (12292, 3, 3), (8252, 1, 1), (4099, 2, 2), (5, 0, 0)] := CoversG.ptsK 16 [36870] (by kernel_rfl) (by kernel_rfl) (.drewF (.tree _ c31) L3)
theorem n75 : G [(12292, 3, 3), (8252, 1, 1), (4099, 2, 2), (5, 0, 0)] := CoversG.ptsK 8 [16393, 20489, 24585, 28681] (by kernel_rfl) (by kernel_rfl) (n76)
theorem n68 : G [(8252, 1, 1), (4099, 2, 2), (5, 0, 0)] := CoversG.part 12292 (by kernel_rfl) fun v hv => by
  have h : v = 0 ∨ v = 1 ∨ v = 2 ∨ v = 3 := by omega
  rcases h with rfl | rfl | rfl | rfl
  · exact n69
  · exact n71
  · exact n73
  · exact n75
theorem n79 : G [(16393, 1008, 8), (12292, 0, 0), (8252, 2, 59), (4099, 2, 2), (5, 0, 0)] := CoversG.ptsK 16 [24582] (by kernel_rfl) (by kernel_rfl) (.drewF (.tree _ c32) L0)
theorem n78 : G [(12292, 0, 0), (8252, 2, 59), (4099, 2, 2), (5, 0, 0)] := CoversG.ptsK 8 [16393] (by kernel_rfl) (by kernel_rfl) (n79)
theorem n81 : G [(16393, 1008, 8), (20489, 1009, 8), (12292, 1, 1), (8252, 2, 59), (4099, 2, 2), (5, 0, 0)] := CoversG.ptsK 16 [28678] (by kernel_rfl) (by kernel_rfl) (.drewF (.tree _ c33) L1)
theorem n80 : G [(12292, 1, 1), (8252, 2, 59), (4099, 2, 2), (5, 0, 0)] := CoversG.ptsK 8 [16393, 20489] (by kernel_rfl) (by kernel_rfl) (n81)
theorem n83 : G [(16393, 1008, 8), (20489, 1009, 8), (24585, 1010, 8), (12292, 2, 2), (8252, 2, 59), (4099, 2, 2), (5, 0, 0)] := CoversG.ptsK 16 [32774] (by kernel_rfl) (by kernel_rfl) (.drewF (.tree _ c34) L2)
theorem n82 : G [(12292, 2, 2), (8252, 2, 59), (4099, 2, 2), (5, 0, 0)] := CoversG.ptsK 8 [16393, 20489, 24585] (by kernel_rfl) (by kernel_rfl) (n83)
theorem n85 : G [(16393, 1008, 8), (20489, 1009, 8), (24585, 1010, 8), (28681, 1011, 8), (12292, 3, 3), (8252, 2, 59), (4099, 2, 2), (5, 0, 0)] := CoversG.ptsK 16 [36870] (by kernel_rfl) (by kernel_rfl) (.drewF (.tree _ c35) L3)
theorem n84 : G [(12292, 3, 3), (8252, 2, 59), (4099, 2, 2), (5, 0, 0)] := CoversG.ptsK 8 [16393, 20489, 24585, 28681] (by kernel_rfl) (by kernel_rfl) (n85)
theorem n77 : G [(8252, 2, 59), (4099, 2, 2), (5, 0, 0)] := CoversG.part 12292 (by kernel_rfl) fun v hv => by
  have h : v = 0 ∨ v = 1 ∨ v = 2 ∨ v = 3 := by omega
  rcases h with rfl | rfl | rfl | rfl
  · exact n78
  · exact n80
  · exact n82
  · exact n84
theorem n58 : G [(4099, 2, 2), (5, 0, 0)] := CoversG.three 8252 (by kernel_rfl) (n59) (n68) (n77)
theorem n1 : G [(5, 0, 0)] := CoversG.part 4099 (by kernel_rfl) fun v hv => by
  have h : v = 0 ∨ v = 1 ∨ v = 2 := by omega
  rcases h with rfl | rfl | rfl
  · exact n2
  · exact n30
  · exact n58
theorem n91 : G [(20489, 1008, 8), (16388, 0, 0), (12348, 0, 0), (8195, 1000, 2), (4099, 0, 0), (5, 1, 1)] := CoversG.ptsK 16 [28678] (by kernel_rfl) (by kernel_rfl) (.drewF (.tree _ c36) L0)
theorem n90 : G [(16388, 0, 0), (12348, 0, 0), (8195, 1000, 2), (4099, 0, 0), (5, 1, 1)] := CoversG.ptsK 8 [20489] (by kernel_rfl) (by kernel_rfl) (n91)
theorem n93 : G [(20489, 1008, 8), (24585, 1009, 8), (16388, 1, 1), (12348, 0, 0), (8195, 1000, 2), (4099, 0, 0), (5, 1, 1)] := CoversG.ptsK 16 [32774] (by kernel_rfl) (by kernel_rfl) (.drewF (.tree _ c37) L1)
theorem n92 : G [(16388, 1, 1), (12348, 0, 0), (8195, 1000, 2), (4099, 0, 0), (5, 1, 1)] := CoversG.ptsK 8 [20489, 24585] (by kernel_rfl) (by kernel_rfl) (n93)
theorem n95 : G [(20489, 1008, 8), (24585, 1009, 8), (28681, 1010, 8), (16388, 2, 2), (12348, 0, 0), (8195, 1000, 2), (4099, 0, 0), (5, 1, 1)] := CoversG.ptsK 16 [36870] (by kernel_rfl) (by kernel_rfl) (.drewF (.tree _ c38) L2)
theorem n94 : G [(16388, 2, 2), (12348, 0, 0), (8195, 1000, 2), (4099, 0, 0), (5, 1, 1)] := CoversG.ptsK 8 [20489, 24585, 28681] (by kernel_rfl) (by kernel_rfl) (n95)
theorem n97 : G [(20489, 1008, 8), (24585, 1009, 8), (28681, 1010, 8), (32777, 1011, 8), (16388, 3, 3), (12348, 0, 0), (8195, 1000, 2), (4099, 0, 0), (5, 1, 1)] := CoversG.ptsK 16 [40966] (by kernel_rfl) (by kernel_rfl) (.drewF (.tree _ c39) L3)
theorem n96 : G [(16388, 3, 3), (12348, 0, 0), (8195, 1000, 2), (4099, 0, 0), (5, 1, 1)] := CoversG.ptsK 8 [20489, 24585, 28681, 32777] (by kernel_rfl) (by kernel_rfl) (n97)
theorem n89 : G [(12348, 0, 0), (8195, 1000, 2), (4099, 0, 0), (5, 1, 1)] := CoversG.part 16388 (by kernel_rfl) fun v hv => by
  have h : v = 0 ∨ v = 1 ∨ v = 2 ∨ v = 3 := by omega
  rcases h with rfl | rfl | rfl | rfl
  · exact n90
  · exact n92
  · exact n94
  · exact n96
theorem n100 : G [(20489, 1008, 8), (16388, 0, 0), (12348, 1, 1), (8195, 1000, 2), (4099, 0, 0), (5, 1, 1)] := CoversG.ptsK 16 [28678] (by kernel_rfl) (by kernel_rfl) (.drewF (.tree _ c40) L0)
theorem n99 : G [(16388, 0, 0), (12348, 1, 1), (8195, 1000, 2), (4099, 0, 0), (5, 1, 1)] := CoversG.ptsK 8 [20489] (by kernel_rfl) (by kernel_rfl) (n100)
theorem n102 : G [(20489, 1008, 8), (24585, 1009, 8), (16388, 1, 1), (12348, 1, 1), (8195, 1000, 2), (4099, 0, 0), (5, 1, 1)] := CoversG.ptsK 16 [32774] (by kernel_rfl) (by kernel_rfl) (.drewF (.tree _ c41) L1)
theorem n101 : G [(16388, 1, 1), (12348, 1, 1), (8195, 1000, 2), (4099, 0, 0), (5, 1, 1)] := CoversG.ptsK 8 [20489, 24585] (by kernel_rfl) (by kernel_rfl) (n102)
theorem n104 : G [(20489, 1008, 8), (24585, 1009, 8), (28681, 1010, 8), (16388, 2, 2), (12348, 1, 1), (8195, 1000, 2), (4099, 0, 0), (5, 1, 1)] := CoversG.ptsK 16 [36870] (by kernel_rfl) (by kernel_rfl) (.drewF (.tree _ c42) L2)
theorem n103 : G [(16388, 2, 2), (12348, 1, 1), (8195, 1000, 2), (4099, 0, 0), (5, 1, 1)] := CoversG.ptsK 8 [20489, 24585, 28681] (by kernel_rfl) (by kernel_rfl) (n104)
theorem n106 : G [(20489, 1008, 8), (24585, 1009, 8), (28681, 1010, 8), (32777, 1011, 8), (16388, 3, 3), (12348, 1, 1), (8195, 1000, 2), (4099, 0, 0), (5, 1, 1)] := CoversG.ptsK 16 [40966] (by kernel_rfl) (by kernel_rfl) (.drewF (.tree _ c43) L3)
theorem n105 : G [(16388, 3, 3), (12348, 1, 1), (8195, 1000, 2), (4099, 0, 0), (5, 1, 1)] := CoversG.ptsK 8 [20489, 24585, 28681, 32777] (by kernel_rfl) (by kernel_rfl) (n106)
theorem n98 : G [(12348, 1, 1), (8195, 1000, 2), (4099, 0, 0), (5, 1, 1)] := CoversG.part 16388 (by kernel_rfl) fun v hv => by
  have h : v = 0 ∨ v = 1 ∨ v = 2 ∨ v = 3 := by omega
  rcases h with rfl | rfl | rfl | rfl
  · exact n99
  · exact n101
  · exact n103
  · exact n105
theorem n108 : G [(16386, 0, 0), (12348, 2, 59), (8195, 1000, 2), (4099, 0, 0), (5, 1, 1)] := CoversG.ptsK 16 [20486] (by kernel_rfl) (by kernel_rfl) (.drewF (.tree _ c44) L4)
theorem n111 : G [(24585, 1008, 8), (20484, 0, 0), (16386, 1, 1), (12348, 2, 59), (8195, 1000, 2), (4099, 0, 0), (5, 1, 1)] := CoversG.ptsK 16 [32774] (by kernel_rfl) (by kernel_rfl) (.drewF (.tree _ c45) L0)
theorem n110 : G [(20484, 0, 0), (16386, 1, 1), (12348, 2, 59), (8195, 1000, 2), (4099, 0, 0), (5, 1, 1)] := CoversG.ptsK 8 [24585] (by kernel_rfl) (by kernel_rfl) (n111)
theorem n113 : G [(24585, 1008, 8), (28681, 1009, 8), (20484, 1, 1), (16386, 1, 1), (12348, 2, 59), (8195, 1000, 2), (4099, 0, 0), (5, 1, 1)] := CoversG.ptsK 16 [36870] (by kernel_rfl) (by kernel_rfl) (.drewF (.tree _ c46) L1)
theorem n112 : G [(20484, 1, 1), (16386, 1, 1), (12348, 2, 59), (8195, 1000, 2), (4099, 0, 0), (5, 1, 1)] := CoversG.ptsK 8 [24585, 28681] (by kernel_rfl) (by kernel_rfl) (n113)
theorem n115 : G [(24585, 1008, 8), (28681, 1009, 8), (32777, 1010, 8), (20484, 2, 2), (16386, 1, 1), (12348, 2, 59), (8195, 1000, 2), (4099, 0, 0), (5, 1, 1)] := CoversG.ptsK 16 [40966] (by kernel_rfl) (by kernel_rfl) (.drewF (.tree _ c47) L2)
theorem n114 : G [(20484, 2, 2), (16386, 1, 1), (12348, 2, 59), (8195, 1000, 2), (4099, 0, 0), (5, 1, 1)] := CoversG.ptsK 8 [24585, 28681, 32777] (by kernel_rfl) (by kernel_rfl) (n115)
theorem n117 : G [(24585, 1008, 8), (28681, 1009, 8), (32777, 1010, 8), (36873, 1011, 8), (20484, 3, 3), (16386, 1, 1), (12348, 2, 59), (8195, 1000, 2), (4099, 0, 0), (5, 1, 1)] := CoversG.ptsK 16 [45062] (by kernel_rfl) (by kernel_rfl) (.drewF (.tree _ c48) L3)
theorem n116 : G [(20484, 3, 3), (16386, 1, 1), (12348, 2, 59), (8195, 1000, 2), (4099, 0, 0), (5, 1, 1)] := CoversG.ptsK 8 [24585, 28681, 32777, 36873] (by kernel_rfl) (by kernel_rfl) (n117)
theorem n109 : G [(16386, 1, 1), (12348, 2, 59), (8195, 1000, 2), (4099, 0, 0), (5, 1, 1)] := CoversG.part 20484 (by kernel_rfl) fun v hv => by
  have h : v = 0 ∨ v = 1 ∨ v = 2 ∨ v = 3 := by omega
  rcases h with rfl | rfl | rfl | rfl
  · exact n110
  · exact n112
  · exact n114
  · exact n116
theorem n107 : G [(12348, 2, 59), (8195, 1000, 2), (4099, 0, 0), (5, 1, 1)] := CoversG.two 16386 (by kernel_rfl) (n108) (n109)
theorem n88 : G [(8195, 1000, 2), (4099, 0, 0), (5, 1, 1)] := CoversG.three 12348 (by kernel_rfl) (n89) (n98) (n107)
theorem n87 : G [(4099, 0, 0), (5, 1, 1)] := CoversG.ptsK 0 [8195] (by kernel_rfl) (by kernel_rfl) (n88)
theorem n122 : G [(20489, 1008, 8), (16388, 0, 0), (12348, 0, 0), (8197, 1000, 4), (4099, 1, 1), (5, 1, 1)] := CoversG.ptsK 16 [28678] (by kernel_rfl) (by kernel_rfl) (.drewF (.tree _ c49) L0)
theorem n121 : G [(16388, 0, 0), (12348, 0, 0), (8197, 1000, 4), (4099, 1, 1), (5, 1, 1)] := CoversG.ptsK 8 [20489] (by kernel_rfl) (by kernel_rfl) (n122)
theorem n124 : G [(20489, 1008, 8), (24585, 1009, 8), (16388, 1, 1), (12348, 0, 0), (8197, 1000, 4), (4099, 1, 1), (5, 1, 1)] := CoversG.ptsK 16 [32774] (by kernel_rfl) (by kernel_rfl) (.drewF (.tree _ c50) L1)
theorem n123 : G [(16388, 1, 1), (12348, 0, 0), (8197, 1000, 4), (4099, 1, 1), (5, 1, 1)] := CoversG.ptsK 8 [20489, 24585] (by kernel_rfl) (by kernel_rfl) (n124)
theorem n126 : G [(20489, 1008, 8), (24585, 1009, 8), (28681, 1010, 8), (16388, 2, 2), (12348, 0, 0), (8197, 1000, 4), (4099, 1, 1), (5, 1, 1)] := CoversG.ptsK 16 [36870] (by kernel_rfl) (by kernel_rfl) (.drewF (.tree _ c51) L2)
theorem n125 : G [(16388, 2, 2), (12348, 0, 0), (8197, 1000, 4), (4099, 1, 1), (5, 1, 1)] := CoversG.ptsK 8 [20489, 24585, 28681] (by kernel_rfl) (by kernel_rfl) (n126)
theorem n128 : G [(20489, 1008, 8), (24585, 1009, 8), (28681, 1010, 8), (32777, 1011, 8), (16388, 3, 3), (12348, 0, 0), (8197, 1000, 4), (4099, 1, 1), (5, 1, 1)] := CoversG.ptsK 16 [40966] (by kernel_rfl) (by kernel_rfl) (.drewF (.tree _ c52) L3)
theorem n127 : G [(16388, 3, 3), (12348, 0, 0), (8197, 1000, 4), (4099, 1, 1), (5, 1, 1)] := CoversG.ptsK 8 [20489, 24585, 28681, 32777] (by kernel_rfl) (by kernel_rfl) (n128)
theorem n120 : G [(12348, 0, 0), (8197, 1000, 4), (4099, 1, 1), (5, 1, 1)] := CoversG.part 16388 (by kernel_rfl) fun v hv => by
  have h : v = 0 ∨ v = 1 ∨ v = 2 ∨ v = 3 := by omega
  rcases h with rfl | rfl | rfl | rfl
  · exact n121
  · exact n123
  · exact n125
  · exact n127
theorem n131 : G [(20489, 1008, 8), (16388, 0, 0), (12348, 1, 1), (8197, 1000, 4), (4099, 1, 1), (5, 1, 1)] := CoversG.ptsK 16 [28678] (by kernel_rfl) (by kernel_rfl) (.drewF (.tree _ c53) L0)
theorem n130 : G [(16388, 0, 0), (12348, 1, 1), (8197, 1000, 4), (4099, 1, 1), (5, 1, 1)] := CoversG.ptsK 8 [20489] (by kernel_rfl) (by kernel_rfl) (n131)
theorem n133 : G [(20489, 1008, 8), (24585, 1009, 8), (16388, 1, 1), (12348, 1, 1), (8197, 1000, 4), (4099, 1, 1), (5, 1, 1)] := CoversG.ptsK 16 [32774] (by kernel_rfl) (by kernel_rfl) (.drewF (.tree _ c54) L1)
theorem n132 : G [(16388, 1, 1), (12348, 1, 1), (8197, 1000, 4), (4099, 1, 1), (5, 1, 1)] := CoversG.ptsK 8 [20489, 24585] (by kernel_rfl) (by kernel_rfl) (n133)
theorem n135 : G [(20489, 1008, 8), (24585, 1009, 8), (28681, 1010, 8), (16388, 2, 2), (12348, 1, 1), (8197, 1000, 4), (4099, 1, 1), (5, 1, 1)] := CoversG.ptsK 16 [36870] (by kernel_rfl) (by kernel_rfl) (.drewF (.tree _ c55) L2)
theorem n134 : G [(16388, 2, 2), (12348, 1, 1), (8197, 1000, 4), (4099, 1, 1), (5, 1, 1)] := CoversG.ptsK 8 [20489, 24585, 28681] (by kernel_rfl) (by kernel_rfl) (n135)
theorem n137 : G [(20489, 1008, 8), (24585, 1009, 8), (28681, 1010, 8), (32777, 1011, 8), (16388, 3, 3), (12348, 1, 1), (8197, 1000, 4), (4099, 1, 1), (5, 1, 1)] := CoversG.ptsK 16 [40966] (by kernel_rfl) (by kernel_rfl) (.drewF (.tree _ c56) L3)
theorem n136 : G [(16388, 3, 3), (12348, 1, 1), (8197, 1000, 4), (4099, 1, 1), (5, 1, 1)] := CoversG.ptsK 8 [20489, 24585, 28681, 32777] (by kernel_rfl) (by kernel_rfl) (n137)
theorem n129 : G [(12348, 1, 1), (8197, 1000, 4), (4099, 1, 1), (5, 1, 1)] := CoversG.part 16388 (by kernel_rfl) fun v hv => by
  have h : v = 0 ∨ v = 1 ∨ v = 2 ∨ v = 3 := by omega
  rcases h with rfl | rfl | rfl | rfl
  · exact n130
  · exact n132
  · exact n134
  · exact n136
theorem n139 : G [(16386, 0, 0), (12348, 2, 59), (8197, 1000, 4), (4099, 1, 1), (5, 1, 1)] := CoversG.ptsK 16 [20486] (by kernel_rfl) (by kernel_rfl) (.drewF (.tree _ c57) L4)
theorem n142 : G [(24585, 1008, 8), (20484, 0, 0), (16386, 1, 1), (12348, 2, 59), (8197, 1000, 4), (4099, 1, 1), (5, 1, 1)] := CoversG.ptsK 16 [32774] (by kernel_rfl) (by kernel_rfl) (.drewF (.tree _ c58) L0)
theorem n141 : G [(20484, 0, 0), (16386, 1, 1), (12348, 2, 59), (8197, 1000, 4), (4099, 1, 1), (5, 1, 1)] := CoversG.ptsK 8 [24585] (by kernel_rfl) (by kernel_rfl) (n142)
theorem n144 : G [(24585, 1008, 8), (28681, 1009, 8), (20484, 1, 1), (16386, 1, 1), (12348, 2, 59), (8197, 1000, 4), (4099, 1, 1), (5, 1, 1)] := CoversG.ptsK 16 [36870] (by kernel_rfl) (by kernel_rfl) (.drewF (.tree _ c59) L1)
theorem n143 : G [(20484, 1, 1), (16386, 1, 1), (12348, 2, 59), (8197, 1000, 4), (4099, 1, 1), (5, 1, 1)] := CoversG.ptsK 8 [24585, 28681] (by kernel_rfl) (by kernel_rfl) (n144)
theorem n146 : G [(24585, 1008, 8), (28681, 1009, 8), (32777, 1010, 8), (20484, 2, 2), (16386, 1, 1), (12348, 2, 59), (8197, 1000, 4), (4099, 1, 1), (5, 1, 1)] := CoversG.ptsK 16 [40966] (by kernel_rfl) (by kernel_rfl) (.drewF (.tree _ c60) L2)
theorem n145 : G [(20484, 2, 2), (16386, 1, 1), (12348, 2, 59), (8197, 1000, 4), (4099, 1, 1), (5, 1, 1)] := CoversG.ptsK 8 [24585, 28681, 32777] (by kernel_rfl) (by kernel_rfl) (n146)
theorem n148 : G [(24585, 1008, 8), (28681, 1009, 8), (32777, 1010, 8), (36873, 1011, 8), (20484, 3, 3), (16386, 1, 1), (12348, 2, 59), (8197, 1000, 4), (4099, 1, 1), (5, 1, 1)] := CoversG.ptsK 16 [45062] (by kernel_rfl) (by kernel_rfl) (.drewF (.tree _ c61) L3)
theorem n147 : G [(20484, 3, 3), (16386, 1, 1), (12348, 2, 59), (8197, 1000, 4), (4099, 1, 1), (5, 1, 1)] := CoversG.ptsK 8 [24585, 28681, 32777, 36873] (by kernel_rfl) (by kernel_rfl) (n148)
theorem n140 : G [(16386, 1, 1), (12348, 2, 59), (8197, 1000, 4), (4099, 1, 1), (5, 1, 1)] := CoversG.part 20484 (by kernel_rfl) fun v hv => by
  have h : v = 0 ∨ v = 1 ∨ v = 2 ∨ v = 3 := by omega
  rcases h with rfl | rfl | rfl | rfl
  · exact n141
  · exact n143
  · exact n145
  · exact n147
theorem n138 : G [(12348, 2, 59), (8197, 1000, 4), (4099, 1, 1), (5, 1, 1)] := CoversG.two 16386 (by kernel_rfl) (n139) (n140)
theorem n119 : G [(8197, 1000, 4), (4099, 1, 1), (5, 1, 1)] := CoversG.three 12348 (by kernel_rfl) (n120) (n129) (n138)
theorem n118 : G [(4099, 1, 1), (5, 1, 1)] := CoversG.ptsK 0 [8197] (by kernel_rfl) (by kernel_rfl) (n119)
theorem n153 : G [(20489, 1008, 8), (16388, 0, 0), (12348, 0, 0), (8199, 1000, 6), (4099, 2, 2), (5, 1, 1)] := CoversG.ptsK 16 [28678] (by kernel_rfl) (by kernel_rfl) (.drewF (.tree _ c62) L0)
theorem n152 : G [(16388, 0, 0), (12348, 0, 0), (8199, 1000, 6), (4099, 2, 2), (5, 1, 1)] := CoversG.ptsK 8 [20489] (by kernel_rfl) (by kernel_rfl) (n153)
theorem n155 : G [(20489, 1008, 8), (24585, 1009, 8), (16388, 1, 1), (12348, 0, 0), (8199, 1000, 6), (4099, 2, 2), (5, 1, 1)] := CoversG.ptsK 16 [32774] (by kernel_rfl) (by kernel_rfl) (.drewF (.tree _ c63) L1)
theorem n154 : G [(16388, 1, 1), (12348, 0, 0), (8199, 1000, 6), (4099, 2, 2), (5, 1, 1)] := CoversG.ptsK 8 [20489, 24585] (by kernel_rfl) (by kernel_rfl) (n155)
theorem n157 : G [(20489, 1008, 8), (24585, 1009, 8), (28681, 1010, 8), (16388, 2, 2), (12348, 0, 0), (8199, 1000, 6), (4099, 2, 2), (5, 1, 1)] := CoversG.ptsK 16 [36870] (by kernel_rfl) (by kernel_rfl) (.drewF (.tree _ c64) L2)
theorem n156 : G [(16388, 2, 2), (12348, 0, 0), (8199, 1000, 6), (4099, 2, 2), (5, 1, 1)] := CoversG.ptsK 8 [20489, 24585, 28681] (by kernel_rfl) (by kernel_rfl) (n157)
theorem n159 : G [(20489, 1008, 8), (24585, 1009, 8), (28681, 1010, 8), (32777, 1011, 8), (16388, 3, 3), (12348, 0, 0), (8199, 1000, 6), (4099, 2, 2), (5, 1, 1)] := CoversG.ptsK 16 [40966] (by kernel_rfl) (by kernel_rfl) (.drewF (.tree _ c65) L3)
theorem n158 : G [(16388, 3, 3), (12348, 0, 0), (8199, 1000, 6), (4099, 2, 2), (5, 1, 1)] := CoversG.ptsK 8 [20489, 24585, 28681, 32777] (by kernel_rfl) (by kernel_rfl) (n159)
theorem n151 : G [(12348, 0, 0), (8199, 1000, 6), (4099, 2, 2), (5, 1, 1)] := CoversG.part 16388 (by kernel_rfl) fun v hv => by
  have h : v = 0 ∨ v = 1 ∨ v = 2 ∨ v = 3 := by omega
  rcases h with rfl | rfl | rfl | rfl
  · exact n152
  · exact n154
  · exact n156
  · exact n158
theorem n162 : G [(20489, 1008, 8), (16388, 0, 0), (12348, 1, 1), (8199, 1000, 6), (4099, 2, 2), (5, 1, 1)] := CoversG.ptsK 16 [28678] (by kernel_rfl) (by kernel_rfl) (.drewF (.tree _ c66) L0)
theorem n161 : G [(16388, 0, 0), (12348, 1, 1), (8199, 1000, 6), (4099, 2, 2), (5, 1, 1)] := CoversG.ptsK 8 [20489] (by kernel_rfl) (by kernel_rfl) (n162)
theorem n164 : G [(20489, 1008, 8), (24585, 1009, 8), (16388, 1, 1), (12348, 1, 1), (8199, 1000, 6), (4099, 2, 2), (5, 1, 1)] := CoversG.ptsK 16 [32774] (by kernel_rfl) (by kernel_rfl) (.drewF (.tree _ c67) L1)
theorem n163 : G [(16388, 1, 1), (12348, 1, 1), (8199, 1000, 6), (4099, 2, 2), (5, 1, 1)] := CoversG.ptsK 8 [20489, 24585] (by kernel_rfl) (by kernel_rfl) (n164)
theorem n166 : G [(20489, 1008, 8), (24585, 1009, 8), (28681, 1010, 8), (16388, 2, 2), (12348, 1, 1), (8199, 1000, 6), (4099, 2, 2), (5, 1, 1)] := CoversG.ptsK 16 [36870] (by kernel_rfl) (by kernel_rfl) (.drewF (.tree _ c68) L2)
theorem n165 : G [(16388, 2, 2), (12348, 1, 1), (8199, 1000, 6), (4099, 2, 2), (5, 1, 1)] := CoversG.ptsK 8 [20489, 24585, 28681] (by kernel_rfl) (by kernel_rfl) (n166)
theorem n168 : G [(20489, 1008, 8), (24585, 1009, 8), (28681, 1010, 8), (32777, 1011, 8), (16388, 3, 3), (12348, 1, 1), (8199, 1000, 6), (4099, 2, 2), (5, 1, 1)] := CoversG.ptsK 16 [40966] (by kernel_rfl) (by kernel_rfl) (.drewF (.tree _ c69) L3)
theorem n167 : G [(16388, 3, 3), (12348, 1, 1), (8199, 1000, 6), (4099, 2, 2), (5, 1, 1)] := CoversG.ptsK 8 [20489, 24585, 28681, 32777] (by kernel_rfl) (by kernel_rfl) (n168)
theorem n160 : G [(12348, 1, 1), (8199, 1000, 6), (4099, 2, 2), (5, 1, 1)] := CoversG.part 16388 (by kernel_rfl) fun v hv => by
  have h : v = 0 ∨ v = 1 ∨ v = 2 ∨ v = 3 := by omega
  rcases h with rfl | rfl | rfl | rfl
  · exact n161
  · exact n163
  · exact n165
  · exact n167
theorem n170 : G [(16386, 0, 0), (12348, 2, 59), (8199, 1000, 6), (4099, 2, 2), (5, 1, 1)] := CoversG.ptsK 16 [20486] (by kernel_rfl) (by kernel_rfl) (.drewF (.tree _ c70) L4)
theorem n173 : G [(24585, 1008, 8), (20484, 0, 0), (16386, 1, 1), (12348, 2, 59), (8199, 1000, 6), (4099, 2, 2), (5, 1, 1)] := CoversG.ptsK 16 [32774] (by kernel_rfl) (by kernel_rfl) (.drewF (.tree _ c71) L0)
theorem n172 : G [(20484, 0, 0), (16386, 1, 1), (12348, 2, 59), (8199, 1000, 6), (4099, 2, 2), (5, 1, 1)] := CoversG.ptsK 8 [24585] (by kernel_rfl) (by kernel_rfl) (n173)
theorem n175 : G [(24585, 1008, 8), (28681, 1009, 8), (20484, 1, 1), (16386, 1, 1), (12348, 2, 59), (8199, 1000, 6), (4099, 2, 2), (5, 1, 1)] := CoversG.ptsK 16 [36870] (by kernel_rfl) (by kernel_rfl) (.drewF (.tree _ c72) L1)
theorem n174 : G [(20484, 1, 1), (16386, 1, 1), (12348, 2, 59), (8199, 1000, 6), (4099, 2, 2), (5, 1, 1)] := CoversG.ptsK 8 [24585, 28681] (by kernel_rfl) (by kernel_rfl) (n175)
theorem n177 : G [(24585, 1008, 8), (28681, 1009, 8), (32777, 1010, 8), (20484, 2, 2), (16386, 1, 1), (12348, 2, 59), (8199, 1000, 6), (4099, 2, 2), (5, 1, 1)] := CoversG.ptsK 16 [40966] (by kernel_rfl) (by kernel_rfl) (.drewF (.tree _ c73) L2)
theorem n176 : G [(20484, 2, 2), (16386, 1, 1), (12348, 2, 59), (8199, 1000, 6), (4099, 2, 2), (5, 1, 1)] := CoversG.ptsK 8 [24585, 28681, 32777] (by kernel_rfl) (by kernel_rfl) (n177)
theorem n179 : G [(24585, 1008, 8), (28681, 1009, 8), (32777, 1010, 8), (36873, 1011, 8), (20484, 3, 3), (16386, 1, 1), (12348, 2, 59), (8199, 1000, 6), (4099, 2, 2), (5, 1, 1)] := CoversG.ptsK 16 [45062] (by kernel_rfl) (by kernel_rfl) (.drewF (.tree _ c74) L3)
theorem n178 : G [(20484, 3, 3), (16386, 1, 1), (12348, 2, 59), (8199, 1000, 6), (4099, 2, 2), (5, 1, 1)] := CoversG.ptsK 8 [24585, 28681, 32777, 36873] (by kernel_rfl) (by kernel_rfl) (n179)
theorem n171 : G [(16386, 1, 1), (12348, 2, 59), (8199, 1000, 6), (4099, 2, 2), (5, 1, 1)] := CoversG.part 20484 (by kernel_rfl) fun v hv => by
  have h : v = 0 ∨ v = 1 ∨ v = 2 ∨ v = 3 := by omega
  rcases h with rfl | rfl | rfl | rfl
  · exact n172
  · exact n174
  · exact n176
  · exact n178
theorem n169 : G [(12348, 2, 59), (8199, 1000, 6), (4099, 2, 2), (5, 1, 1)] := CoversG.two 16386 (by kernel_rfl) (n170) (n171)
theorem n150 : G [(8199, 1000, 6), (4099, 2, 2), (5, 1, 1)] := CoversG.three 12348 (by kernel_rfl) (n151) (n160) (n169)
theorem n149 : G [(4099, 2, 2), (5, 1, 1)] := CoversG.ptsK 0 [8199] (by kernel_rfl) (by kernel_rfl) (n150)
theorem n86 : G [(5, 1, 1)] := CoversG.part 4099 (by kernel_rfl) fun v hv => by
  have h : v = 0 ∨ v = 1 ∨ v = 2 := by omega
  rcases h with rfl | rfl | rfl
  · exact n87
  · exact n118
  · exact n149
theorem n185 : G [(24585, 1008, 8), (20484, 0, 0), (16444, 0, 0), (8195, 1000, 2), (12291, 1001, 2), (4099, 0, 0), (5, 2, 2)] := CoversG.ptsK 16 [32774] (by kernel_rfl) (by kernel_rfl) (.drewF (.tree _ c75) L0)
theorem n184 : G [(20484, 0, 0), (16444, 0, 0), (8195, 1000, 2), (12291, 1001, 2), (4099, 0, 0), (5, 2, 2)] := CoversG.ptsK 8 [24585] (by kernel_rfl) (by kernel_rfl) (n185)
theorem n187 : G [(24585, 1008, 8), (28681, 1009, 8), (20484, 1, 1), (16444, 0, 0), (8195, 1000, 2), (12291, 1001, 2), (4099, 0, 0), (5, 2, 2)] := CoversG.ptsK 16 [36870] (by kernel_rfl) (by kernel_rfl) (.drewF (.tree _ c76) L1)
theorem n186 : G [(20484, 1, 1), (16444, 0, 0), (8195, 1000, 2), (12291, 1001, 2), (4099, 0, 0), (5, 2, 2)] := CoversG.ptsK 8 [24585, 28681] (by kernel_rfl) (by kernel_rfl) (n187)
theorem n189 : G [(24585, 1008, 8), (28681, 1009, 8), (32777, 1010, 8), (20484, 2, 2), (16444, 0, 0), (8195, 1000, 2), (12291, 1001, 2), (4099, 0, 0), (5, 2, 2)] := CoversG.ptsK 16 [40966] (by kernel_rfl) (by kernel_rfl) (.drewF (.tree _ c77) L2)
theorem n188 : G [(20484, 2, 2), (16444, 0, 0), (8195, 1000, 2), (12291, 1001, 2), (4099, 0, 0), (5, 2, 2)] := CoversG.ptsK 8 [24585, 28681, 32777] (by kernel_rfl) (by kernel_rfl) (n189)
theorem n191 : G [(24585, 1008, 8), (28681, 1009, 8), (32777, 1010, 8), (36873, 1011, 8), (20484, 3, 3), (16444, 0, 0), (8195, 1000, 2), (12291, 1001, 2), (4099, 0, 0), (5, 2, 2)] := CoversG.ptsK 16 [45062] (by kernel_rfl) (by kernel_rfl) (.drewF (.tree _ c78) L3)
theorem n190 : G [(20484, 3, 3), (16444, 0, 0), (8195, 1000, 2), (12291, 1001, 2), (4099, 0, 0), (5, 2, 2)] := CoversG.ptsK 8 [24585, 28681, 32777, 36873] (by kernel_rfl) (by kernel_rfl) (n191)
theorem n183 : G [(16444, 0, 0), (8195, 1000, 2), (12291, 1001, 2), (4099, 0, 0), (5, 2, 2)] := CoversG.part 20484 (by kernel_rfl) fun v hv => by
  have h : v = 0 ∨ v = 1 ∨ v = 2 ∨ v = 3 := by omega
  rcases h with rfl | rfl | rfl | rfl
  · exact n184
  · exact n186
  · exact n188
  · exact n190
theorem n194 : G [(24585, 1008, 8), (20484, 0, 0), (16444, 1, 1), (8195, 1000, 2), (12291, 1001, 2), (4099, 0, 0), (5, 2, 2)] := CoversG.ptsK 16 [32774] (by kernel_rfl) (by kernel_rfl) (.drewF (.tree _ c79) L0)
theorem n193 : G [(20484, 0, 0), (16444, 1, 1), (8195, 1000, 2), (12291, 1001, 2), (4099, 0, 0), (5, 2, 2)] := CoversG.ptsK 8 [24585] (by kernel_rfl) (by kernel_rfl) (n194)
theorem n196 : G [(24585, 1008, 8), (28681, 1009, 8), (20484, 1, 1), (16444, 1, 1), (8195, 1000, 2), (12291, 1001, 2), (4099, 0, 0), (5, 2, 2)] := CoversG.ptsK 16 [36870] (by kernel_rfl) (by kernel_rfl) (.drewF (.tree _ c80) L1)
theorem n195 : G [(20484, 1, 1), (16444, 1, 1), (8195, 1000, 2), (12291, 1001, 2), (4099, 0, 0), (5, 2, 2)] := CoversG.ptsK 8 [24585, 28681] (by kernel_rfl) (by kernel_rfl) (n196)
theorem n198 : G [(24585, 1008, 8), (28681, 1009, 8), (32777, 1010, 8), (20484, 2, 2), (16444, 1, 1), (8195, 1000, 2), (12291, 1001, 2), (4099, 0, 0), (5, 2, 2)] := CoversG.ptsK 16 [40966] (by kernel_rfl) (by kernel_rfl) (.drewF (.tree _ c81) L2)
theorem n197 : G [(20484, 2, 2), (16444, 1, 1), (8195, 1000, 2), (12291, 1001, 2), (4099, 0, 0), (5, 2, 2)] := CoversG.ptsK 8 [24585, 28681, 32777] (by kernel_rfl) (by kernel_rfl) (n198)
theorem n200 : G [(24585, 1008, 8), (28681, 1009, 8), (32777, 1010, 8), (36873, 1011, 8), (20484, 3, 3), (16444, 1, 1), (8195, 1000, 2), (12291, 1001, 2), (4099, 0, 0), (5, 2, 2)] := CoversG.ptsK 16 [45062] (by kernel_rfl) (by kernel_rfl) (.drewF (.tree _ c82) L3)
theorem n199 : G [(20484, 3, 3), (16444, 1, 1), (8195, 1000, 2), (12291, 1001, 2), (4099, 0, 0), (5, 2, 2)] := CoversG.ptsK 8 [24585, 28681, 32777, 36873] (by kernel_rfl) (by kernel_rfl) (n200)
theorem n192 : G [(16444, 1, 1), (8195, 1000, 2), (12291, 1001, 2), (4099, 0, 0), (5, 2, 2)] := CoversG.part 20484 (by kernel_rfl) fun v hv => by
  have h : v = 0 ∨ v = 1 ∨ v = 2 ∨ v = 3 := by omega
  rcases h with rfl | rfl | rfl | rfl
  · exact n193
  · exact n195
  · exact n197
  · exact n199
theorem n202 : G [(20482, 0, 0), (16444, 2, 59), (8195, 1000, 2), (12291, 1001, 2), (4099, 0, 0), (5, 2, 2)] := CoversG.ptsK 16 [24582] (by kernel_rfl) (by kernel_rfl) (.drewF (.tree _ c83) L5)
theorem n205 : G [(28681, 1008, 8), (24580, 0, 0), (20482, 1, 1), (16444, 2, 59), (8195, 1000, 2), (12291, 1001, 2), (4099, 0, 0), (5, 2, 2)] := CoversG.ptsK 16 [36870] (by kernel_rfl) (by kernel_rfl) (.drewF (.tree _ c84) L0)
theorem n204 : G [(24580, 0, 0), (20482, 1, 1), (16444, 2, 59), (8195, 1000, 2), (12291, 1001, 2), (4099, 0, 0), (5, 2, 2)] := CoversG.ptsK 8 [28681] (by kernel_rfl) (by kernel_rfl) (n205)
theorem n207 : G [(28681, 1008, 8), (32777, 1009, 8), (24580, 1, 1), (20482, 1, 1), (16444, 2, 59), (8195, 1000, 2), (12291, 1001, 2), (4099, 0, 0), (5, 2, 2)] := CoversG.ptsK 16 [40966] (by kernel_rfl) (by kernel_rfl) (.drewF (.tree _ c85) L1)
theorem n206 : G [(24580, 1, 1), (20482, 1, 1), (16444, 2, 59), (8195, 1000, 2), (12291, 1001, 2), (4099, 0, 0), (5, 2, 2)] := CoversG.ptsK 8 [28681, 32777] (by kernel_rfl) (by kernel_rfl) (n207)
theorem n209 : G [(28681, 1008, 8), (32777, 1009, 8), (36873, 1010, 8), (24580, 2, 2), (20482, 1, 1), (16444, 2, 59), (8195, 1000, 2), (12291, 1001, 2), (4099, 0, 0), (5, 2, 2)] := CoversG.ptsK 16 [45062] (by kernel_rfl) (by kernel_rfl) (.drewF (.tree _ c86) L2)
theorem n208 : G [(24580, 2, 2), (20482, 1, 1), (16444, 2, 59), (8195, 1000, 2), (12291, 1001, 2), (4099, 0, 0), (5, 2, 2)] := CoversG.ptsK 8 [28681, 32777, 36873] (by kernel_rfl) (by kernel_rfl) (n209)
theorem n211 : G [(28681, 1008, 8), (32777, 1009, 8), (36873, 1010, 8), (40969, 1011, 8), (24580, 3, 3), (20482, 1, 1), (16444, 2, 59), (8195, 1000, 2), (12291, 1001, 2), (4099, 0, 0), (5, 2, 2)] := CoversG.ptsK 16 [49158] (by kernel_rfl) (by kernel_rfl) (.drewF (.tree _ c87) L3)
theorem n210 : G [(24580, 3, 3), (20482, 1, 1), (16444, 2, 59), (8195, 1000, 2), (12291, 1001, 2), (4099, 0, 0), (5, 2, 2)] := CoversG.ptsK 8 [28681, 32777, 36873, 40969] (by kernel_rfl) (by kernel_rfl) (n211)
theorem n203 : G [(20482, 1, 1), (16444, 2, 59), (8195, 1000, 2), (12291, 1001, 2), (4099, 0, 0), (5, 2, 2)] := CoversG.part 24580 (by kernel_rfl) fun v hv => by
  have h : v = 0 ∨ v = 1 ∨ v = 2 ∨ v = 3 := by omega
  rcases h with rfl | rfl | rfl | rfl
  · exact n204
  · exact n206
  · exact n208
  · exact n210
theorem n201 : G [(16444, 2, 59), (8195, 1000, 2), (12291, 1001, 2), (4099, 0, 0), (5, 2, 2)] := CoversG.two 20482 (by kernel_rfl) (n202) (n203)
theorem n182 : G [(8195, 1000, 2), (12291, 1001, 2), (4099, 0, 0), (5, 2, 2)] := CoversG.three 16444 (by kernel_rfl) (n183) (n192) (n201)
theorem n181 : G [(4099, 0, 0), (5, 2, 2)] := CoversG.ptsK 0 [8195, 12291] (by kernel_rfl) (by kernel_rfl) (n182)
theorem n216 : G [(24585, 1008, 8), (20484, 0, 0), (16444, 0, 0), (8197, 1000, 4), (12293, 1001, 4), (4099, 1, 1), (5, 2, 2)] := CoversG.ptsK 16 [32774] (by kernel_rfl) (by kernel_rfl) (.drewF (.tree _ c88) L0)
theorem n215 : G [(20484, 0, 0), (16444, 0, 0), (8197, 1000, 4), (12293, 1001, 4), (4099, 1, 1), (5, 2, 2)] := CoversG.ptsK 8 [24585] (by kernel_rfl) (by kernel_rfl) (n216)
theorem n218 : G [(24585, 1008, 8), (28681, 1009, 8), (20484, 1, 1), (16444, 0, 0), (8197, 1000, 4), (12293, 1001, 4), (4099, 1, 1), (5, 2, 2)] := CoversG.ptsK 16 [36870] (by kernel_rfl) (by kernel_rfl) (.drewF (.tree _ c89) L1)
theorem n217 : G [(20484, 1, 1), (16444, 0, 0), (8197, 1000, 4), (12293, 1001, 4), (4099, 1, 1), (5, 2, 2)] := CoversG.ptsK 8 [24585, 28681] (by kernel_rfl) (by kernel_rfl) (n218)
theorem n220 : G [(24585, 1008, 8), (28681, 1009, 8), (32777, 1010, 8), (20484, 2, 2), (16444, 0, 0), (8197, 1000, 4), (12293, 1001, 4), (4099, 1, 1), (5, 2, 2)] := CoversG.ptsK 16 [40966] (by kernel_rfl) (by kernel_rfl) (.drewF (.tree _ c90) L2)
theorem n219 : G [(20484, 2, 2), (16444, 0, 0), (8197, 1000, 4), (12293, 1001, 4), (4099, 1, 1), (5, 2, 2)] := CoversG.ptsK 8 [24585, 28681, 32777] (by kernel_rfl) (by kernel_rfl) (n220)
theorem n222 : G [(24585, 1008, 8), (28681, 1009, 8), (32777, 1010, 8), (36873, 1011, 8), (20484, 3, 3), (16444, 0, 0), (8197, 1000, 4), (12293, 1001, 4), (4099, 1, 1), (5, 2, 2)] := CoversG.ptsK 16 [45062] (by kernel_rfl) (by kernel_rfl) (.drewF (.tree _ c91) L3)
theorem n221 : G [(20484, 3, 3), (16444, 0, 0), (8197, 1000, 4), (12293, 1001, 4), (4099, 1, 1), (5, 2, 2)] := CoversG.ptsK 8 [24585, 28681, 32777, 36873] (by kernel_rfl) (by kernel_rfl) (n222)
theorem n214 : G [(16444, 0, 0), (8197, 1000, 4), (12293, 1001, 4), (4099, 1, 1), (5, 2, 2)] := CoversG.part 20484 (by kernel_rfl) fun v hv => by
  have h : v = 0 ∨ v = 1 ∨ v = 2 ∨ v = 3 := by omega
  rcases h with rfl | rfl | rfl | rfl
  · exact n215
  · exact n217
  · exact n219
  · exact n221
theorem n225 : G [(24585, 1008, 8), (20484, 0, 0), (16444, 1, 1), (8197, 1000, 4), (12293, 1001, 4), (4099, 1, 1), (5, 2, 2)] := CoversG.ptsK 16 [32774] (by kernel_rfl) (by kernel_rfl) (.drewF (.tree _ c92) L0)
theorem n224 : G [(20484, 0, 0), (16444, 1, 1), (8197, 1000, 4), (12293, 1001, 4), (4099, 1, 1), (5, 2, 2)] := CoversG.ptsK 8 [24585] (by kernel_rfl) (by kernel_rfl) (n225)
theorem n227 : G [(24585, 1008, 8), (28681, 1009, 8), (20484, 1, 1), (16444, 1, 1), (8197, 1000, 4), (12293, 1001, 4), (4099, 1, 1), (5, 2, 2)] := CoversG.ptsK 16 [36870] (by kernel_rfl) (by kernel_rfl) (.drewF (.tree _ c93) L1)
theorem n226 : G [(20484, 1, 1), (16444, 1, 1), (8197, 1000, 4), (12293, 1001, 4), (4099, 1, 1), (5, 2, 2)] := CoversG.ptsK 8 [24585, 28681] (by kernel_rfl) (by kernel_rfl) (n227)
theorem n229 : G [(24585, 1008, 8), (28681, 1009, 8), (32777, 1010, 8), (20484, 2, 2), (16444, 1, 1), (8197, 1000, 4), (12293, 1001, 4), (4099, 1, 1), (5, 2, 2)] := CoversG.ptsK 16 [40966] (by kernel_rfl) (by kernel_rfl) (.drewF (.tree _ c94) L2)
theorem n228 : G [(20484, 2, 2), (16444, 1, 1), (8197, 1000, 4), (12293, 1001, 4), (4099, 1, 1), (5, 2, 2)] := CoversG.ptsK 8 [24585, 28681, 32777] (by kernel_rfl) (by kernel_rfl) (n229)
theorem n231 : G [(24585, 1008, 8), (28681, 1009, 8), (32777, 1010, 8), (36873, 1011, 8), (20484, 3, 3), (16444, 1, 1), (8197, 1000, 4), (12293, 1001, 4), (4099, 1, 1), (5, 2, 2)] := CoversG.ptsK 16 [45062] (by kernel_rfl) (by kernel_rfl) (.drewF (.tree _ c95) L3)
theorem n230 : G [(20484, 3, 3), (16444, 1, 1), (8197, 1000, 4), (12293, 1001, 4), (4099, 1, 1), (5, 2, 2)] := CoversG.ptsK 8 [24585, 28681, 32777, 36873] (by kernel_rfl) (by kernel_rfl) (n231)
theorem n223 : G [(16444, 1, 1), (8197, 1000, 4), (12293, 1001, 4), (4099, 1, 1), (5, 2, 2)] := CoversG.part 20484 (by kernel_rfl) fun v hv => by
  have h : v = 0 ∨ v = 1 ∨ v = 2 ∨ v = 3 := by omega
  rcases h with rfl | rfl | rfl | rfl
  · exact n224
  · exact n226
  · exact n228
  · exact n230
theorem n233 : G [(20482, 0, 0), (16444, 2, 59), (8197, 1000, 4), (12293, 1001, 4), (4099, 1, 1), (5, 2, 2)] := CoversG.ptsK 16 [24582] (by kernel_rfl) (by kernel_rfl) (.drewF (.tree _ c96) L5)
theorem n236 : G [(28681, 1008, 8), (24580, 0, 0), (20482, 1, 1), (16444, 2, 59), (8197, 1000, 4), (12293, 1001, 4), (4099, 1, 1), (5, 2, 2)] := CoversG.ptsK 16 [36870] (by kernel_rfl) (by kernel_rfl) (.drewF (.tree _ c97) L0)
theorem n235 : G [(24580, 0, 0), (20482, 1, 1), (16444, 2, 59), (8197, 1000, 4), (12293, 1001, 4), (4099, 1, 1), (5, 2, 2)] := CoversG.ptsK 8 [28681] (by kernel_rfl) (by kernel_rfl) (n236)
theorem n238 : G [(28681, 1008, 8), (32777, 1009, 8), (24580, 1, 1), (20482, 1, 1), (16444, 2, 59), (8197, 1000, 4), (12293, 1001, 4), (4099, 1, 1), (5, 2, 2)] := CoversG.ptsK 16 [40966] (by kernel_rfl) (by kernel_rfl) (.drewF (.tree _ c98) L1)
theorem n237 : G [(24580, 1, 1), (20482, 1, 1), (16444, 2, 59), (8197, 1000, 4), (12293, 1001, 4), (4099, 1, 1), (5, 2, 2)] := CoversG.ptsK 8 [28681, 32777] (by kernel_rfl) (by kernel_rfl) (n238)
theorem n240 : G [(28681, 1008, 8), (32777, 1009, 8), (36873, 1010, 8), (24580, 2, 2), (20482, 1, 1), (16444, 2, 59), (8197, 1000, 4), (12293, 1001, 4), (4099, 1, 1), (5, 2, 2)] := CoversG.ptsK 16 [45062] (by kernel_rfl) (by kernel_rfl) (.drewF (.tree _ c99) L2)
theorem n239 : G [(24580, 2, 2), (20482, 1, 1), (16444, 2, 59), (8197, 1000, 4), (12293, 1001, 4), (4099, 1, 1), (5, 2, 2)] := CoversG.ptsK 8 [28681, 32777, 36873] (by kernel_rfl) (by kernel_rfl) (n240)
theorem n242 : G [(28681, 1008, 8), (32777, 1009, 8), (36873, 1010, 8), (40969, 1011, 8), (24580, 3, 3), (20482, 1, 1), (16444, 2, 59), (8197, 1000, 4), (12293, 1001, 4), (4099, 1, 1), (5, 2, 2)] := CoversG.ptsK 16 [49158] (by kernel_rfl) (by kernel_rfl) (.drewF (.tree _ c100) L3)
theorem n241 : G [(24580, 3, 3), (20482, 1, 1), (16444, 2, 59), (8197, 1000, 4), (12293, 1001, 4), (4099, 1, 1), (5, 2, 2)] := CoversG.ptsK 8 [28681, 32777, 36873, 40969] (by kernel_rfl) (by kernel_rfl) (n242)
theorem n234 : G [(20482, 1, 1), (16444, 2, 59), (8197, 1000, 4), (12293, 1001, 4), (4099, 1, 1), (5, 2, 2)] := CoversG.part 24580 (by kernel_rfl) fun v hv => by
  have h : v = 0 ∨ v = 1 ∨ v = 2 ∨ v = 3 := by omega
  rcases h with rfl | rfl | rfl | rfl
  · exact n235
  · exact n237
  · exact n239
  · exact n241
theorem n232 : G [(16444, 2, 59), (8197, 1000, 4), (12293, 1001, 4), (4099, 1, 1), (5, 2, 2)] := CoversG.two 20482 (by kernel_rfl) (n233) (n234)
theorem n213 : G [(8197, 1000, 4), (12293, 1001, 4), (4099, 1, 1), (5, 2, 2)] := CoversG.three 16444 (by kernel_rfl) (n214) (n223) (n232)
theorem n212 : G [(4099, 1, 1), (5, 2, 2)] := CoversG.ptsK 0 [8197, 12293] (by kernel_rfl) (by kernel_rfl) (n213)
theorem n247 : G [(24585, 1008, 8), (20484, 0, 0), (16444, 0, 0), (8199, 1000, 6), (12295, 1001, 6), (4099, 2, 2), (5, 2, 2)] := CoversG.ptsK 16 [32774] (by kernel_rfl) (by kernel_rfl) (.drewF (.tree _ c101) L0)
theorem n246 : G [(20484, 0, 0), (16444, 0, 0), (8199, 1000, 6), (12295, 1001, 6), (4099, 2, 2), (5, 2, 2)] := CoversG.ptsK 8 [24585] (by kernel_rfl) (by kernel_rfl) (n247)
theorem n249 : G [(24585, 1008, 8), (28681, 1009, 8), (20484, 1, 1), (16444, 0, 0), (8199, 1000, 6), (12295, 1001, 6), (4099, 2, 2), (5, 2, 2)] := CoversG.ptsK 16 [36870] (by kernel_rfl) (by kernel_rfl) (.drewF (.tree _ c102) L1)
theorem n248 : G [(20484, 1, 1), (16444, 0, 0), (8199, 1000, 6), (12295, 1001, 6), (4099, 2, 2), (5, 2, 2)] := CoversG.ptsK 8 [24585, 28681] (by kernel_rfl) (by kernel_rfl) (n249)
theorem n251 : G [(24585, 1008, 8), (28681, 1009, 8), (32777, 1010, 8), (20484, 2, 2), (16444, 0, 0), (8199, 1000, 6), (12295, 1001, 6), (4099, 2, 2), (5, 2, 2)] := CoversG.ptsK 16 [40966] (by kernel_rfl) (by kernel_rfl) (.drewF (.tree _ c103) L2)
theorem n250 : G [(20484, 2, 2), (16444, 0, 0), (8199, 1000, 6), (12295, 1001, 6), (4099, 2, 2), (5, 2, 2)] := CoversG.ptsK 8 [24585, 28681, 32777] (by kernel_rfl) (by kernel_rfl) (n251)
theorem n253 : G [(24585, 1008, 8), (28681, 1009, 8), (32777, 1010, 8), (36873, 1011, 8), (20484, 3, 3), (16444, 0, 0), (8199, 1000, 6), (12295, 1001, 6), (4099, 2, 2), (5, 2, 2)] := CoversG.ptsK 16 [45062] (by kernel_rfl) (by kernel_rfl) (.drewF (.tree _ c104) L3)
theorem n252 : G [(20484, 3, 3), (16444, 0, 0), (8199, 1000, 6), (12295, 1001, 6), (4099, 2, 2), (5, 2, 2)] := CoversG.ptsK 8 [24585, 28681, 32777, 36873] (by kernel_rfl) (by kernel_rfl) (n253)
theorem n245 : G [(16444, 0, 0), (8199, 1000, 6), (12295, 1001, 6), (4099, 2, 2), (5, 2, 2)] := CoversG.part 20484 (by kernel_rfl) fun v hv => by
  have h : v = 0 ∨ v = 1 ∨ v = 2 ∨ v = 3 := by omega
  rcases h with rfl | rfl | rfl | rfl
  · exact n246
  · exact n248
  · exact n250
  · exact n252
theorem n256 : G [(24585, 1008, 8), (20484, 0, 0), (16444, 1, 1), (8199, 1000, 6), (12295, 1001, 6), (4099, 2, 2), (5, 2, 2)] := CoversG.ptsK 16 [32774] (by kernel_rfl) (by kernel_rfl) (.drewF (.tree _ c105) L0)
theorem n255 : G [(20484, 0, 0), (16444, 1, 1), (8199, 1000, 6), (12295, 1001, 6), (4099, 2, 2), (5, 2, 2)] := CoversG.ptsK 8 [24585] (by kernel_rfl) (by kernel_rfl) (n256)
theorem n258 : G [(24585, 1008, 8), (28681, 1009, 8), (20484, 1, 1), (16444, 1, 1), (8199, 1000, 6), (12295, 1001, 6), (4099, 2, 2), (5, 2, 2)] := CoversG.ptsK 16 [36870] (by kernel_rfl) (by kernel_rfl) (.drewF (.tree _ c106) L1)
theorem n257 : G [(20484, 1, 1), (16444, 1, 1), (8199, 1000, 6), (12295, 1001, 6), (4099, 2, 2), (5, 2, 2)] := CoversG.ptsK 8 [24585, 28681] (by kernel_rfl) (by kernel_rfl) (n258)
theorem n260 : G [(24585, 1008, 8), (28681, 1009, 8), (32777, 1010, 8), (20484, 2, 2), (16444, 1, 1), (8199, 1000, 6), (12295, 1001, 6), (4099, 2, 2), (5, 2, 2)] := CoversG.ptsK 16 [40966] (by kernel_rfl) (by kernel_rfl) (.drewF (.tree _ c107) L2)
theorem n259 : G [(20484, 2, 2), (16444, 1, 1), (8199, 1000, 6), (12295, 1001, 6), (4099, 2, 2), (5, 2, 2)] := CoversG.ptsK 8 [24585, 28681, 32777] (by kernel_rfl) (by kernel_rfl) (n260)
theorem n262 : G [(24585, 1008, 8), (28681, 1009, 8), (32777, 1010, 8), (36873, 1011, 8), (20484, 3, 3), (16444, 1, 1), (8199, 1000, 6), (12295, 1001, 6), (4099, 2, 2), (5, 2, 2)] := CoversG.ptsK 16 [45062] (by kernel_rfl) (by kernel_rfl) (.drewF (.tree _ c108) L3)
theorem n261 : G [(20484, 3, 3), (16444, 1, 1), (8199, 1000, 6), (12295, 1001, 6), (4099, 2, 2), (5, 2, 2)] := CoversG.ptsK 8 [24585, 28681, 32777, 36873] (by kernel_rfl) (by kernel_rfl) (n262)
theorem n254 : G [(16444, 1, 1), (8199, 1000, 6), (12295, 1001, 6), (4099, 2, 2), (5, 2, 2)] := CoversG.part 20484 (by kernel_rfl) fun v hv => by
  have h : v = 0 ∨ v = 1 ∨ v = 2 ∨ v = 3 := by omega
  rcases h with rfl | rfl | rfl | rfl
  · exact n255
  · exact n257
  · exact n259
  · exact n261
theorem n264 : G [(20482, 0, 0), (16444, 2, 59), (8199, 1000, 6), (12295, 1001, 6), (4099, 2, 2), (5, 2, 2)] := CoversG.ptsK 16 [24582] (by kernel_rfl) (by kernel_rfl) (.drewF (.tree _ c109) L5)
theorem n267 : G [(28681, 1008, 8), (24580, 0, 0), (20482, 1, 1), (16444, 2, 59), (8199, 1000, 6), (12295, 1001, 6), (4099, 2, 2), (5, 2, 2)] := CoversG.ptsK 16 [36870] (by kernel_rfl) (by kernel_rfl) (.drewF (.tree _ c110) L0)
theorem n266 : G [(24580, 0, 0), (20482, 1, 1), (16444, 2, 59), (8199, 1000, 6), (12295, 1001, 6), (4099, 2, 2), (5, 2, 2)] := CoversG.ptsK 8 [28681] (by kernel_rfl) (by kernel_rfl) (n267)
theorem n269 : G [(28681, 1008, 8), (32777, 1009, 8), (24580, 1, 1), (20482, 1, 1), (16444, 2, 59), (8199, 1000, 6), (12295, 1001, 6), (4099, 2, 2), (5, 2, 2)] := CoversG.ptsK 16 [40966] (by kernel_rfl) (by kernel_rfl) (.drewF (.tree _ c111) L1)
theorem n268 : G [(24580, 1, 1), (20482, 1, 1), (16444, 2, 59), (8199, 1000, 6), (12295, 1001, 6), (4099, 2, 2), (5, 2, 2)] := CoversG.ptsK 8 [28681, 32777] (by kernel_rfl) (by kernel_rfl) (n269)
theorem n271 : G [(28681, 1008, 8), (32777, 1009, 8), (36873, 1010, 8), (24580, 2, 2), (20482, 1, 1), (16444, 2, 59), (8199, 1000, 6), (12295, 1001, 6), (4099, 2, 2), (5, 2, 2)] := CoversG.ptsK 16 [45062] (by kernel_rfl) (by kernel_rfl) (.drewF (.tree _ c112) L2)
theorem n270 : G [(24580, 2, 2), (20482, 1, 1), (16444, 2, 59), (8199, 1000, 6), (12295, 1001, 6), (4099, 2, 2), (5, 2, 2)] := CoversG.ptsK 8 [28681, 32777, 36873] (by kernel_rfl) (by kernel_rfl) (n271)
theorem n273 : G [(28681, 1008, 8), (32777, 1009, 8), (36873, 1010, 8), (40969, 1011, 8), (24580, 3, 3), (20482, 1, 1), (16444, 2, 59), (8199, 1000, 6), (12295, 1001, 6), (4099, 2, 2), (5, 2, 2)] := CoversG.ptsK 16 [49158] (by kernel_rfl) (by kernel_rfl) (.drewF (.tree _ c113) L3)
theorem n272 : G [(24580, 3, 3), (20482, 1, 1), (16444, 2, 59), (8199, 1000, 6), (12295, 1001, 6), (4099, 2, 2), (5, 2, 2)] := CoversG.ptsK 8 [28681, 32777, 36873, 40969] (by kernel_rfl) (by kernel_rfl) (n273)
theorem n265 : G [(20482, 1, 1), (16444, 2, 59), (8199, 1000, 6), (12295, 1001, 6), (4099, 2, 2), (5, 2, 2)] := CoversG.part 24580 (by kernel_rfl) fun v hv => by
  have h : v = 0 ∨ v = 1 ∨ v = 2 ∨ v = 3 := by omega
  rcases h with rfl | rfl | rfl | rfl
  · exact n266
  · exact n268
  · exact n270
  · exact n272
theorem n263 : G [(16444, 2, 59), (8199, 1000, 6), (12295, 1001, 6), (4099, 2, 2), (5, 2, 2)] := CoversG.two 20482 (by kernel_rfl) (n264) (n265)
theorem n244 : G [(8199, 1000, 6), (12295, 1001, 6), (4099, 2, 2), (5, 2, 2)] := CoversG.three 16444 (by kernel_rfl) (n245) (n254) (n263)
theorem n243 : G [(4099, 2, 2), (5, 2, 2)] := CoversG.ptsK 0 [8199, 12295] (by kernel_rfl) (by kernel_rfl) (n244)
theorem n180 : G [(5, 2, 2)] := CoversG.part 4099 (by kernel_rfl) fun v hv => by
  have h : v = 0 ∨ v = 1 ∨ v = 2 := by omega
  rcases h with rfl | rfl | rfl
  · exact n181
  · exact n212
  · exact n243
theorem n279 : G [(28681, 1008, 8), (24580, 0, 0), (20540, 0, 0), (8195, 1000, 2), (12291, 1001, 2), (16387, 1002, 2), (4099, 0, 0), (5, 3, 3)] := CoversG.ptsK 16 [36870] (by kernel_rfl) (by kernel_rfl) (.drewF (.tree _ c114) L0)
theorem n278 : G [(24580, 0, 0), (20540, 0, 0), (8195, 1000, 2), (12291, 1001, 2), (16387, 1002, 2), (4099, 0, 0), (5, 3, 3)] := CoversG.ptsK 8 [28681] (by kernel_rfl) (by kernel_rfl) (n279)
theorem n281 : G [(28681, 1008, 8), (32777, 1009, 8), (24580, 1, 1), (20540, 0, 0), (8195, 1000, 2), (12291, 1001, 2), (16387, 1002, 2), (4099, 0, 0), (5, 3, 3)] := CoversG.ptsK 16 [40966] (by kernel_rfl) (by kernel_rfl) (.drewF (.tree _ c115) L1)
theorem n280 : G [(24580, 1, 1), (20540, 0, 0), (8195, 1000, 2), (12291, 1001, 2), (16387, 1002, 2), (4099, 0, 0), (5, 3, 3)] := CoversG.ptsK 8 [28681, 32777] (by kernel_rfl) (by kernel_rfl) (n281)
theorem n283 : G [(28681, 1008, 8), (32777, 1009, 8), (36873, 1010, 8), (24580, 2, 2), (20540, 0, 0), (8195, 1000, 2), (12291, 1001, 2), (16387, 1002, 2), (4099, 0, 0), (5, 3, 3)] := CoversG.ptsK 16 [45062] (by kernel_rfl) (by kernel_rfl) (.drewF (.tree _ c116) L2)
theorem n282 : G [(24580, 2, 2), (20540, 0, 0), (8195, 1000, 2), (12291, 1001, 2), (16387, 1002, 2), (4099, 0, 0), (5, 3, 3)] := CoversG.ptsK 8 [28681, 32777, 36873] (by kernel_rfl) (by kernel_rfl) (n283)
theorem n285 : G [(28681, 1008, 8), (32777, 1009, 8), (36873, 1010, 8), (40969, 1011, 8), (24580, 3, 3), (20540, 0, 0), (8195, 1000, 2), (12291, 1001, 2), (16387, 1002, 2), (4099, 0, 0), (5, 3, 3)] := CoversG.ptsK 16 [49158] (by kernel_rfl) (by kernel_rfl) (.drewF (.tree _ c117) L3)
theorem n284 : G [(24580, 3, 3), (20540, 0, 0), (8195, 1000, 2), (12291, 1001, 2), (16387, 1002, 2), (4099, 0, 0), (5, 3, 3)] := CoversG.ptsK 8 [28681, 32777, 36873, 40969] (by kernel_rfl) (by kernel_rfl) (n285)
theorem n277 : G [(20540, 0, 0), (8195, 1000, 2), (12291, 1001, 2), (16387, 1002, 2), (4099, 0, 0), (5, 3, 3)] := CoversG.part 24580 (by kernel_rfl) fun v hv => by
  have h : v = 0 ∨ v = 1 ∨ v = 2 ∨ v = 3 := by omega
  rcases h with rfl | rfl | rfl | rfl
  · exact n278
  · exact n280
  · exact n282
  · exact n284
theorem n288 : G [(28681, 1008, 8), (24580, 0, 0), (20540, 1, 1), (8195, 1000, 2), (12291, 1001, 2), (16387, 1002, 2), (4099, 0, 0), (5, 3, 3)] := CoversG.ptsK 16 [36870] (by kernel_rfl) (by kernel_rfl) (.drewF (.tree _ c118) L0)
theorem n287 : G [(24580, 0, 0), (20540, 1, 1), (8195, 1000, 2), (12291, 1001, 2), (16387, 1002, 2), (4099, 0, 0), (5, 3, 3)] := CoversG.ptsK 8 [28681] (by kernel_rfl) (by kernel_rfl) (n288)
theorem n290 : G [(28681, 1008, 8), (32777, 1009, 8), (24580, 1, 1), (20540, 1, 1), (8195, 1000, 2), (12291, 1001, 2), (16387, 1002, 2), (4099, 0, 0), (5, 3, 3)] := CoversG.ptsK 16 [40966] (by kernel_rfl) (by kernel_rfl) (.drewF (.tree _ c119) L1)
theorem n289 : G [(24580, 1, 1), (20540, 1, 1), (8195, 1000, 2), (12291, 1001, 2), (16387, 1002, 2), (4099, 0, 0), (5, 3, 3)] := CoversG.ptsK 8 [28681, 32777] (by kernel_rfl) (by kernel_rfl) (n290)
theorem n292 : G [(28681, 1008, 8), (32777, 1009, 8), (36873, 1010, 8), (24580, 2, 2), (20540, 1, 1), (8195, 1000, 2), (12291, 1001, 2), (16387, 1002, 2), (4099, 0, 0), (5, 3, 3)] := CoversG.ptsK 16 [45062] (by kernel_rfl) (by kernel_rfl) (.drewF (.tree _ c120) L2)
theorem n291 : G [(24580, 2, 2), (20540, 1, 1), (8195, 1000, 2), (12291, 1001, 2), (16387, 1002, 2), (4099, 0, 0), (5, 3, 3)] := CoversG.ptsK 8 [28681, 32777, 36873] (by kernel_rfl) (by kernel_rfl) (n292)
theorem n294 : G [(28681, 1008, 8), (32777, 1009, 8), (36873, 1010, 8), (40969, 1011, 8), (24580, 3, 3), (20540, 1, 1), (8195, 1000, 2), (12291, 1001, 2), (16387, 1002, 2), (4099, 0, 0), (5, 3, 3)] := CoversG.ptsK 16 [49158] (by kernel_rfl) (by kernel_rfl) (.drewF (.tree _ c121) L3)
theorem n293 : G [(24580, 3, 3), (20540, 1, 1), (8195, 1000, 2), (12291, 1001, 2), (16387, 1002, 2), (4099, 0, 0), (5, 3, 3)] := CoversG.ptsK 8 [28681, 32777, 36873, 40969] (by kernel_rfl) (by kernel_rfl) (n294)
theorem n286 : G [(20540, 1, 1), (8195, 1000, 2), (12291, 1001, 2), (16387, 1002, 2), (4099, 0, 0), (5, 3, 3)] := CoversG.part 24580 (by kernel_rfl) fun v hv => by
  have h : v = 0 ∨ v = 1 ∨ v = 2 ∨ v = 3 := by omega
  rcases h with rfl | rfl | rfl | rfl
  · exact n287
  · exact n289
  · exact n291
  · exact n293
theorem n296 : G [(24578, 0, 0), (20540, 2, 59), (8195, 1000, 2), (12291, 1001, 2), (16387, 1002, 2), (4099, 0, 0), (5, 3, 3)] := CoversG.ptsK 16 [28678] (by kernel_rfl) (by kernel_rfl) (.drewF (.tree _ c122) L6)
theorem n299 : G [(32777, 1008, 8), (28676, 0, 0), (24578, 1, 1), (20540, 2, 59), (8195, 1000, 2), (12291, 1001, 2), (16387, 1002, 2), (4099, 0, 0), (5, 3, 3)] := CoversG.ptsK 16 [40966] (by kernel_rfl) (by kernel_rfl) (.drewF (.tree _ c123) L0)
theorem n298 : G [(28676, 0, 0), (24578, 1, 1), (20540, 2, 59), (8195, 1000, 2), (12291, 1001, 2), (16387, 1002, 2), (4099, 0, 0), (5, 3, 3)] := CoversG.ptsK 8 [32777] (by kernel_rfl) (by kernel_rfl) (n299)
theorem n301 : G [(32777, 1008, 8), (36873, 1009, 8), (28676, 1, 1), (24578, 1, 1), (20540, 2, 59), (8195, 1000, 2), (12291, 1001, 2), (16387, 1002, 2), (4099, 0, 0), (5, 3, 3)] := CoversG.ptsK 16 [45062] (by kernel_rfl) (by kernel_rfl) (.drewF (.tree _ c124) L1)
theorem n300 : G [(28676, 1, 1), (24578, 1, 1), (20540, 2, 59), (8195, 1000, 2), (12291, 1001, 2), (16387, 1002, 2), (4099, 0, 0), (5, 3, 3)] := CoversG.ptsK 8 [32777, 36873] (by kernel_rfl) (by kernel_rfl) (n301)
theorem n303 : G [(32777, 1008, 8), (36873, 1009, 8), (40969, 1010, 8), (28676, 2, 2), (24578, 1, 1), (20540, 2, 59), (8195, 1000, 2), (12291, 1001, 2), (16387, 1002, 2), (4099, 0, 0), (5, 3, 3)] := CoversG.ptsK 16 [49158] (by kernel_rfl) (by kernel_rfl) (.drewF (.tree _ c125) L2)
theorem n302 : G [(28676, 2, 2), (24578, 1, 1), (20540, 2, 59), (8195, 1000, 2), (12291, 1001, 2), (16387, 1002, 2), (4099, 0, 0), (5, 3, 3)] := CoversG.ptsK 8 [32777, 36873, 40969] (by kernel_rfl) (by kernel_rfl) (n303)
theorem n305 : G [(32777, 1008, 8), (36873, 1009, 8), (40969, 1010, 8), (45065, 1011, 8), (28676, 3, 3), (24578, 1, 1), (20540, 2, 59), (8195, 1000, 2), (12291, 1001, 2), (16387, 1002, 2), (4099, 0, 0), (5, 3, 3)] := CoversG.ptsK 16 [53254] (by kernel_rfl) (by kernel_rfl) (.drewF (.tree _ c126) L3)
theorem n304 : G [(28676, 3, 3), (24578, 1, 1), (20540, 2, 59), (8195, 1000, 2), (12291, 1001, 2), (16387, 1002, 2), (4099, 0, 0), (5, 3, 3)] := CoversG.ptsK 8 [32777, 36873, 40969, 45065] (by kernel_rfl) (by kernel_rfl) (n305)
theorem n297 : G [(24578, 1, 1), (20540, 2, 59), (8195, 1000, 2), (12291, 1001, 2), (16387, 1002, 2), (4099, 0, 0), (5, 3, 3)] := CoversG.part 28676 (by kernel_rfl) fun v hv => by
  have h : v = 0 ∨ v = 1 ∨ v = 2 ∨ v = 3 := by omega
  rcases h with rfl | rfl | rfl | rfl
  · exact n298
  · exact n300
  · exact n302
  · exact n304
theorem n295 : G [(20540, 2, 59), (8195, 1000, 2), (12291, 1001, 2), (16387, 1002, 2), (4099, 0, 0), (5, 3, 3)] := CoversG.two 24578 (by kernel_rfl) (n296) (n297)
theorem n276 : G [(8195, 1000, 2), (12291, 1001, 2), (16387, 1002, 2), (4099, 0, 0), (5, 3, 3)] := CoversG.three 20540 (by kernel_rfl) (n277) (n286) (n295)
theorem n275 : G [(4099, 0, 0), (5, 3, 3)] := CoversG.ptsK 0 [8195, 12291, 16387] (by kernel_rfl) (by kernel_rfl) (n276)
theorem n310 : G [(28681, 1008, 8), (24580, 0, 0), (20540, 0, 0), (8197, 1000, 4), (12293, 1001, 4), (16389, 1002, 4), (4099, 1, 1), (5, 3, 3)] := CoversG.ptsK 16 [36870] (by kernel_rfl) (by kernel_rfl) (.drewF (.tree _ c127) L0)
theorem n309 : G [(24580, 0, 0), (20540, 0, 0), (8197, 1000, 4), (12293, 1001, 4), (16389, 1002, 4), (4099, 1, 1), (5, 3, 3)] := CoversG.ptsK 8 [28681] (by kernel_rfl) (by kernel_rfl) (n310)
theorem n312 : G [(28681, 1008, 8), (32777, 1009, 8), (24580, 1, 1), (20540, 0, 0), (8197, 1000, 4), (12293, 1001, 4), (16389, 1002, 4), (4099, 1, 1), (5, 3, 3)] := CoversG.ptsK 16 [40966] (by kernel_rfl) (by kernel_rfl) (.drewF (.tree _ c128) L1)
theorem n311 : G [(24580, 1, 1), (20540, 0, 0), (8197, 1000, 4), (12293, 1001, 4), (16389, 1002, 4), (4099, 1, 1), (5, 3, 3)] := CoversG.ptsK 8 [28681, 32777] (by kernel_rfl) (by kernel_rfl) (n312)
theorem n314 : G [(28681, 1008, 8), (32777, 1009, 8), (36873, 1010, 8), (24580, 2, 2), (20540, 0, 0), (8197, 1000, 4), (12293, 1001, 4), (16389, 1002, 4), (4099, 1, 1), (5, 3, 3)] := CoversG.ptsK 16 [45062] (by kernel_rfl) (by kernel_rfl) (.drewF (.tree _ c129) L2)
theorem n313 : G [(24580, 2, 2), (20540, 0, 0), (8197, 1000, 4), (12293, 1001, 4), (16389, 1002, 4), (4099, 1, 1), (5, 3, 3)] := CoversG.ptsK 8 [28681, 32777, 36873] (by kernel_rfl) (by kernel_rfl) (n314)
theorem n316 : G [(28681, 1008, 8), (32777, 1009, 8), (36873, 1010, 8), (40969, 1011, 8), (24580, 3, 3), (20540, 0, 0), (8197, 1000, 4), (12293, 1001, 4), (16389, 1002, 4), (4099, 1, 1), (5, 3, 3)] := CoversG.ptsK 16 [49158] (by kernel_rfl) (by kernel_rfl) (.drewF (.tree _ c130) L3)
theorem n315 : G [(24580, 3, 3), (20540, 0, 0), (8197, 1000, 4), (12293, 1001, 4), (16389, 1002, 4), (4099, 1, 1), (5, 3, 3)] := CoversG.ptsK 8 [28681, 32777, 36873, 40969] (by kernel_rfl) (by kernel_rfl) (n316)
theorem n308 : G [(20540, 0, 0), (8197, 1000, 4), (12293, 1001, 4), (16389, 1002, 4), (4099, 1, 1), (5, 3, 3)] := CoversG.part 24580 (by kernel_rfl) fun v hv => by
  have h : v = 0 ∨ v = 1 ∨ v = 2 ∨ v = 3 := by omega
  rcases h with rfl | rfl | rfl | rfl
  · exact n309
  · exact n311
  · exact n313
  · exact n315
theorem n319 : G [(28681, 1008, 8), (24580, 0, 0), (20540, 1, 1), (8197, 1000, 4), (12293, 1001, 4), (16389, 1002, 4), (4099, 1, 1), (5, 3, 3)] := CoversG.ptsK 16 [36870] (by kernel_rfl) (by kernel_rfl) (.drewF (.tree _ c131) L0)
theorem n318 : G [(24580, 0, 0), (20540, 1, 1), (8197, 1000, 4), (12293, 1001, 4), (16389, 1002, 4), (4099, 1, 1), (5, 3, 3)] := CoversG.ptsK 8 [28681] (by kernel_rfl) (by kernel_rfl) (n319)
theorem n321 : G [(28681, 1008, 8), (32777, 1009, 8), (24580, 1, 1), (20540, 1, 1), (8197, 1000, 4), (12293, 1001, 4), (16389, 1002, 4), (4099, 1, 1), (5, 3, 3)] := CoversG.ptsK 16 [40966] (by kernel_rfl) (by kernel_rfl) (.drewF (.tree _ c132) L1)
theorem n320 : G [(24580, 1, 1), (20540, 1, 1), (8197, 1000, 4), (12293, 1001, 4), (16389, 1002, 4), (4099, 1, 1), (5, 3, 3)] := CoversG.ptsK 8 [28681, 32777] (by kernel_rfl) (by kernel_rfl) (n321)
theorem n323 : G [(28681, 1008, 8), (32777, 1009, 8), (36873, 1010, 8), (24580, 2, 2), (20540, 1, 1), (8197, 1000, 4), (12293, 1001, 4), (16389, 1002, 4), (4099, 1, 1), (5, 3, 3)] := CoversG.ptsK 16 [45062] (by kernel_rfl) (by kernel_rfl) (.drewF (.tree _ c133) L2)
theorem n322 : G [(24580, 2, 2), (20540, 1, 1), (8197, 1000, 4), (12293, 1001, 4), (16389, 1002, 4), (4099, 1, 1), (5, 3, 3)] := CoversG.ptsK 8 [28681, 32777, 36873] (by kernel_rfl) (by kernel_rfl) (n323)
theorem n325 : G [(28681, 1008, 8), (32777, 1009, 8), (36873, 1010, 8), (40969, 1011, 8), (24580, 3, 3), (20540, 1, 1), (8197, 1000, 4), (12293, 1001, 4), (16389, 1002, 4), (4099, 1, 1), (5, 3, 3)] := CoversG.ptsK 16 [49158] (by kernel_rfl) (by kernel_rfl) (.drewF (.tree _ c134) L3)
theorem n324 : G [(24580, 3, 3), (20540, 1, 1), (8197, 1000, 4), (12293, 1001, 4), (16389, 1002, 4), (4099, 1, 1), (5, 3, 3)] := CoversG.ptsK 8 [28681, 32777, 36873, 40969] (by kernel_rfl) (by kernel_rfl) (n325)
theorem n317 : G [(20540, 1, 1), (8197, 1000, 4), (12293, 1001, 4), (16389, 1002, 4), (4099, 1, 1), (5, 3, 3)] := CoversG.part 24580 (by kernel_rfl) fun v hv => by
  have h : v = 0 ∨ v = 1 ∨ v = 2 ∨ v = 3 := by omega
  rcases h with rfl | rfl | rfl | rfl
  · exact n318
  · exact n320
  · exact n322
  · exact n324
theorem n327 : G [(24578, 0, 0), (20540, 2, 59), (8197, 1000, 4), (12293, 1001, 4), (16389, 1002, 4), (4099, 1, 1), (5, 3, 3)] := CoversG.ptsK 16 [28678] (by kernel_rfl) (by kernel_rfl) (.drewF (.tree _ c135) L6)
theorem n330 : G [(32777, 1008, 8), (28676, 0, 0), (24578, 1, 1), (20540, 2, 59), (8197, 1000, 4), (12293, 1001, 4), (16389, 1002, 4), (4099, 1, 1), (5, 3, 3)] := CoversG.ptsK 16 [40966] (by kernel_rfl) (by kernel_rfl) (.drewF (.tree _ c136) L0)
theorem n329 : G [(28676, 0, 0), (24578, 1, 1), (20540, 2, 59), (8197, 1000, 4), (12293, 1001, 4), (16389, 1002, 4), (4099, 1, 1), (5, 3, 3)] := CoversG.ptsK 8 [32777] (by kernel_rfl) (by kernel_rfl) (n330)
theorem n332 : G [(32777, 1008, 8), (36873, 1009, 8), (28676, 1, 1), (24578, 1, 1), (20540, 2, 59), (8197, 1000, 4), (12293, 1001, 4), (16389, 1002, 4), (4099, 1, 1), (5, 3, 3)] := CoversG.ptsK 16 [45062] (by kernel_rfl) (by kernel_rfl) (.drewF (.tree _ c137) L1)
theorem n331 : G [(28676, 1, 1), (24578, 1, 1), (20540, 2, 59), (8197, 1000, 4), (12293, 1001, 4), (16389, 1002, 4), (4099, 1, 1), (5, 3, 3)] := CoversG.ptsK 8 [32777, 36873] (by kernel_rfl) (by kernel_rfl) (n332)
theorem n334 : G [(32777, 1008, 8), (36873, 1009, 8), (40969, 1010, 8), (28676, 2, 2), (24578, 1, 1), (20540, 2, 59), (8197, 1000, 4), (12293, 1001, 4), (16389, 1002, 4), (4099, 1, 1), (5, 3, 3)] := CoversG.ptsK 16 [49158] (by kernel_rfl) (by kernel_rfl) (.drewF (.tree _ c138) L2)
theorem n333 : G [(28676, 2, 2), (24578, 1, 1), (20540, 2, 59), (8197, 1000, 4), (12293, 1001, 4), (16389, 1002, 4), (4099, 1, 1), (5, 3, 3)] := CoversG.ptsK 8 [32777, 36873, 40969] (by kernel_rfl) (by kernel_rfl) (n334)
theorem n336 : G [(32777, 1008, 8), (36873, 1009, 8), (40969, 1010, 8), (45065, 1011, 8), (28676, 3, 3), (24578, 1, 1), (20540, 2, 59), (8197, 1000, 4), (12293, 1001, 4), (16389, 1002, 4), (4099, 1, 1), (5, 3, 3)] := CoversG.ptsK 16 [53254] (by kernel_rfl) (by kernel_rfl) (.drewF (.tree _ c139) L3)
theorem n335 : G [(28676, 3, 3), (24578, 1, 1), (20540, 2, 59), (8197, 1000, 4), (12293, 1001, 4), (16389, 1002, 4), (4099, 1, 1), (5, 3, 3)] := CoversG.ptsK 8 [32777, 36873, 40969, 45065] (by kernel_rfl) (by kernel_rfl) (n336)
theorem n328 : G [(24578, 1, 1), (20540, 2, 59), (8197, 1000, 4), (12293, 1001, 4), (16389, 1002, 4), (4099, 1, 1), (5, 3, 3)] := CoversG.part 28676 (by kernel_rfl) fun v hv => by
  have h : v = 0 ∨ v = 1 ∨ v = 2 ∨ v = 3 := by omega
  rcases h with rfl | rfl | rfl | rfl
  · exact n329
  · exact n331
  · exact n333
  · exact n335
theorem n326 : G [(20540, 2, 59), (8197, 1000, 4), (12293, 1001, 4), (16389, 1002, 4), (4099, 1, 1), (5, 3, 3)] := CoversG.two 24578 (by kernel_rfl) (n327) (n328)
theorem n307 : G [(8197, 1000, 4), (12293, 1001, 4), (16389, 1002, 4), (4099, 1, 1), (5, 3, 3)] := CoversG.three 20540 (by kernel_rfl) (n308) (n317) (n326)
theorem n306 : G [(4099, 1, 1), (5, 3, 3)] := CoversG.ptsK 0 [8197, 12293, 16389] (by kernel_rfl) (by kernel_rfl) (n307)
theorem n341 : G [(28681, 1008, 8), (24580, 0, 0), (20540, 0, 0), (8199, 1000, 6), (12295, 1001, 6), (16391, 1002, 6), (4099, 2, 2), (5, 3, 3)] := CoversG.ptsK 16 [36870] (by kernel_rfl) (by kernel_rfl) (.drewF (.tree _ c140) L0)
theorem n340 : G [(24580, 0, 0), (20540, 0, 0), (8199, 1000, 6), (12295, 1001, 6), (16391, 1002, 6), (4099, 2, 2), (5, 3, 3)] := CoversG.ptsK 8 [28681] (by kernel_rfl) (by kernel_rfl) (n341)
theorem n343 : G [(28681, 1008, 8), (32777, 1009, 8), (24580, 1, 1), (20540, 0, 0), (8199, 1000, 6), (12295, 1001, 6), (16391, 1002, 6), (4099, 2, 2), (5, 3, 3)] := CoversG.ptsK 16 [40966] (by kernel_rfl) (by kernel_rfl) (.drewF (.tree _ c141) L1)
theorem n342 : G [(24580, 1, 1), (20540, 0, 0), (8199, 1000, 6), (12295, 1001, 6), (16391, 1002, 6), (4099, 2, 2), (5, 3, 3)] := CoversG.ptsK 8 [28681, 32777] (by kernel_rfl) (by kernel_rfl) (n343)
theorem n345 : G [(28681, 1008, 8), (32777, 1009, 8), (36873, 1010, 8), (24580, 2, 2), (20540, 0, 0), (8199, 1000, 6), (12295, 1001, 6), (16391, 1002, 6), (4099, 2, 2), (5, 3, 3)] := CoversG.ptsK 16 [45062] (by kernel_rfl) (by kernel_rfl) (.drewF (.tree _ c142) L2)
theorem n344 : G [(24580, 2, 2), (20540, 0, 0), (8199, 1000, 6), (12295, 1001, 6), (16391, 1002, 6), (4099, 2, 2), (5, 3, 3)] := CoversG.ptsK 8 [28681, 32777, 36873] (by kernel_rfl) (by kernel_rfl) (n345)
theorem n347 : G [(28681, 1008, 8), (32777, 1009, 8), (36873, 1010, 8), (40969, 1011, 8), (24580, 3, 3), (20540, 0, 0), (8199, 1000, 6), (12295, 1001, 6), (16391, 1002, 6), (4099, 2, 2), (5, 3, 3)] := CoversG.ptsK 16 [49158] (by kernel_rfl) (by kernel_rfl) (.drewF (.tree _ c143) L3)
theorem n346 : G [(24580, 3, 3), (20540, 0, 0), (8199, 1000, 6), (12295, 1001, 6), (16391, 1002, 6), (4099, 2, 2), (5, 3, 3)] := CoversG.ptsK 8 [28681, 32777, 36873, 40969] (by kernel_rfl) (by kernel_rfl) (n347)
theorem n339 : G [(20540, 0, 0), (8199, 1000, 6), (12295, 1001, 6), (16391, 1002, 6), (4099, 2, 2), (5, 3, 3)] := CoversG.part 24580 (by kernel_rfl) fun v hv => by
  have h : v = 0 ∨ v = 1 ∨ v = 2 ∨ v = 3 := by omega
  rcases h with rfl | rfl | rfl | rfl
  · exact n340
  · exact n342
  · exact n344
  · exact n346
theorem n350 : G [(28681, 1008, 8), (24580, 0, 0), (20540, 1, 1), (8199, 1000, 6), (12295, 1001, 6), (16391, 1002, 6), (4099, 2, 2), (5, 3, 3)] := CoversG.ptsK 16 [36870] (by kernel_rfl) (by kernel_rfl) (.drewF (.tree _ c144) L0)
theorem n349 : G [(24580, 0, 0), (20540, 1, 1), (8199, 1000, 6), (12295, 1001, 6), (16391, 1002, 6), (4099, 2, 2), (5, 3, 3)] := CoversG.ptsK 8 [28681] (by kernel_rfl) (by kernel_rfl) (n350)
theorem n352 : G [(28681, 1008, 8), (32777, 1009, 8), (24580, 1, 1), (20540, 1, 1), (8199, 1000, 6), (12295, 1001, 6), (16391, 1002, 6), (4099, 2, 2), (5, 3, 3)] := CoversG.ptsK 16 [40966] (by kernel_rfl) (by kernel_rfl) (.drewF (.tree _ c145) L1)
theorem n351 : G [(24580, 1, 1), (20540, 1, 1), (8199, 1000, 6), (12295, 1001, 6), (16391, 1002, 6), (4099, 2, 2), (5, 3, 3)] := CoversG.ptsK 8 [28681, 32777] (by kernel_rfl) (by kernel_rfl) (n352)
theorem n354 : G [(28681, 1008, 8), (32777, 1009, 8), (36873, 1010, 8), (24580, 2, 2), (20540, 1, 1), (8199, 1000, 6), (12295, 1001, 6), (16391, 1002, 6), (4099, 2, 2), (5, 3, 3)] := CoversG.ptsK 16 [45062] (by kernel_rfl) (by kernel_rfl) (.drewF (.tree _ c146) L2)
theorem n353 : G [(24580, 2, 2), (20540, 1, 1), (8199, 1000, 6), (12295, 1001, 6), (16391, 1002, 6), (4099, 2, 2), (5, 3, 3)] := CoversG.ptsK 8 [28681, 32777, 36873] (by kernel_rfl) (by kernel_rfl) (n354)
theorem n356 : G [(28681, 1008, 8), (32777, 1009, 8), (36873, 1010, 8), (40969, 1011, 8), (24580, 3, 3), (20540, 1, 1), (8199, 1000, 6), (12295, 1001, 6), (16391, 1002, 6), (4099, 2, 2), (5, 3, 3)] := CoversG.ptsK 16 [49158] (by kernel_rfl) (by kernel_rfl) (.drewF (.tree _ c147) L3)
theorem n355 : G [(24580, 3, 3), (20540, 1, 1), (8199, 1000, 6), (12295, 1001, 6), (16391, 1002, 6), (4099, 2, 2), (5, 3, 3)] := CoversG.ptsK 8 [28681, 32777, 36873, 40969] (by kernel_rfl) (by kernel_rfl) (n356)
theorem n348 : G [(20540, 1, 1), (8199, 1000, 6), (12295, 1001, 6), (16391, 1002, 6), (4099, 2, 2), (5, 3, 3)] := CoversG.part 24580 (by kernel_rfl) fun v hv => by
  have h : v = 0 ∨ v = 1 ∨ v = 2 ∨ v = 3 := by omega
  rcases h with rfl | rfl | rfl | rfl
  · exact n349
  · exact n351
  · exact n353
  · exact n355
theorem n358 : G [(24578, 0, 0), (20540, 2, 59), (8199, 1000, 6), (12295, 1001, 6), (16391, 1002, 6), (4099, 2, 2), (5, 3, 3)] := CoversG.ptsK 16 [28678] (by kernel_rfl) (by kernel_rfl) (.drewF (.tree _ c148) L6)
theorem n361 : G [(32777, 1008, 8), (28676, 0, 0), (24578, 1, 1), (20540, 2, 59), (8199, 1000, 6), (12295, 1001, 6), (16391, 1002, 6), (4099, 2, 2), (5, 3, 3)] := CoversG.ptsK 16 [40966] (by kernel_rfl) (by kernel_rfl) (.drewF (.tree _ c149) L0)
theorem n360 : G [(28676, 0, 0), (24578, 1, 1), (20540, 2, 59), (8199, 1000, 6), (12295, 1001, 6), (16391, 1002, 6), (4099, 2, 2), (5, 3, 3)] := CoversG.ptsK 8 [32777] (by kernel_rfl) (by kernel_rfl) (n361)
theorem n363 : G [(32777, 1008, 8), (36873, 1009, 8), (28676, 1, 1), (24578, 1, 1), (20540, 2, 59), (8199, 1000, 6), (12295, 1001, 6), (16391, 1002, 6), (4099, 2, 2), (5, 3, 3)] := CoversG.ptsK 16 [45062] (by kernel_rfl) (by kernel_rfl) (.drewF (.tree _ c150) L1)
theorem n362 : G [(28676, 1, 1), (24578, 1, 1), (20540, 2, 59), (8199, 1000, 6), (12295, 1001, 6), (16391, 1002, 6), (4099, 2, 2), (5, 3, 3)] := CoversG.ptsK 8 [32777, 36873] (by kernel_rfl) (by kernel_rfl) (n363)
theorem n365 : G [(32777, 1008, 8), (36873, 1009, 8), (40969, 1010, 8), (28676, 2, 2), (24578, 1, 1), (20540, 2, 59), (8199, 1000, 6), (12295, 1001, 6), (16391, 1002, 6), (4099, 2, 2), (5, 3, 3)] := CoversG.ptsK 16 [49158] (by kernel_rfl) (by kernel_rfl) (.drewF (.tree _ c151) L2)
theorem n364 : G [(28676, 2, 2), (24578, 1, 1), (20540, 2, 59), (8199, 1000, 6), (12295, 1001, 6), (16391, 1002, 6), (4099, 2, 2), (5, 3, 3)] := CoversG.ptsK 8 [32777, 36873, 40969] (by kernel_rfl) (by kernel_rfl) (n365)
theorem n367 : G [(32777, 1008, 8), (36873, 1009, 8), (40969, 1010, 8), (45065, 1011, 8), (28676, 3, 3), (24578, 1, 1), (20540, 2, 59), (8199, 1000, 6), (12295, 1001, 6), (16391, 1002, 6), (4099, 2, 2), (5, 3, 3)] := CoversG.ptsK 16 [53254] (by kernel_rfl) (by kernel_rfl) (.drewF (.tree _ c152) L3)
theorem n366 : G [(28676, 3, 3), (24578, 1, 1), (20540, 2, 59), (8199, 1000, 6), (12295, 1001, 6), (16391, 1002, 6), (4099, 2, 2), (5, 3, 3)] := CoversG.ptsK 8 [32777, 36873, 40969, 45065] (by kernel_rfl) (by kernel_rfl) (n367)
theorem n359 : G [(24578, 1, 1), (20540, 2, 59), (8199, 1000, 6), (12295, 1001, 6), (16391, 1002, 6), (4099, 2, 2), (5, 3, 3)] := CoversG.part 28676 (by kernel_rfl) fun v hv => by
  have h : v = 0 ∨ v = 1 ∨ v = 2 ∨ v = 3 := by omega
  rcases h with rfl | rfl | rfl | rfl
  · exact n360
  · exact n362
  · exact n364
  · exact n366
theorem n357 : G [(20540, 2, 59), (8199, 1000, 6), (12295, 1001, 6), (16391, 1002, 6), (4099, 2, 2), (5, 3, 3)] := CoversG.two 24578 (by kernel_rfl) (n358) (n359)
theorem n338 : G [(8199, 1000, 6), (12295, 1001, 6), (16391, 1002, 6), (4099, 2, 2), (5, 3, 3)] := CoversG.three 20540 (by kernel_rfl) (n339) (n348) (n357)
theorem n337 : G [(4099, 2, 2), (5, 3, 3)] := CoversG.ptsK 0 [8199, 12295, 16391] (by kernel_rfl) (by kernel_rfl) (n338)
theorem n274 : G [(5, 3, 3)] := CoversG.part 4099 (by kernel_rfl) fun v hv => by
  have h : v = 0 ∨ v = 1 ∨ v = 2 := by omega
  rcases h with rfl | rfl | rfl
  · exact n275
  · exact n306
  · exact n337
theorem n373 : G [(32777, 1008, 8), (28676, 0, 0), (24636, 0, 0), (8195, 1000, 2), (12291, 1001, 2), (16387, 1002, 2), (20483, 1003, 2), (4099, 0, 0), (5, 4, 4)] := CoversG.ptsK 16 [40966] (by kernel_rfl) (by kernel_rfl) (.drewF (.tree _ c153) L0)
theorem n372 : G [(28676, 0, 0), (24636, 0, 0), (8195, 1000, 2), (12291, 1001, 2), (16387, 1002, 2), (20483, 1003, 2), (4099, 0, 0), (5, 4, 4)] := CoversG.ptsK 8 [32777] (by kernel_rfl) (by kernel_rfl) (n373)
theorem n375 : G [(32777, 1008, 8), (36873, 1009, 8), (28676, 1, 1), (24636, 0, 0), (8195, 1000, 2), (12291, 1001, 2), (16387, 1002, 2), (20483, 1003, 2), (4099, 0, 0), (5, 4, 4)] := CoversG.ptsK 16 [45062] (by kernel_rfl) (by kernel_rfl) (.drewF (.tree _ c154) L1)
theorem n374 : G [(28676, 1, 1), (24636, 0, 0), (8195, 1000, 2), (12291, 1001, 2), (16387, 1002, 2), (20483, 1003, 2), (4099, 0, 0), (5, 4, 4)] := CoversG.ptsK 8 [32777, 36873] (by kernel_rfl) (by kernel_rfl) (n375)
theorem n377 : G [(32777, 1008, 8), (36873, 1009, 8), (40969, 1010, 8), (28676, 2, 2), (24636, 0, 0), (8195, 1000, 2), (12291, 1001, 2), (16387, 1002, 2), (20483, 1003, 2), (4099, 0, 0), (5, 4, 4)] := CoversG.ptsK 16 [49158] (by kernel_rfl) (by kernel_rfl) (.drewF (.tree _ c155) L2)
theorem n376 : G [(28676, 2, 2), (24636, 0, 0), (8195, 1000, 2), (12291, 1001, 2), (16387, 1002, 2), (20483, 1003, 2), (4099, 0, 0), (5, 4, 4)] := CoversG.ptsK 8 [32777, 36873, 40969] (by kernel_rfl) (by kernel_rfl) (n377)
theorem n379 : G [(32777, 1008, 8), (36873, 1009, 8), (40969, 1010, 8), (45065, 1011, 8), (28676, 3, 3), (24636, 0, 0), (8195, 1000, 2), (12291, 1001, 2), (16387, 1002, 2), (20483, 1003, 2), (4099, 0, 0), (5, 4, 4)] := CoversG.ptsK 16 [53254] (by kernel_rfl) (by kernel_rfl) (.drewF (.tree _ c156) L3)
theorem n378 : G [(28676, 3, 3), (24636, 0, 0), (8195, 1000, 2), (12291, 1001, 2), (16387, 1002, 2), (20483, 1003, 2), (4099, 0, 0), (5, 4, 4)] := CoversG.ptsK 8 [32777, 36873, 40969, 45065] (by kernel_rfl) (by kernel_rfl) (n379)
theorem n371 : G [(24636, 0, 0), (8195, 1000, 2), (12291, 1001, 2), (16387, 1002, 2), (20483, 1003, 2), (4099, 0, 0), (5, 4, 4)] := CoversG.part 28676 (by kernel_rfl) fun v hv => by
  have h : v = 0 ∨ v = 1 ∨ v = 2 ∨ v = 3 := by omega
  rcases h with rfl | rfl | rfl | rfl
  · exact n372
  · exact n374
  · exact n376
  · exact n378
theorem n382 : G [(32777, 1008, 8), (28676, 0, 0), (24636, 1, 1), (8195, 1000, 2), (12291, 1001, 2), (16387, 1002, 2), (20483, 1003, 2), (4099, 0, 0), (5, 4, 4)] := CoversG.ptsK 16 [40966] (by kernel_rfl) (by kernel_rfl) (.drewF (.tree _ c157) L0)
theorem n381 : G [(28676, 0, 0), (24636, 1, 1), (8195, 1000, 2), (12291, 1001, 2), (16387, 1002, 2), (20483, 1003, 2), (4099, 0, 0), (5, 4, 4)] := CoversG.ptsK 8 [32777] (by kernel_rfl) (by kernel_rfl) (n382)
theorem n384 : G [(32777, 1008, 8), (36873, 1009, 8), (28676, 1, 1), (24636, 1, 1), (8195, 1000, 2), (12291, 1001, 2), (16387, 1002, 2), (20483, 1003, 2), (4099, 0, 0), (5, 4, 4)] := CoversG.ptsK 16 [45062] (by kernel_rfl) (by kernel_rfl) (.drewF (.tree _ c158) L1)
theorem n383 : G [(28676, 1, 1), (24636, 1, 1), (8195, 1000, 2), (12291, 1001, 2), (16387, 1002, 2), (20483, 1003, 2), (4099, 0, 0), (5, 4, 4)] := CoversG.ptsK 8 [32777, 36873] (by kernel_rfl) (by kernel_rfl) (n384)
theorem n386 : G [(32777, 1008, 8), (36873, 1009, 8), (40969, 1010, 8), (28676, 2, 2), (24636, 1, 1), (8195, 1000, 2), (12291, 1001, 2), (16387, 1002, 2), (20483, 1003, 2), (4099, 0, 0), (5, 4, 4)] := CoversG.ptsK 16 [49158] (by kernel_rfl) (by kernel_rfl) (.drewF (.tree _ c159) L2)
theorem n385 : G [(28676, 2, 2), (24636, 1, 1), (8195, 1000, 2), (12291, 1001, 2), (16387, 1002, 2), (20483, 1003, 2), (4099, 0, 0), (5, 4, 4)] := CoversG.ptsK 8 [32777, 36873, 40969] (by kernel_rfl) (by kernel_rfl) (n386)
theorem n388 : G [(32777, 1008, 8), (36873, 1009, 8), (40969, 1010, 8), (45065, 1011, 8), (28676, 3, 3), (24636, 1, 1), (8195, 1000, 2), (12291, 1001, 2), (16387, 1002, 2), (20483, 1003, 2), (4099, 0, 0), (5, 4, 4)] := CoversG.ptsK 16 [53254] (by kernel_rfl) (by kernel_rfl) (.drewF (.tree _ c160) L3)
theorem n387 : G [(28676, 3, 3), (24636, 1, 1), (8195, 1000, 2), (12291, 1001, 2), (16387, 1002, 2), (20483, 1003, 2), (4099, 0, 0), (5, 4, 4)] := CoversG.ptsK 8 [32777, 36873, 40969, 45065] (by kernel_rfl) (by kernel_rfl) (n388)
theorem n380 : G [(24636, 1, 1), (8195, 1000, 2), (12291, 1001, 2), (16387, 1002, 2), (20483, 1003, 2), (4099, 0, 0), (5, 4, 4)] := CoversG.part 28676 (by kernel_rfl) fun v hv => by
  have h : v = 0 ∨ v = 1 ∨ v = 2 ∨ v = 3 := by omega
  rcases h with rfl | rfl | rfl | rfl
  · exact n381
  · exact n383
  · exact n385
  · exact n387
theorem n390 : G [(28674, 0, 0), (24636, 2, 59), (8195, 1000, 2), (12291, 1001, 2), (16387, 1002, 2), (20483, 1003, 2), (4099, 0, 0), (5, 4, 4)] := CoversG.ptsK 16 [32774] (by kernel_rfl) (by kernel_rfl) (.drewF (.tree _ c161) L7)
theorem n393 : G [(36873, 1008, 8), (32772, 0, 0), (28674, 1, 1), (24636, 2, 59), (8195, 1000, 2), (12291, 1001, 2), (16387, 1002, 2), (20483, 1003, 2), (4099, 0, 0), (5, 4, 4)] := CoversG.ptsK 16 [45062] (by kernel_rfl) (by kernel_rfl) (.drewF (.tree _ c162) L0)
theorem n392 : G [(32772, 0, 0), (28674, 1, 1), (24636, 2, 59), (8195, 1000, 2), (12291, 1001, 2), (16387, 1002, 2), (20483, 1003, 2), (4099, 0, 0), (5, 4, 4)] := CoversG.ptsK 8 [36873] (by kernel_rfl) (by kernel_rfl) (n393)
theorem n395 : G [(36873, 1008, 8), (40969, 1009, 8), (32772, 1, 1), (28674, 1, 1), (24636, 2, 59), (8195, 1000, 2), (12291, 1001, 2), (16387, 1002, 2), (20483, 1003, 2), (4099, 0, 0), (5, 4, 4)] := CoversG.ptsK 16 [49158] (by kernel_rfl) (by kernel_rfl) (.drewF (.tree _ c163) L1)
theorem n394 : G [(32772, 1, 1), (28674, 1, 1), (24636, 2, 59), (8195, 1000, 2), (12291, 1001, 2), (16387, 1002, 2), (20483, 1003, 2), (4099, 0, 0), (5, 4, 4)] := CoversG.ptsK 8 [36873, 40969] (by kernel_rfl) (by kernel_rfl) (n395)
theorem n397 : G [(36873, 1008, 8), (40969, 1009, 8), (45065, 1010, 8), (32772, 2, 2), (28674, 1, 1), (24636, 2, 59), (8195, 1000, 2), (12291, 1001, 2), (16387, 1002, 2), (20483, 1003, 2), (4099, 0, 0), (5, 4, 4)] := CoversG.ptsK 16 [53254] (by kernel_rfl) (by kernel_rfl) (.drewF (.tree _ c164) L2)
theorem n396 : G [(32772, 2, 2), (28674, 1, 1), (24636, 2, 59), (8195, 1000, 2), (12291, 1001, 2), (16387, 1002, 2), (20483, 1003, 2), (4099, 0, 0), (5, 4, 4)] := CoversG.ptsK 8 [36873, 40969, 45065] (by kernel_rfl) (by kernel_rfl) (n397)
theorem n399 : G [(36873, 1008, 8), (40969, 1009, 8), (45065, 1010, 8), (49161, 1011, 8), (32772, 3, 3), (28674, 1, 1), (24636, 2, 59), (8195, 1000, 2), (12291, 1001, 2), (16387, 1002, 2), (20483, 1003, 2), (4099, 0, 0), (5, 4, 4)] := CoversG.ptsK 16 [57350] (by kernel_rfl) (by kernel_rfl) (.drewF (.tree _ c165) L3)
theorem n398 : G [(32772, 3, 3), (28674, 1, 1), (24636, 2, 59), (8195, 1000, 2), (12291, 1001, 2), (16387, 1002, 2), (20483, 1003, 2), (4099, 0, 0), (5, 4, 4)] := CoversG.ptsK 8 [36873, 40969, 45065, 49161] (by kernel_rfl) (by kernel_rfl) (n399)
theorem n391 : G [(28674, 1, 1), (24636, 2, 59), (8195, 1000, 2), (12291, 1001, 2), (16387, 1002, 2), (20483, 1003, 2), (4099, 0, 0), (5, 4, 4)] := CoversG.part 32772 (by kernel_rfl) fun v hv => by
  have h : v = 0 ∨ v = 1 ∨ v = 2 ∨ v = 3 := by omega
  rcases h with rfl | rfl | rfl | rfl
  · exact n392
  · exact n394
  · exact n396
  · exact n398
theorem n389 : G [(24636, 2, 59), (8195, 1000, 2), (12291, 1001, 2), (16387, 1002, 2), (20483, 1003, 2), (4099, 0, 0), (5, 4, 4)] := CoversG.two 28674 (by kernel_rfl) (n390) (n391)
theorem n370 : G [(8195, 1000, 2), (12291, 1001, 2), (16387, 1002, 2), (20483, 1003, 2), (4099, 0, 0), (5, 4, 4)] := CoversG.three 24636 (by kernel_rfl) (n371) (n380) (n389)
theorem n369 : G [(4099, 0, 0), (5, 4, 4)] := CoversG.ptsK 0 [8195, 12291, 16387, 20483] (by kernel_rfl) (by kernel_rfl) (n370)
theorem n404 : G [(32777, 1008, 8), (28676, 0, 0), (24636, 0, 0), (8197, 1000, 4), (12293, 1001, 4), (16389, 1002, 4), (20485, 1003, 4), (4099, 1, 1), (5, 4, 4)] := CoversG.ptsK 16 [40966] (by kernel_rfl) (by kernel_rfl) (.drewF (.tree _ c166) L0)
theorem n403 : G [(28676, 0, 0), (24636, 0, 0), (8197, 1000, 4), (12293, 1001, 4), (16389, 1002, 4), (20485, 1003, 4), (4099, 1, 1), (5, 4, 4)] := CoversG.ptsK 8 [32777] (by kernel_rfl) (by kernel_rfl) (n404)
theorem n406 : G [(32777, 1008, 8), (36873, 1009, 8), (28676, 1, 1), (24636, 0, 0), (8197, 1000, 4), (12293, 1001, 4), (16389, 1002, 4), (20485, 1003, 4), (4099, 1, 1), (5, 4, 4)] := CoversG.ptsK 16 [45062] (by kernel_rfl) (by kernel_rfl) (.drewF (.tree _ c167) L1)
theorem n405 : G [(28676, 1, 1), (24636, 0, 0), (8197, 1000, 4), (12293, 1001, 4), (16389, 1002, 4), (20485, 1003, 4), (4099, 1, 1), (5, 4, 4)] := CoversG.ptsK 8 [32777, 36873] (by kernel_rfl) (by kernel_rfl) (n406)
theorem n408 : G [(32777, 1008, 8), (36873, 1009, 8), (40969, 1010, 8), (28676, 2, 2), (24636, 0, 0), (8197, 1000, 4), (12293, 1001, 4), (16389, 1002, 4), (20485, 1003, 4), (4099, 1, 1), (5, 4, 4)] := CoversG.ptsK 16 [49158] (by kernel_rfl) (by kernel_rfl) (.drewF (.tree _ c168) L2)
theorem n407 : G [(28676, 2, 2), (24636, 0, 0), (8197, 1000, 4), (12293, 1001, 4), (16389, 1002, 4), (20485, 1003, 4), (4099, 1, 1), (5, 4, 4)] := CoversG.ptsK 8 [32777, 36873, 40969] (by kernel_rfl) (by kernel_rfl) (n408)
theorem n410 : G [(32777, 1008, 8), (36873, 1009, 8), (40969, 1010, 8), (45065, 1011, 8), (28676, 3, 3), (24636, 0, 0), (8197, 1000, 4), (12293, 1001, 4), (16389, 1002, 4), (20485, 1003, 4), (4099, 1, 1), (5, 4, 4)] := CoversG.ptsK 16 [53254] (by kernel_rfl) (by kernel_rfl) (.drewF (.tree _ c169) L3)
theorem n409 : G [(28676, 3, 3), (24636, 0, 0), (8197, 1000, 4), (12293, 1001, 4), (16389, 1002, 4), (20485, 1003, 4), (4099, 1, 1), (5, 4, 4)] := CoversG.ptsK 8 [32777, 36873, 40969, 45065] (by kernel_rfl) (by kernel_rfl) (n410)
theorem n402 : G [(24636, 0, 0), (8197, 1000, 4), (12293, 1001, 4), (16389, 1002, 4), (20485, 1003, 4), (4099, 1, 1), (5, 4, 4)] := CoversG.part 28676 (by kernel_rfl) fun v hv => by
  have h : v = 0 ∨ v = 1 ∨ v = 2 ∨ v = 3 := by omega
  rcases h with rfl | rfl | rfl | rfl
  · exact n403
  · exact n405
  · exact n407
  · exact n409
theorem n413 : G [(32777, 1008, 8), (28676, 0, 0), (24636, 1, 1), (8197, 1000, 4), (12293, 1001, 4), (16389, 1002, 4), (20485, 1003, 4), (4099, 1, 1), (5, 4, 4)] := CoversG.ptsK 16 [40966] (by kernel_rfl) (by kernel_rfl) (.drewF (.tree _ c170) L0)
theorem n412 : G [(28676, 0, 0), (24636, 1, 1), (8197, 1000, 4), (12293, 1001, 4), (16389, 1002, 4), (20485, 1003, 4), (4099, 1, 1), (5, 4, 4)] := CoversG.ptsK 8 [32777] (by kernel_rfl) (by kernel_rfl) (n413)
theorem n415 : G [(32777, 1008, 8), (36873, 1009, 8), (28676, 1, 1), (24636, 1, 1), (8197, 1000, 4), (12293, 1001, 4), (16389, 1002, 4), (20485, 1003, 4), (4099, 1, 1), (5, 4, 4)] := CoversG.ptsK 16 [45062] (by kernel_rfl) (by kernel_rfl) (.drewF (.tree _ c171) L1)
theorem n414 : G [(28676, 1, 1), (24636, 1, 1), (8197, 1000, 4), (12293, 1001, 4), (16389, 1002, 4), (20485, 1003, 4), (4099, 1, 1), (5, 4, 4)] := CoversG.ptsK 8 [32777, 36873] (by kernel_rfl) (by kernel_rfl) (n415)
theorem n417 : G [(32777, 1008, 8), (36873, 1009, 8), (40969, 1010, 8), (28676, 2, 2), (24636, 1, 1), (8197, 1000, 4), (12293, 1001, 4), (16389, 1002, 4), (20485, 1003, 4), (4099, 1, 1), (5, 4, 4)] := CoversG.ptsK 16 [49158] (by kernel_rfl) (by kernel_rfl) (.drewF (.tree _ c172) L2)
theorem n416 : G [(28676, 2, 2), (24636, 1, 1), (8197, 1000, 4), (12293, 1001, 4), (16389, 1002, 4), (20485, 1003, 4), (4099, 1, 1), (5, 4, 4)] := CoversG.ptsK 8 [32777, 36873, 40969] (by kernel_rfl) (by kernel_rfl) (n417)
theorem n419 : G [(32777, 1008, 8), (36873, 1009, 8), (40969, 1010, 8), (45065, 1011, 8), (28676, 3, 3), (24636, 1, 1), (8197, 1000, 4), (12293, 1001, 4), (16389, 1002, 4), (20485, 1003, 4), (4099, 1, 1), (5, 4, 4)] := CoversG.ptsK 16 [53254] (by kernel_rfl) (by kernel_rfl) (.drewF (.tree _ c173) L3)
theorem n418 : G [(28676, 3, 3), (24636, 1, 1), (8197, 1000, 4), (12293, 1001, 4), (16389, 1002, 4), (20485, 1003, 4), (4099, 1, 1), (5, 4, 4)] := CoversG.ptsK 8 [32777, 36873, 40969, 45065] (by kernel_rfl) (by kernel_rfl) (n419)
theorem n411 : G [(24636, 1, 1), (8197, 1000, 4), (12293, 1001, 4), (16389, 1002, 4), (20485, 1003, 4), (4099, 1, 1), (5, 4, 4)] := CoversG.part 28676 (by kernel_rfl) fun v hv => by
  have h : v = 0 ∨ v = 1 ∨ v = 2 ∨ v = 3 := by omega
  rcases h with rfl | rfl | rfl | rfl
  · exact n412
  · exact n414
  · exact n416
  · exact n418
theorem n421 : G [(28674, 0, 0), (24636, 2, 59), (8197, 1000, 4), (12293, 1001, 4), (16389, 1002, 4), (20485, 1003, 4), (4099, 1, 1), (5, 4, 4)] := CoversG.ptsK 16 [32774] (by kernel_rfl) (by kernel_rfl) (.drewF (.tree _ c174) L7)
theorem n424 : G [(36873, 1008, 8), (32772, 0, 0), (28674, 1, 1), (24636, 2, 59), (8197, 1000, 4), (12293, 1001, 4), (16389, 1002, 4), (20485, 1003, 4), (4099, 1, 1), (5, 4, 4)] := CoversG.ptsK 16 [45062] (by kernel_rfl) (by kernel_rfl) (.drewF (.tree _ c175) L0)
theorem n423 : G [(32772, 0, 0), (28674, 1, 1), (24636, 2, 59), (8197, 1000, 4), (12293, 1001, 4), (16389, 1002, 4), (20485, 1003, 4), (4099, 1, 1), (5, 4, 4)] := CoversG.ptsK 8 [36873] (by kernel_rfl) (by kernel_rfl) (n424)
theorem n426 : G [(36873, 1008, 8), (40969, 1009, 8), (32772, 1, 1), (28674, 1, 1), (24636, 2, 59), (8197, 1000, 4), (12293, 1001, 4), (16389, 1002, 4), (20485, 1003, 4), (4099, 1, 1), (5, 4, 4)] := CoversG.ptsK 16 [49158] (by kernel_rfl) (by kernel_rfl) (.drewF (.tree _ c176) L1)
theorem n425 : G [(32772, 1, 1), (28674, 1, 1), (24636, 2, 59), (8197, 1000, 4), (12293, 1001, 4), (16389, 1002, 4), (20485, 1003, 4), (4099, 1, 1), (5, 4, 4)] := CoversG.ptsK 8 [36873, 40969] (by kernel_rfl) (by kernel_rfl) (n426)
theorem n428 : G [(36873, 1008, 8), (40969, 1009, 8), (45065, 1010, 8), (32772, 2, 2), (28674, 1, 1), (24636, 2, 59), (8197, 1000, 4), (12293, 1001, 4), (16389, 1002, 4), (20485, 1003, 4), (4099, 1, 1), (5, 4, 4)] := CoversG.ptsK 16 [53254] (by kernel_rfl) (by kernel_rfl) (.drewF (.tree _ c177) L2)
theorem n427 : G [(32772, 2, 2), (28674, 1, 1), (24636, 2, 59), (8197, 1000, 4), (12293, 1001, 4), (16389, 1002, 4), (20485, 1003, 4), (4099, 1, 1), (5, 4, 4)] := CoversG.ptsK 8 [36873, 40969, 45065] (by kernel_rfl) (by kernel_rfl) (n428)
theorem n430 : G [(36873, 1008, 8), (40969, 1009, 8), (45065, 1010, 8), (49161, 1011, 8), (32772, 3, 3), (28674, 1, 1), (24636, 2, 59), (8197, 1000, 4), (12293, 1001, 4), (16389, 1002, 4), (20485, 1003, 4), (4099, 1, 1), (5, 4, 4)] := CoversG.ptsK 16 [57350] (by kernel_rfl) (by kernel_rfl) (.drewF (.tree _ c178) L3)
theorem n429 : G [(32772, 3, 3), (28674, 1, 1), (24636, 2, 59), (8197, 1000, 4), (12293, 1001, 4), (16389, 1002, 4), (20485, 1003, 4), (4099, 1, 1), (5, 4, 4)] := CoversG.ptsK 8 [36873, 40969, 45065, 49161] (by kernel_rfl) (by kernel_rfl) (n430)
theorem n422 : G [(28674, 1, 1), (24636, 2, 59), (8197, 1000, 4), (12293, 1001, 4), (16389, 1002, 4), (20485, 1003, 4), (4099, 1, 1), (5, 4, 4)] := CoversG.part 32772 (by kernel_rfl) fun v hv => by
  have h : v = 0 ∨ v = 1 ∨ v = 2 ∨ v = 3 := by omega
  rcases h with rfl | rfl | rfl | rfl
  · exact n423
  · exact n425
  · exact n427
  · exact n429
theorem n420 : G [(24636, 2, 59), (8197, 1000, 4), (12293, 1001, 4), (16389, 1002, 4), (20485, 1003, 4), (4099, 1, 1), (5, 4, 4)] := CoversG.two 28674 (by kernel_rfl) (n421) (n422)
theorem n401 : G [(8197, 1000, 4), (12293, 1001, 4), (16389, 1002, 4), (20485, 1003, 4), (4099, 1, 1), (5, 4, 4)] := CoversG.three 24636 (by kernel_rfl) (n402) (n411) (n420)
theorem n400 : G [(4099, 1, 1), (5, 4, 4)] := CoversG.ptsK 0 [8197, 12293, 16389, 20485] (by kernel_rfl) (by kernel_rfl) (n401)
theorem n435 : G [(32777, 1008, 8), (28676, 0, 0), (24636, 0, 0), (8199, 1000, 6), (12295, 1001, 6), (16391, 1002, 6), (20487, 1003, 6), (4099, 2, 2), (5, 4, 4)] := CoversG.ptsK 16 [40966] (by kernel_rfl) (by kernel_rfl) (.drewF (.tree _ c179) L0)
theorem n434 : G [(28676, 0, 0), (24636, 0, 0), (8199, 1000, 6), (12295, 1001, 6), (16391, 1002, 6), (20487, 1003, 6), (4099, 2, 2), (5, 4, 4)] := CoversG.ptsK 8 [32777] (by kernel_rfl) (by kernel_rfl) (n435)
theorem n437 : G [(32777, 1008, 8), (36873, 1009, 8), (28676, 1, 1), (24636, 0, 0), (8199, 1000, 6), (12295, 1001, 6), (16391, 1002, 6), (20487, 1003, 6), (4099, 2, 2), (5, 4, 4)] := CoversG.ptsK 16 [45062] (by kernel_rfl) (by kernel_rfl) (.drewF (.tree _ c180) L1)
theorem n436 : G [(28676, 1, 1), (24636, 0, 0), (8199, 1000, 6), (12295, 1001, 6), (16391, 1002, 6), (20487, 1003, 6), (4099, 2, 2), (5, 4, 4)] := CoversG.ptsK 8 [32777, 36873] (by kernel_rfl) (by kernel_rfl) (n437)
theorem n439 : G [(32777, 1008, 8), (36873, 1009, 8), (40969, 1010, 8), (28676, 2, 2), (24636, 0, 0), (8199, 1000, 6), (12295, 1001, 6), (16391, 1002, 6), (20487, 1003, 6), (4099, 2, 2), (5, 4, 4)] := CoversG.ptsK 16 [49158] (by kernel_rfl) (by kernel_rfl) (.drewF (.tree _ c181) L2)
theorem n438 : G [(28676, 2, 2), (24636, 0, 0), (8199, 1000, 6), (12295, 1001, 6), (16391, 1002, 6), (20487, 1003, 6), (4099, 2, 2), (5, 4, 4)] := CoversG.ptsK 8 [32777, 36873, 40969] (by kernel_rfl) (by kernel_rfl) (n439)
theorem n441 : G [(32777, 1008, 8), (36873, 1009, 8), (40969, 1010, 8), (45065, 1011, 8), (28676, 3, 3), (24636, 0, 0), (8199, 1000, 6), (12295, 1001, 6), (16391, 1002, 6), (20487, 1003, 6), (4099, 2, 2), (5, 4, 4)] := CoversG.ptsK 16 [53254] (by kernel_rfl) (by kernel_rfl) (.drewF (.tree _ c182) L3)
theorem n440 : G [(28676, 3, 3), (24636, 0, 0), (8199, 1000, 6), (12295, 1001, 6), (16391, 1002, 6), (20487, 1003, 6), (4099, 2, 2), (5, 4, 4)] := CoversG.ptsK 8 [32777, 36873, 40969, 45065] (by kernel_rfl) (by kernel_rfl) (n441)
theorem n433 : G [(24636, 0, 0), (8199, 1000, 6), (12295, 1001, 6), (16391, 1002, 6), (20487, 1003, 6), (4099, 2, 2), (5, 4, 4)] := CoversG.part 28676 (by kernel_rfl) fun v hv => by
  have h : v = 0 ∨ v = 1 ∨ v = 2 ∨ v = 3 := by omega
  rcases h with rfl | rfl | rfl | rfl
  · exact n434
  · exact n436
  · exact n438
  · exact n440
theorem n444 : G [(32777, 1008, 8), (28676, 0, 0), (24636, 1, 1), (8199, 1000, 6), (12295, 1001, 6), (16391, 1002, 6), (20487, 1003, 6), (4099, 2, 2), (5, 4, 4)] := CoversG.ptsK 16 [40966] (by kernel_rfl) (by kernel_rfl) (.drewF (.tree _ c183) L0)
theorem n443 : G [(28676, 0, 0), (24636, 1, 1), (8199, 1000, 6), (12295, 1001, 6), (16391, 1002, 6), (20487, 1003, 6), (4099, 2, 2), (5, 4, 4)] := CoversG.ptsK 8 [32777] (by kernel_rfl) (by kernel_rfl) (n444)
theorem n446 : G [(32777, 1008, 8), (36873, 1009, 8), (28676, 1, 1), (24636, 1, 1), (8199, 1000, 6), (12295, 1001, 6), (16391, 1002, 6), (20487, 1003, 6), (4099, 2, 2), (5, 4, 4)] := CoversG.ptsK 16 [45062] (by kernel_rfl) (by kernel_rfl) (.drewF (.tree _ c184) L1)
theorem n445 : G [(28676, 1, 1), (24636, 1, 1), (8199, 1000, 6), (12295, 1001, 6), (16391, 1002, 6), (20487, 1003, 6), (4099, 2, 2), (5, 4, 4)] := CoversG.ptsK 8 [32777, 36873] (by kernel_rfl) (by kernel_rfl) (n446)
theorem n448 : G [(32777, 1008, 8), (36873, 1009, 8), (40969, 1010, 8), (28676, 2, 2), (24636, 1, 1), (8199, 1000, 6), (12295, 1001, 6), (16391, 1002, 6), (20487, 1003, 6), (4099, 2, 2), (5, 4, 4)] := CoversG.ptsK 16 [49158] (by kernel_rfl) (by kernel_rfl) (.drewF (.tree _ c185) L2)
theorem n447 : G [(28676, 2, 2), (24636, 1, 1), (8199, 1000, 6), (12295, 1001, 6), (16391, 1002, 6), (20487, 1003, 6), (4099, 2, 2), (5, 4, 4)] := CoversG.ptsK 8 [32777, 36873, 40969] (by kernel_rfl) (by kernel_rfl) (n448)
theorem n450 : G [(32777, 1008, 8), (36873, 1009, 8), (40969, 1010, 8), (45065, 1011, 8), (28676, 3, 3), (24636, 1, 1), (8199, 1000, 6), (12295, 1001, 6), (16391, 1002, 6), (20487, 1003, 6), (4099, 2, 2), (5, 4, 4)] := CoversG.ptsK 16 [53254] (by kernel_rfl) (by kernel_rfl) (.drewF (.tree _ c186) L3)
theorem n449 : G [(28676, 3, 3), (24636, 1, 1), (8199, 1000, 6), (12295, 1001, 6), (16391, 1002, 6), (20487, 1003, 6), (4099, 2, 2), (5, 4, 4)] := CoversG.ptsK 8 [32777, 36873, 40969, 45065] (by kernel_rfl) (by kernel_rfl) (n450)
theorem n442 : G [(24636, 1, 1), (8199, 1000, 6), (12295, 1001, 6), (16391, 1002, 6), (20487, 1003, 6), (4099, 2, 2), (5, 4, 4)] := CoversG.part 28676 (by kernel_rfl) fun v hv => by
  have h : v = 0 ∨ v = 1 ∨ v = 2 ∨ v = 3 := by omega
  rcases h with rfl | rfl | rfl | rfl
  · exact n443
  · exact n445
  · exact n447
  · exact n449
theorem n452 : G [(28674, 0, 0), (24636, 2, 59), (8199, 1000, 6), (12295, 1001, 6), (16391, 1002, 6), (20487, 1003, 6), (4099, 2, 2), (5, 4, 4)] := CoversG.ptsK 16 [32774] (by kernel_rfl) (by kernel_rfl) (.drewF (.tree _ c187) L7)
theorem n455 : G [(36873, 1008, 8), (32772, 0, 0), (28674, 1, 1), (24636, 2, 59), (8199, 1000, 6), (12295, 1001, 6), (16391, 1002, 6), (20487, 1003, 6), (4099, 2, 2), (5, 4, 4)] := CoversG.ptsK 16 [45062] (by kernel_rfl) (by kernel_rfl) (.drewF (.tree _ c188) L0)
theorem n454 : G [(32772, 0, 0), (28674, 1, 1), (24636, 2, 59), (8199, 1000, 6), (12295, 1001, 6), (16391, 1002, 6), (20487, 1003, 6), (4099, 2, 2), (5, 4, 4)] := CoversG.ptsK 8 [36873] (by kernel_rfl) (by kernel_rfl) (n455)
theorem n457 : G [(36873, 1008, 8), (40969, 1009, 8), (32772, 1, 1), (28674, 1, 1), (24636, 2, 59), (8199, 1000, 6), (12295, 1001, 6), (16391, 1002, 6), (20487, 1003, 6), (4099, 2, 2), (5, 4, 4)] := CoversG.ptsK 16 [49158] (by kernel_rfl) (by kernel_rfl) (.drewF (.tree _ c189) L1)
theorem n456 : G [(32772, 1, 1), (28674, 1, 1), (24636, 2, 59), (8199, 1000, 6), (12295, 1001, 6), (16391, 1002, 6), (20487, 1003, 6), (4099, 2, 2), (5, 4, 4)] := CoversG.ptsK 8 [36873, 40969] (by kernel_rfl) (by kernel_rfl) (n457)
theorem n459 : G [(36873, 1008, 8), (40969, 1009, 8), (45065, 1010, 8), (32772, 2, 2), (28674, 1, 1), (24636, 2, 59), (8199, 1000, 6), (12295, 1001, 6), (16391, 1002, 6), (20487, 1003, 6), (4099, 2, 2), (5, 4, 4)] := CoversG.ptsK 16 [53254] (by kernel_rfl) (by kernel_rfl) (.drewF (.tree _ c190) L2)
theorem n458 : G [(32772, 2, 2), (28674, 1, 1), (24636, 2, 59), (8199, 1000, 6), (12295, 1001, 6), (16391, 1002, 6), (20487, 1003, 6), (4099, 2, 2), (5, 4, 4)] := CoversG.ptsK 8 [36873, 40969, 45065] (by kernel_rfl) (by kernel_rfl) (n459)
theorem n461 : G [(36873, 1008, 8), (40969, 1009, 8), (45065, 1010, 8), (49161, 1011, 8), (32772, 3, 3), (28674, 1, 1), (24636, 2, 59), (8199, 1000, 6), (12295, 1001, 6), (16391, 1002, 6), (20487, 1003, 6), (4099, 2, 2), (5, 4, 4)] := CoversG.ptsK 16 [57350] (by kernel_rfl) (by kernel_rfl) (.drewF (.tree _ c191) L3)
theorem n460 : G [(32772, 3, 3), (28674, 1, 1), (24636, 2, 59), (8199, 1000, 6), (12295, 1001, 6), (16391, 1002, 6), (20487, 1003, 6), (4099, 2, 2), (5, 4, 4)] := CoversG.ptsK 8 [36873, 40969, 45065, 49161] (by kernel_rfl) (by kernel_rfl) (n461)
theorem n453 : G [(28674, 1, 1), (24636, 2, 59), (8199, 1000, 6), (12295, 1001, 6), (16391, 1002, 6), (20487, 1003, 6), (4099, 2, 2), (5, 4, 4)] := CoversG.part 32772 (by kernel_rfl) fun v hv => by
  have h : v = 0 ∨ v = 1 ∨ v = 2 ∨ v = 3 := by omega
  rcases h with rfl | rfl | rfl | rfl
  · exact n454
  · exact n456
  · exact n458
  · exact n460
theorem n451 : G [(24636, 2, 59), (8199, 1000, 6), (12295, 1001, 6), (16391, 1002, 6), (20487, 1003, 6), (4099, 2, 2), (5, 4, 4)] := CoversG.two 28674 (by kernel_rfl) (n452) (n453)
theorem n432 : G [(8199, 1000, 6), (12295, 1001, 6), (16391, 1002, 6), (20487, 1003, 6), (4099, 2, 2), (5, 4, 4)] := CoversG.three 24636 (by kernel_rfl) (n433) (n442) (n451)
theorem n431 : G [(4099, 2, 2), (5, 4, 4)] := CoversG.ptsK 0 [8199, 12295, 16391, 20487] (by kernel_rfl) (by kernel_rfl) (n432)
theorem n368 : G [(5, 4, 4)] := CoversG.part 4099 (by kernel_rfl) fun v hv => by
  have h : v = 0 ∨ v = 1 ∨ v = 2 := by omega
  rcases h with rfl | rfl | rfl
  · exact n369
  · exact n400
  · exact n431
theorem n0 : G [] := CoversG.part 5 (by kernel_rfl) fun v hv => by
  have h : v = 0 ∨ v = 1 ∨ v = 2 ∨ v = 3 ∨ v = 4 := by omega
  rcases h with rfl | rfl | rfl | rfl | rfl
  · exact n1
  · exact n86
  · exact n180
  · exact n274
  · exact n368
end Go.Proofs.Ytennigkljnfjmaa.fnPowersFromRuns
