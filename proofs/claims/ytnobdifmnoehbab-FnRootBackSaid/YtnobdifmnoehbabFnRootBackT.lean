/- Runs of the program at a seat. -/
import Derived.Test.YtnobdifmnoehbabRobackD0
import Derived.Test.YtnobdifmnoehbabRobackD1
import Derived.Test.YtnobdifmnoehbabRobackD2
import Derived.Test.YtnobdifmnoehbabRobackD3
import Derived.Test.YtnobdifmnoehbabFnRootBackR0
import Derived.Test.YtnobdifmnoehbabFnRootBackR1
import Derived.Test.YtnobdifmnoehbabFnRootBackR2
import Derived.Test.YtnobdifmnoehbabFnRootBackR3
namespace Go.Proofs.Ytnobdifmnoehbab.fnRootBackRuns
open Go Go.Eng
set_option linter.unusedVariables false
set_option linter.unusedSectionVars false
set_option linter.unusedSimpArgs false
set_option maxRecDepth 100000
open Go.Proofs.Ytnobdifmnoehbab.roback
theorem g_e1 : Good t_e1 := .part 0 549755811888 549755815888 [(549755811888, 549755812887), (549755812888, 549755813886), (549755813887, 549755813887), (549755813888, 549755813888), (549755813889, 549755813889), (549755813890, 549755814888), (549755814889, 549755815888)] (by decide) (by decide) (by kernel_rfl) (cm g_e1_0 (cm g_e1_1 (cm g_e1_2 (cm g_e1_3 (cm g_e1_4 (cm g_e1_5 (cm g_e1_6 (nm))))))))
theorem g_e2_1 : Good (subL (wV (pvIx 0) 549755811888 549755815888) (pieceW 0 (549755812888, 549755814888)) t_e2) := .part 1 549755811888 549755815888 [(549755811888, 549755812887), (549755812888, 549755813886), (549755813887, 549755813887), (549755813888, 549755813888), (549755813889, 549755813889), (549755813890, 549755814888), (549755814889, 549755815888)] (by decide) (by decide) (by kernel_rfl) (cm g_e2_1_0 (cm g_e2_1_1 (cm g_e2_1_2 (cm g_e2_1_3 (cm g_e2_1_4 (cm g_e2_1_5 (cm g_e2_1_6 (nm))))))))
theorem g_e2 : Good t_e2 := .part 0 549755811888 549755815888 [(549755811888, 549755812887), (549755812888, 549755814888), (549755814889, 549755815888)] (by decide) (by decide) (by kernel_rfl) (cm g_e2_0 (cm g_e2_1 (cm g_e2_2 (nm))))
theorem g_e2p : Good t_e2p := .part 0 549755811888 549755815888 [(549755811888, 549755812887), (549755812888, 549755814888), (549755814889, 549755815888)] (by decide) (by decide) (by kernel_rfl) (cm g_e2p_0 (cm g_e2p_1 (cm g_e2p_2 (nm))))
theorem g_e2m : Good t_e2m := .part 0 549755811888 549755815888 [(549755811888, 549755812887), (549755812888, 549755814888), (549755814889, 549755815888)] (by decide) (by decide) (by kernel_rfl) (cm g_e2m_0 (cm g_e2m_1 (cm g_e2m_2 (nm))))
theorem g_e3_1_1 : Good (subL (wV (pvIx 1) 549755811888 549755815888) (pieceW 1 (549755812888, 549755814888)) (subL (wV (pvIx 0) 549755811888 549755815888) (pieceW 0 (549755812888, 549755814888)) t_e3)) := .part 2 549755811888 549755815888 [(549755811888, 549755812887), (549755812888, 549755813886), (549755813887, 549755813887), (549755813888, 549755813888), (549755813889, 549755813889), (549755813890, 549755814888), (549755814889, 549755815888)] (by decide) (by decide) (by kernel_rfl) (cm g_e3_1_1_0 (cm g_e3_1_1_1 (cm g_e3_1_1_2 (cm g_e3_1_1_3 (cm g_e3_1_1_4 (cm g_e3_1_1_5 (cm g_e3_1_1_6 (nm))))))))
theorem g_e3_1 : Good (subL (wV (pvIx 0) 549755811888 549755815888) (pieceW 0 (549755812888, 549755814888)) t_e3) := .part 1 549755811888 549755815888 [(549755811888, 549755812887), (549755812888, 549755814888), (549755814889, 549755815888)] (by decide) (by decide) (by kernel_rfl) (cm g_e3_1_0 (cm g_e3_1_1 (cm g_e3_1_2 (nm))))
theorem g_e3 : Good t_e3 := .part 0 549755811888 549755815888 [(549755811888, 549755812887), (549755812888, 549755814888), (549755814889, 549755815888)] (by decide) (by decide) (by kernel_rfl) (cm g_e3_0 (cm g_e3_1 (cm g_e3_2 (nm))))
theorem g_e3p_1 : Good (subL (wV (pvIx 0) 549755811888 549755815888) (pieceW 0 (549755812888, 549755814888)) t_e3p) := .part 1 549755811888 549755815888 [(549755811888, 549755812887), (549755812888, 549755814888), (549755814889, 549755815888)] (by decide) (by decide) (by kernel_rfl) (cm g_e3p_1_0 (cm g_e3p_1_1 (cm g_e3p_1_2 (nm))))
theorem g_e3p : Good t_e3p := .part 0 549755811888 549755815888 [(549755811888, 549755812887), (549755812888, 549755814888), (549755814889, 549755815888)] (by decide) (by decide) (by kernel_rfl) (cm g_e3p_0 (cm g_e3p_1 (cm g_e3p_2 (nm))))
theorem g_e3m_1 : Good (subL (wV (pvIx 0) 549755811888 549755815888) (pieceW 0 (549755812888, 549755814888)) t_e3m) := .part 1 549755811888 549755815888 [(549755811888, 549755812887), (549755812888, 549755814888), (549755814889, 549755815888)] (by decide) (by decide) (by kernel_rfl) (cm g_e3m_1_0 (cm g_e3m_1_1 (cm g_e3m_1_2 (nm))))
theorem g_e3m : Good t_e3m := .part 0 549755811888 549755815888 [(549755811888, 549755812887), (549755812888, 549755814888), (549755814889, 549755815888)] (by decide) (by decide) (by kernel_rfl) (cm g_e3m_0 (cm g_e3m_1 (cm g_e3m_2 (nm))))
theorem g_e4_1_1_1 : Good (subL (wV (pvIx 2) 549755811888 549755815888) (pieceW 2 (549755812888, 549755814888)) (subL (wV (pvIx 1) 549755811888 549755815888) (pieceW 1 (549755812888, 549755814888)) (subL (wV (pvIx 0) 549755811888 549755815888) (pieceW 0 (549755812888, 549755814888)) t_e4))) := .part 3 549755811888 549755815888 [(549755811888, 549755812887), (549755812888, 549755813886), (549755813887, 549755813887), (549755813888, 549755813888), (549755813889, 549755813889), (549755813890, 549755814888), (549755814889, 549755815888)] (by decide) (by decide) (by kernel_rfl) (cm g_e4_1_1_1_0 (cm g_e4_1_1_1_1 (cm g_e4_1_1_1_2 (cm g_e4_1_1_1_3 (cm g_e4_1_1_1_4 (cm g_e4_1_1_1_5 (cm g_e4_1_1_1_6 (nm))))))))
theorem g_e4_1_1 : Good (subL (wV (pvIx 1) 549755811888 549755815888) (pieceW 1 (549755812888, 549755814888)) (subL (wV (pvIx 0) 549755811888 549755815888) (pieceW 0 (549755812888, 549755814888)) t_e4)) := .part 2 549755811888 549755815888 [(549755811888, 549755812887), (549755812888, 549755814888), (549755814889, 549755815888)] (by decide) (by decide) (by kernel_rfl) (cm g_e4_1_1_0 (cm g_e4_1_1_1 (cm g_e4_1_1_2 (nm))))
theorem g_e4_1 : Good (subL (wV (pvIx 0) 549755811888 549755815888) (pieceW 0 (549755812888, 549755814888)) t_e4) := .part 1 549755811888 549755815888 [(549755811888, 549755812887), (549755812888, 549755814888), (549755814889, 549755815888)] (by decide) (by decide) (by kernel_rfl) (cm g_e4_1_0 (cm g_e4_1_1 (cm g_e4_1_2 (nm))))
theorem g_e4 : Good t_e4 := .part 0 549755811888 549755815888 [(549755811888, 549755812887), (549755812888, 549755814888), (549755814889, 549755815888)] (by decide) (by decide) (by kernel_rfl) (cm g_e4_0 (cm g_e4_1 (cm g_e4_2 (nm))))
theorem g_e4p_1_1 : Good (subL (wV (pvIx 1) 549755811888 549755815888) (pieceW 1 (549755812888, 549755814888)) (subL (wV (pvIx 0) 549755811888 549755815888) (pieceW 0 (549755812888, 549755814888)) t_e4p)) := .part 2 549755811888 549755815888 [(549755811888, 549755812887), (549755812888, 549755814888), (549755814889, 549755815888)] (by decide) (by decide) (by kernel_rfl) (cm g_e4p_1_1_0 (cm g_e4p_1_1_1 (cm g_e4p_1_1_2 (nm))))
theorem g_e4p_1 : Good (subL (wV (pvIx 0) 549755811888 549755815888) (pieceW 0 (549755812888, 549755814888)) t_e4p) := .part 1 549755811888 549755815888 [(549755811888, 549755812887), (549755812888, 549755814888), (549755814889, 549755815888)] (by decide) (by decide) (by kernel_rfl) (cm g_e4p_1_0 (cm g_e4p_1_1 (cm g_e4p_1_2 (nm))))
theorem g_e4p : Good t_e4p := .part 0 549755811888 549755815888 [(549755811888, 549755812887), (549755812888, 549755814888), (549755814889, 549755815888)] (by decide) (by decide) (by kernel_rfl) (cm g_e4p_0 (cm g_e4p_1 (cm g_e4p_2 (nm))))
theorem g_e4m_1_1 : Good (subL (wV (pvIx 1) 549755811888 549755815888) (pieceW 1 (549755812888, 549755814888)) (subL (wV (pvIx 0) 549755811888 549755815888) (pieceW 0 (549755812888, 549755814888)) t_e4m)) := .part 2 549755811888 549755815888 [(549755811888, 549755812887), (549755812888, 549755814888), (549755814889, 549755815888)] (by decide) (by decide) (by kernel_rfl) (cm g_e4m_1_1_0 (cm g_e4m_1_1_1 (cm g_e4m_1_1_2 (nm))))
theorem g_e4m_1 : Good (subL (wV (pvIx 0) 549755811888 549755815888) (pieceW 0 (549755812888, 549755814888)) t_e4m) := .part 1 549755811888 549755815888 [(549755811888, 549755812887), (549755812888, 549755814888), (549755814889, 549755815888)] (by decide) (by decide) (by kernel_rfl) (cm g_e4m_1_0 (cm g_e4m_1_1 (cm g_e4m_1_2 (nm))))
theorem g_e4m : Good t_e4m := .part 0 549755811888 549755815888 [(549755811888, 549755812887), (549755812888, 549755814888), (549755814889, 549755815888)] (by decide) (by decide) (by kernel_rfl) (cm g_e4m_0 (cm g_e4m_1 (cm g_e4m_2 (nm))))
theorem L0 : AG l_L0 := ⟨g_e1, g_x1, g_e1p, g_e1m, trivial⟩
theorem L1 : AG l_L1 := ⟨g_e2, g_x2, g_e2p, g_x2p, g_e2m, g_x2m, trivial⟩
theorem L2 : AG l_L2 := ⟨g_e3, g_x3, g_e3p, g_x3p, g_e3m, g_x3m, trivial⟩
theorem L3 : AG l_L3 := ⟨g_e4, g_x4, g_e4p, g_x4p, g_e4m, g_x4m, trivial⟩
theorem L4 : AG l_L4 := ⟨g_e1, g_e1p, g_e1m, trivial⟩
theorem L5 : AG l_L5 := ⟨g_e2, g_e2p, g_e2m, trivial⟩
theorem L6 : AG l_L6 := ⟨g_e3, g_e3p, g_e3m, trivial⟩
theorem L7 : AG l_L7 := ⟨g_e4, g_e4p, g_e4m, trivial⟩
theorem n4 : G [(12292, 0, 0), (8252, 0, 0), (4099, 0, 0), (5, 0, 0)] := CoversG.ptsK 8 [16393] (by kernel_rfl) (by kernel_rfl) (.drewF (.tree _ c0) L0)
theorem n5 : G [(12292, 1, 1), (8252, 0, 0), (4099, 0, 0), (5, 0, 0)] := CoversG.ptsK 8 [16393, 20489] (by kernel_rfl) (by kernel_rfl) (.drewF (.tree _ c1) L1)
theorem n6 : G [(12292, 2, 2), (8252, 0, 0), (4099, 0, 0), (5, 0, 0)] := CoversG.ptsK 8 [16393, 20489, 24585] (by kernel_rfl) (by kernel_rfl) (.drewF (.tree _ c2) L2)
theorem n7 : G [(12292, 3, 3), (8252, 0, 0), (4099, 0, 0), (5, 0, 0)] := CoversG.ptsK 8 [16393, 20489, 24585, 28681] (by kernel_rfl) (by kernel_rfl) (.drewF (.tree _ c3) L3)
theorem n3 : G [(8252, 0, 0), (4099, 0, 0), (5, 0, 0)] := CoversG.part 12292 (by kernel_rfl) fun v hv => by
  have h : v = 0 ∨ v = 1 ∨ v = 2 ∨ v = 3 := by omega
  rcases h with rfl | rfl | rfl | rfl
  · exact n4
  · exact n5
  · exact n6
  · exact n7
theorem n9 : G [(12292, 0, 0), (8252, 1, 1), (4099, 0, 0), (5, 0, 0)] := CoversG.ptsK 8 [16393] (by kernel_rfl) (by kernel_rfl) (.drewF (.tree _ c4) L0)
theorem n10 : G [(12292, 1, 1), (8252, 1, 1), (4099, 0, 0), (5, 0, 0)] := CoversG.ptsK 8 [16393, 20489] (by kernel_rfl) (by kernel_rfl) (.drewF (.tree _ c5) L1)
theorem n11 : G [(12292, 2, 2), (8252, 1, 1), (4099, 0, 0), (5, 0, 0)] := CoversG.ptsK 8 [16393, 20489, 24585] (by kernel_rfl) (by kernel_rfl) (.drewF (.tree _ c6) L2)
theorem n12 : G [(12292, 3, 3), (8252, 1, 1), (4099, 0, 0), (5, 0, 0)] := CoversG.ptsK 8 [16393, 20489, 24585, 28681] (by kernel_rfl) (by kernel_rfl) (.drewF (.tree _ c7) L3)
theorem n8 : G [(8252, 1, 1), (4099, 0, 0), (5, 0, 0)] := CoversG.part 12292 (by kernel_rfl) fun v hv => by
  have h : v = 0 ∨ v = 1 ∨ v = 2 ∨ v = 3 := by omega
  rcases h with rfl | rfl | rfl | rfl
  · exact n9
  · exact n10
  · exact n11
  · exact n12
theorem n14 : G [(12292, 0, 0), (8252, 2, 59), (4099, 0, 0), (5, 0, 0)] := CoversG.ptsK 8 [16393] (by kernel_rfl) (by kernel_rfl) (.drewF (.tree _ c8) L0)
theorem n15 : G [(12292, 1, 1), (8252, 2, 59), (4099, 0, 0), (5, 0, 0)] := CoversG.ptsK 8 [16393, 20489] (by kernel_rfl) (by kernel_rfl) (.drewF (.tree _ c9) L1)
theorem n16 : G [(12292, 2, 2), (8252, 2, 59), (4099, 0, 0), (5, 0, 0)] := CoversG.ptsK 8 [16393, 20489, 24585] (by kernel_rfl) (by kernel_rfl) (.drewF (.tree _ c10) L2)
theorem n17 : G [(12292, 3, 3), (8252, 2, 59), (4099, 0, 0), (5, 0, 0)] := CoversG.ptsK 8 [16393, 20489, 24585, 28681] (by kernel_rfl) (by kernel_rfl) (.drewF (.tree _ c11) L3)
theorem n13 : G [(8252, 2, 59), (4099, 0, 0), (5, 0, 0)] := CoversG.part 12292 (by kernel_rfl) fun v hv => by
  have h : v = 0 ∨ v = 1 ∨ v = 2 ∨ v = 3 := by omega
  rcases h with rfl | rfl | rfl | rfl
  · exact n14
  · exact n15
  · exact n16
  · exact n17
theorem n2 : G [(4099, 0, 0), (5, 0, 0)] := CoversG.three 8252 (by kernel_rfl) (n3) (n8) (n13)
theorem n20 : G [(12292, 0, 0), (8252, 0, 0), (4099, 1, 1), (5, 0, 0)] := CoversG.ptsK 8 [16393] (by kernel_rfl) (by kernel_rfl) (.drewF (.tree _ c12) L0)
theorem n21 : G [(12292, 1, 1), (8252, 0, 0), (4099, 1, 1), (5, 0, 0)] := CoversG.ptsK 8 [16393, 20489] (by kernel_rfl) (by kernel_rfl) (.drewF (.tree _ c13) L1)
theorem n22 : G [(12292, 2, 2), (8252, 0, 0), (4099, 1, 1), (5, 0, 0)] := CoversG.ptsK 8 [16393, 20489, 24585] (by kernel_rfl) (by kernel_rfl) (.drewF (.tree _ c14) L2)
theorem n23 : G [(12292, 3, 3), (8252, 0, 0), (4099, 1, 1), (5, 0, 0)] := CoversG.ptsK 8 [16393, 20489, 24585, 28681] (by kernel_rfl) (by kernel_rfl) (.drewF (.tree _ c15) L3)
theorem n19 : G [(8252, 0, 0), (4099, 1, 1), (5, 0, 0)] := CoversG.part 12292 (by kernel_rfl) fun v hv => by
  have h : v = 0 ∨ v = 1 ∨ v = 2 ∨ v = 3 := by omega
  rcases h with rfl | rfl | rfl | rfl
  · exact n20
  · exact n21
  · exact n22
  · exact n23
theorem n25 : G [(12292, 0, 0), (8252, 1, 1), (4099, 1, 1), (5, 0, 0)] := CoversG.ptsK 8 [16393] (by kernel_rfl) (by kernel_rfl) (.drewF (.tree _ c16) L0)
theorem n26 : G [(12292, 1, 1), (8252, 1, 1), (4099, 1, 1), (5, 0, 0)] := CoversG.ptsK 8 [16393, 20489] (by kernel_rfl) (by kernel_rfl) (.drewF (.tree _ c17) L1)
theorem n27 : G [(12292, 2, 2), (8252, 1, 1), (4099, 1, 1), (5, 0, 0)] := CoversG.ptsK 8 [16393, 20489, 24585] (by kernel_rfl) (by kernel_rfl) (.drewF (.tree _ c18) L2)
theorem n28 : G [(12292, 3, 3), (8252, 1, 1), (4099, 1, 1), (5, 0, 0)] := CoversG.ptsK 8 [16393, 20489, 24585, 28681] (by kernel_rfl) (by kernel_rfl) (.drewF (.tree _ c19) L3)
theorem n24 : G [(8252, 1, 1), (4099, 1, 1), (5, 0, 0)] := CoversG.part 12292 (by kernel_rfl) fun v hv => by
  have h : v = 0 ∨ v = 1 ∨ v = 2 ∨ v = 3 := by omega
  rcases h with rfl | rfl | rfl | rfl
  · exact n25
  · exact n26
  · exact n27
  · exact n28
theorem n30 : G [(12292, 0, 0), (8252, 2, 59), (4099, 1, 1), (5, 0, 0)] := CoversG.ptsK 8 [16393] (by kernel_rfl) (by kernel_rfl) (.drewF (.tree _ c20) L0)
theorem n31 : G [(12292, 1, 1), (8252, 2, 59), (4099, 1, 1), (5, 0, 0)] := CoversG.ptsK 8 [16393, 20489] (by kernel_rfl) (by kernel_rfl) (.drewF (.tree _ c21) L1)
theorem n32 : G [(12292, 2, 2), (8252, 2, 59), (4099, 1, 1), (5, 0, 0)] := CoversG.ptsK 8 [16393, 20489, 24585] (by kernel_rfl) (by kernel_rfl) (.drewF (.tree _ c22) L2)
theorem n33 : G [(12292, 3, 3), (8252, 2, 59), (4099, 1, 1), (5, 0, 0)] := CoversG.ptsK 8 [16393, 20489, 24585, 28681] (by kernel_rfl) (by kernel_rfl) (.drewF (.tree _ c23) L3)
theorem n29 : G [(8252, 2, 59), (4099, 1, 1), (5, 0, 0)] := CoversG.part 12292 (by kernel_rfl) fun v hv => by
  have h : v = 0 ∨ v = 1 ∨ v = 2 ∨ v = 3 := by omega
  rcases h with rfl | rfl | rfl | rfl
  · exact n30
  · exact n31
  · exact n32
  · exact n33
theorem n18 : G [(4099, 1, 1), (5, 0, 0)] := CoversG.three 8252 (by kernel_rfl) (n19) (n24) (n29)
theorem n36 : G [(12292, 0, 0), (8252, 0, 0), (4099, 2, 2), (5, 0, 0)] := CoversG.ptsK 8 [16393] (by kernel_rfl) (by kernel_rfl) (.drewF (.tree _ c24) L0)
theorem n37 : G [(12292, 1, 1), (8252, 0, 0), (4099, 2, 2), (5, 0, 0)] := CoversG.ptsK 8 [16393, 20489] (by kernel_rfl) (by kernel_rfl) (.drewF (.tree _ c25) L1)
theorem n38 : G [(12292, 2, 2), (8252, 0, 0), (4099, 2, 2), (5, 0, 0)] := CoversG.ptsK 8 [16393, 20489, 24585] (by kernel_rfl) (by kernel_rfl) (.drewF (.tree _ c26) L2)
theorem n39 : G [(12292, 3, 3), (8252, 0, 0), (4099, 2, 2), (5, 0, 0)] := CoversG.ptsK 8 [16393, 20489, 24585, 28681] (by kernel_rfl) (by kernel_rfl) (.drewF (.tree _ c27) L3)
theorem n35 : G [(8252, 0, 0), (4099, 2, 2), (5, 0, 0)] := CoversG.part 12292 (by kernel_rfl) fun v hv => by
  have h : v = 0 ∨ v = 1 ∨ v = 2 ∨ v = 3 := by omega
  rcases h with rfl | rfl | rfl | rfl
  · exact n36
  · exact n37
  · exact n38
  · exact n39
theorem n41 : G [(12292, 0, 0), (8252, 1, 1), (4099, 2, 2), (5, 0, 0)] := CoversG.ptsK 8 [16393] (by kernel_rfl) (by kernel_rfl) (.drewF (.tree _ c28) L0)
theorem n42 : G [(12292, 1, 1), (8252, 1, 1), (4099, 2, 2), (5, 0, 0)] := CoversG.ptsK 8 [16393, 20489] (by kernel_rfl) (by kernel_rfl) (.drewF (.tree _ c29) L1)
theorem n43 : G [(12292, 2, 2), (8252, 1, 1), (4099, 2, 2), (5, 0, 0)] := CoversG.ptsK 8 [16393, 20489, 24585] (by kernel_rfl) (by kernel_rfl) (.drewF (.tree _ c30) L2)
theorem n44 : G [(12292, 3, 3), (8252, 1, 1), (4099, 2, 2), (5, 0, 0)] := CoversG.ptsK 8 [16393, 20489, 24585, 28681] (by kernel_rfl) (by kernel_rfl) (.drewF (.tree _ c31) L3)
theorem n40 : G [(8252, 1, 1), (4099, 2, 2), (5, 0, 0)] := CoversG.part 12292 (by kernel_rfl) fun v hv => by
  have h : v = 0 ∨ v = 1 ∨ v = 2 ∨ v = 3 := by omega
  rcases h with rfl | rfl | rfl | rfl
  · exact n41
  · exact n42
  · exact n43
  · exact n44
theorem n46 : G [(12292, 0, 0), (8252, 2, 59), (4099, 2, 2), (5, 0, 0)] := CoversG.ptsK 8 [16393] (by kernel_rfl) (by kernel_rfl) (.drewF (.tree _ c32) L0)
theorem n47 : G [(12292, 1, 1), (8252, 2, 59), (4099, 2, 2), (5, 0, 0)] := CoversG.ptsK 8 [16393, 20489] (by kernel_rfl) (by kernel_rfl) (.drewF (.tree _ c33) L1)
theorem n48 : G [(12292, 2, 2), (8252, 2, 59), (4099, 2, 2), (5, 0, 0)] := CoversG.ptsK 8 [16393, 20489, 24585] (by kernel_rfl) (by kernel_rfl) (.drewF (.tree _ c34) L2)
theorem n49 : G [(12292, 3, 3), (8252, 2, 59), (4099, 2, 2), (5, 0, 0)] := CoversG.ptsK 8 [16393, 20489, 24585, 28681] (by kernel_rfl) (by kernel_rfl) (.drewF (.tree _ c35) L3)
theorem n45 : G [(8252, 2, 59), (4099, 2, 2), (5, 0, 0)] := CoversG.part 12292 (by kernel_rfl) fun v hv => by
  have h : v = 0 ∨ v = 1 ∨ v = 2 ∨ v = 3 := by omega
  rcases h with rfl | rfl | rfl | rfl
  · exact n46
  · exact n47
  · exact n48
  · exact n49
theorem n34 : G [(4099, 2, 2), (5, 0, 0)] := CoversG.three 8252 (by kernel_rfl) (n35) (n40) (n45)
theorem n1 : G [(5, 0, 0)] := CoversG.part 4099 (by kernel_rfl) fun v hv => by
  have h : v = 0 ∨ v = 1 ∨ v = 2 := by omega
  rcases h with rfl | rfl | rfl
  · exact n2
  · exact n18
  · exact n34
theorem n54 : G [(16388, 0, 0), (12348, 0, 0), (8195, 1000, 2), (4099, 0, 0), (5, 1, 1)] := CoversG.ptsK 8 [20489] (by kernel_rfl) (by kernel_rfl) (.drewF (.tree _ c36) L0)
theorem n55 : G [(16388, 1, 1), (12348, 0, 0), (8195, 1000, 2), (4099, 0, 0), (5, 1, 1)] := CoversG.ptsK 8 [20489, 24585] (by kernel_rfl) (by kernel_rfl) (.drewF (.tree _ c37) L1)
theorem n56 : G [(16388, 2, 2), (12348, 0, 0), (8195, 1000, 2), (4099, 0, 0), (5, 1, 1)] := CoversG.ptsK 8 [20489, 24585, 28681] (by kernel_rfl) (by kernel_rfl) (.drewF (.tree _ c38) L2)
theorem n57 : G [(16388, 3, 3), (12348, 0, 0), (8195, 1000, 2), (4099, 0, 0), (5, 1, 1)] := CoversG.ptsK 8 [20489, 24585, 28681, 32777] (by kernel_rfl) (by kernel_rfl) (.drewF (.tree _ c39) L3)
theorem n53 : G [(12348, 0, 0), (8195, 1000, 2), (4099, 0, 0), (5, 1, 1)] := CoversG.part 16388 (by kernel_rfl) fun v hv => by
  have h : v = 0 ∨ v = 1 ∨ v = 2 ∨ v = 3 := by omega
  rcases h with rfl | rfl | rfl | rfl
  · exact n54
  · exact n55
  · exact n56
  · exact n57
theorem n59 : G [(16388, 0, 0), (12348, 1, 1), (8195, 1000, 2), (4099, 0, 0), (5, 1, 1)] := CoversG.ptsK 8 [20489] (by kernel_rfl) (by kernel_rfl) (.drewF (.tree _ c40) L0)
theorem n60 : G [(16388, 1, 1), (12348, 1, 1), (8195, 1000, 2), (4099, 0, 0), (5, 1, 1)] := CoversG.ptsK 8 [20489, 24585] (by kernel_rfl) (by kernel_rfl) (.drewF (.tree _ c41) L1)
theorem n61 : G [(16388, 2, 2), (12348, 1, 1), (8195, 1000, 2), (4099, 0, 0), (5, 1, 1)] := CoversG.ptsK 8 [20489, 24585, 28681] (by kernel_rfl) (by kernel_rfl) (.drewF (.tree _ c42) L2)
theorem n62 : G [(16388, 3, 3), (12348, 1, 1), (8195, 1000, 2), (4099, 0, 0), (5, 1, 1)] := CoversG.ptsK 8 [20489, 24585, 28681, 32777] (by kernel_rfl) (by kernel_rfl) (.drewF (.tree _ c43) L3)
theorem n58 : G [(12348, 1, 1), (8195, 1000, 2), (4099, 0, 0), (5, 1, 1)] := CoversG.part 16388 (by kernel_rfl) fun v hv => by
  have h : v = 0 ∨ v = 1 ∨ v = 2 ∨ v = 3 := by omega
  rcases h with rfl | rfl | rfl | rfl
  · exact n59
  · exact n60
  · exact n61
  · exact n62
theorem n65 : G [(20484, 0, 0), (16386, 1, 1), (12348, 2, 59), (8195, 1000, 2), (4099, 0, 0), (5, 1, 1)] := CoversG.ptsK 8 [24585] (by kernel_rfl) (by kernel_rfl) (.drewF (.tree _ c45) L0)
theorem n66 : G [(20484, 1, 1), (16386, 1, 1), (12348, 2, 59), (8195, 1000, 2), (4099, 0, 0), (5, 1, 1)] := CoversG.ptsK 8 [24585, 28681] (by kernel_rfl) (by kernel_rfl) (.drewF (.tree _ c46) L1)
theorem n67 : G [(20484, 2, 2), (16386, 1, 1), (12348, 2, 59), (8195, 1000, 2), (4099, 0, 0), (5, 1, 1)] := CoversG.ptsK 8 [24585, 28681, 32777] (by kernel_rfl) (by kernel_rfl) (.drewF (.tree _ c47) L2)
theorem n68 : G [(20484, 3, 3), (16386, 1, 1), (12348, 2, 59), (8195, 1000, 2), (4099, 0, 0), (5, 1, 1)] := CoversG.ptsK 8 [24585, 28681, 32777, 36873] (by kernel_rfl) (by kernel_rfl) (.drewF (.tree _ c48) L3)
theorem n64 : G [(16386, 1, 1), (12348, 2, 59), (8195, 1000, 2), (4099, 0, 0), (5, 1, 1)] := CoversG.part 20484 (by kernel_rfl) fun v hv => by
  have h : v = 0 ∨ v = 1 ∨ v = 2 ∨ v = 3 := by omega
  rcases h with rfl | rfl | rfl | rfl
  · exact n65
  · exact n66
  · exact n67
  · exact n68
theorem n63 : G [(12348, 2, 59), (8195, 1000, 2), (4099, 0, 0), (5, 1, 1)] := CoversG.two 16386 (by kernel_rfl) (.drewF (.tree _ c44) L4) (n64)
theorem n52 : G [(8195, 1000, 2), (4099, 0, 0), (5, 1, 1)] := CoversG.three 12348 (by kernel_rfl) (n53) (n58) (n63)
theorem n51 : G [(4099, 0, 0), (5, 1, 1)] := CoversG.ptsK 0 [8195] (by kernel_rfl) (by kernel_rfl) (n52)
theorem n72 : G [(16388, 0, 0), (12348, 0, 0), (8197, 1000, 4), (4099, 1, 1), (5, 1, 1)] := CoversG.ptsK 8 [20489] (by kernel_rfl) (by kernel_rfl) (.drewF (.tree _ c49) L0)
theorem n73 : G [(16388, 1, 1), (12348, 0, 0), (8197, 1000, 4), (4099, 1, 1), (5, 1, 1)] := CoversG.ptsK 8 [20489, 24585] (by kernel_rfl) (by kernel_rfl) (.drewF (.tree _ c50) L1)
theorem n74 : G [(16388, 2, 2), (12348, 0, 0), (8197, 1000, 4), (4099, 1, 1), (5, 1, 1)] := CoversG.ptsK 8 [20489, 24585, 28681] (by kernel_rfl) (by kernel_rfl) (.drewF (.tree _ c51) L2)
theorem n75 : G [(16388, 3, 3), (12348, 0, 0), (8197, 1000, 4), (4099, 1, 1), (5, 1, 1)] := CoversG.ptsK 8 [20489, 24585, 28681, 32777] (by kernel_rfl) (by kernel_rfl) (.drewF (.tree _ c52) L3)
theorem n71 : G [(12348, 0, 0), (8197, 1000, 4), (4099, 1, 1), (5, 1, 1)] := CoversG.part 16388 (by kernel_rfl) fun v hv => by
  have h : v = 0 ∨ v = 1 ∨ v = 2 ∨ v = 3 := by omega
  rcases h with rfl | rfl | rfl | rfl
  · exact n72
  · exact n73
  · exact n74
  · exact n75
theorem n77 : G [(16388, 0, 0), (12348, 1, 1), (8197, 1000, 4), (4099, 1, 1), (5, 1, 1)] := CoversG.ptsK 8 [20489] (by kernel_rfl) (by kernel_rfl) (.drewF (.tree _ c53) L0)
theorem n78 : G [(16388, 1, 1), (12348, 1, 1), (8197, 1000, 4), (4099, 1, 1), (5, 1, 1)] := CoversG.ptsK 8 [20489, 24585] (by kernel_rfl) (by kernel_rfl) (.drewF (.tree _ c54) L1)
theorem n79 : G [(16388, 2, 2), (12348, 1, 1), (8197, 1000, 4), (4099, 1, 1), (5, 1, 1)] := CoversG.ptsK 8 [20489, 24585, 28681] (by kernel_rfl) (by kernel_rfl) (.drewF (.tree _ c55) L2)
theorem n80 : G [(16388, 3, 3), (12348, 1, 1), (8197, 1000, 4), (4099, 1, 1), (5, 1, 1)] := CoversG.ptsK 8 [20489, 24585, 28681, 32777] (by kernel_rfl) (by kernel_rfl) (.drewF (.tree _ c56) L3)
theorem n76 : G [(12348, 1, 1), (8197, 1000, 4), (4099, 1, 1), (5, 1, 1)] := CoversG.part 16388 (by kernel_rfl) fun v hv => by
  have h : v = 0 ∨ v = 1 ∨ v = 2 ∨ v = 3 := by omega
  rcases h with rfl | rfl | rfl | rfl
  · exact n77
  · exact n78
  · exact n79
  · exact n80
theorem n83 : G [(20484, 0, 0), (16386, 1, 1), (12348, 2, 59), (8197, 1000, 4), (4099, 1, 1), (5, 1, 1)] := CoversG.ptsK 8 [24585] (by kernel_rfl) (by kernel_rfl) (.drewF (.tree _ c58) L0)
theorem n84 : G [(20484, 1, 1), (16386, 1, 1), (12348, 2, 59), (8197, 1000, 4), (4099, 1, 1), (5, 1, 1)] := CoversG.ptsK 8 [24585, 28681] (by kernel_rfl) (by kernel_rfl) (.drewF (.tree _ c59) L1)
theorem n85 : G [(20484, 2, 2), (16386, 1, 1), (12348, 2, 59), (8197, 1000, 4), (4099, 1, 1), (5, 1, 1)] := CoversG.ptsK 8 [24585, 28681, 32777] (by kernel_rfl) (by kernel_rfl) (.drewF (.tree _ c60) L2)
theorem n86 : G [(20484, 3, 3), (16386, 1, 1), (12348, 2, 59), (8197, 1000, 4), (4099, 1, 1), (5, 1, 1)] := CoversG.ptsK 8 [24585, 28681, 32777, 36873] (by kernel_rfl) (by kernel_rfl) (.drewF (.tree _ c61) L3)
theorem n82 : G [(16386, 1, 1), (12348, 2, 59), (8197, 1000, 4), (4099, 1, 1), (5, 1, 1)] := CoversG.part 20484 (by kernel_rfl) fun v hv => by
  have h : v = 0 ∨ v = 1 ∨ v = 2 ∨ v = 3 := by omega
  rcases h with rfl | rfl | rfl | rfl
  · exact n83
  · exact n84
  · exact n85
  · exact n86
theorem n81 : G [(12348, 2, 59), (8197, 1000, 4), (4099, 1, 1), (5, 1, 1)] := CoversG.two 16386 (by kernel_rfl) (.drewF (.tree _ c57) L4) (n82)
theorem n70 : G [(8197, 1000, 4), (4099, 1, 1), (5, 1, 1)] := CoversG.three 12348 (by kernel_rfl) (n71) (n76) (n81)
theorem n69 : G [(4099, 1, 1), (5, 1, 1)] := CoversG.ptsK 0 [8197] (by kernel_rfl) (by kernel_rfl) (n70)
theorem n90 : G [(16388, 0, 0), (12348, 0, 0), (8199, 1000, 6), (4099, 2, 2), (5, 1, 1)] := CoversG.ptsK 8 [20489] (by kernel_rfl) (by kernel_rfl) (.drewF (.tree _ c62) L0)
theorem n91 : G [(16388, 1, 1), (12348, 0, 0), (8199, 1000, 6), (4099, 2, 2), (5, 1, 1)] := CoversG.ptsK 8 [20489, 24585] (by kernel_rfl) (by kernel_rfl) (.drewF (.tree _ c63) L1)
theorem n92 : G [(16388, 2, 2), (12348, 0, 0), (8199, 1000, 6), (4099, 2, 2), (5, 1, 1)] := CoversG.ptsK 8 [20489, 24585, 28681] (by kernel_rfl) (by kernel_rfl) (.drewF (.tree _ c64) L2)
theorem n93 : G [(16388, 3, 3), (12348, 0, 0), (8199, 1000, 6), (4099, 2, 2), (5, 1, 1)] := CoversG.ptsK 8 [20489, 24585, 28681, 32777] (by kernel_rfl) (by kernel_rfl) (.drewF (.tree _ c65) L3)
theorem n89 : G [(12348, 0, 0), (8199, 1000, 6), (4099, 2, 2), (5, 1, 1)] := CoversG.part 16388 (by kernel_rfl) fun v hv => by
  have h : v = 0 ∨ v = 1 ∨ v = 2 ∨ v = 3 := by omega
  rcases h with rfl | rfl | rfl | rfl
  · exact n90
  · exact n91
  · exact n92
  · exact n93
theorem n95 : G [(16388, 0, 0), (12348, 1, 1), (8199, 1000, 6), (4099, 2, 2), (5, 1, 1)] := CoversG.ptsK 8 [20489] (by kernel_rfl) (by kernel_rfl) (.drewF (.tree _ c66) L0)
theorem n96 : G [(16388, 1, 1), (12348, 1, 1), (8199, 1000, 6), (4099, 2, 2), (5, 1, 1)] := CoversG.ptsK 8 [20489, 24585] (by kernel_rfl) (by kernel_rfl) (.drewF (.tree _ c67) L1)
theorem n97 : G [(16388, 2, 2), (12348, 1, 1), (8199, 1000, 6), (4099, 2, 2), (5, 1, 1)] := CoversG.ptsK 8 [20489, 24585, 28681] (by kernel_rfl) (by kernel_rfl) (.drewF (.tree _ c68) L2)
theorem n98 : G [(16388, 3, 3), (12348, 1, 1), (8199, 1000, 6), (4099, 2, 2), (5, 1, 1)] := CoversG.ptsK 8 [20489, 24585, 28681, 32777] (by kernel_rfl) (by kernel_rfl) (.drewF (.tree _ c69) L3)
theorem n94 : G [(12348, 1, 1), (8199, 1000, 6), (4099, 2, 2), (5, 1, 1)] := CoversG.part 16388 (by kernel_rfl) fun v hv => by
  have h : v = 0 ∨ v = 1 ∨ v = 2 ∨ v = 3 := by omega
  rcases h with rfl | rfl | rfl | rfl
  · exact n95
  · exact n96
  · exact n97
  · exact n98
theorem n101 : G [(20484, 0, 0), (16386, 1, 1), (12348, 2, 59), (8199, 1000, 6), (4099, 2, 2), (5, 1, 1)] := CoversG.ptsK 8 [24585] (by kernel_rfl) (by kernel_rfl) (.drewF (.tree _ c71) L0)
theorem n102 : G [(20484, 1, 1), (16386, 1, 1), (12348, 2, 59), (8199, 1000, 6), (4099, 2, 2), (5, 1, 1)] := CoversG.ptsK 8 [24585, 28681] (by kernel_rfl) (by kernel_rfl) (.drewF (.tree _ c72) L1)
theorem n103 : G [(20484, 2, 2), (16386, 1, 1), (12348, 2, 59), (8199, 1000, 6), (4099, 2, 2), (5, 1, 1)] := CoversG.ptsK 8 [24585, 28681, 32777] (by kernel_rfl) (by kernel_rfl) (.drewF (.tree _ c73) L2)
theorem n104 : G [(20484, 3, 3), (16386, 1, 1), (12348, 2, 59), (8199, 1000, 6), (4099, 2, 2), (5, 1, 1)] := CoversG.ptsK 8 [24585, 28681, 32777, 36873] (by kernel_rfl) (by kernel_rfl) (.drewF (.tree _ c74) L3)
theorem n100 : G [(16386, 1, 1), (12348, 2, 59), (8199, 1000, 6), (4099, 2, 2), (5, 1, 1)] := CoversG.part 20484 (by kernel_rfl) fun v hv => by
  have h : v = 0 ∨ v = 1 ∨ v = 2 ∨ v = 3 := by omega
  rcases h with rfl | rfl | rfl | rfl
  · exact n101
  · exact n102
  · exact n103
  · exact n104
theorem n99 : G [(12348, 2, 59), (8199, 1000, 6), (4099, 2, 2), (5, 1, 1)] := CoversG.two 16386 (by kernel_rfl) (.drewF (.tree _ c70) L4) (n100)
theorem n88 : G [(8199, 1000, 6), (4099, 2, 2), (5, 1, 1)] := CoversG.three 12348 (by kernel_rfl) (n89) (n94) (n99)
theorem n87 : G [(4099, 2, 2), (5, 1, 1)] := CoversG.ptsK 0 [8199] (by kernel_rfl) (by kernel_rfl) (n88)
theorem n50 : G [(5, 1, 1)] := CoversG.part 4099 (by kernel_rfl) fun v hv => by
  have h : v = 0 ∨ v = 1 ∨ v = 2 := by omega
  rcases h with rfl | rfl | rfl
  · exact n51
  · exact n69
  · exact n87
theorem n109 : G [(20484, 0, 0), (16444, 0, 0), (8195, 1000, 2), (12291, 1001, 2), (4099, 0, 0), (5, 2, 2)] := CoversG.ptsK 8 [24585] (by kernel_rfl) (by kernel_rfl) (.drewF (.tree _ c75) L0)
theorem n110 : G [(20484, 1, 1), (16444, 0, 0), (8195, 1000, 2), (12291, 1001, 2), (4099, 0, 0), (5, 2, 2)] := CoversG.ptsK 8 [24585, 28681] (by kernel_rfl) (by kernel_rfl) (.drewF (.tree _ c76) L1)
theorem n111 : G [(20484, 2, 2), (16444, 0, 0), (8195, 1000, 2), (12291, 1001, 2), (4099, 0, 0), (5, 2, 2)] := CoversG.ptsK 8 [24585, 28681, 32777] (by kernel_rfl) (by kernel_rfl) (.drewF (.tree _ c77) L2)
theorem n112 : G [(20484, 3, 3), (16444, 0, 0), (8195, 1000, 2), (12291, 1001, 2), (4099, 0, 0), (5, 2, 2)] := CoversG.ptsK 8 [24585, 28681, 32777, 36873] (by kernel_rfl) (by kernel_rfl) (.drewF (.tree _ c78) L3)
theorem n108 : G [(16444, 0, 0), (8195, 1000, 2), (12291, 1001, 2), (4099, 0, 0), (5, 2, 2)] := CoversG.part 20484 (by kernel_rfl) fun v hv => by
  have h : v = 0 ∨ v = 1 ∨ v = 2 ∨ v = 3 := by omega
  rcases h with rfl | rfl | rfl | rfl
  · exact n109
  · exact n110
  · exact n111
  · exact n112
theorem n114 : G [(20484, 0, 0), (16444, 1, 1), (8195, 1000, 2), (12291, 1001, 2), (4099, 0, 0), (5, 2, 2)] := CoversG.ptsK 8 [24585] (by kernel_rfl) (by kernel_rfl) (.drewF (.tree _ c79) L0)
theorem n115 : G [(20484, 1, 1), (16444, 1, 1), (8195, 1000, 2), (12291, 1001, 2), (4099, 0, 0), (5, 2, 2)] := CoversG.ptsK 8 [24585, 28681] (by kernel_rfl) (by kernel_rfl) (.drewF (.tree _ c80) L1)
theorem n116 : G [(20484, 2, 2), (16444, 1, 1), (8195, 1000, 2), (12291, 1001, 2), (4099, 0, 0), (5, 2, 2)] := CoversG.ptsK 8 [24585, 28681, 32777] (by kernel_rfl) (by kernel_rfl) (.drewF (.tree _ c81) L2)
theorem n117 : G [(20484, 3, 3), (16444, 1, 1), (8195, 1000, 2), (12291, 1001, 2), (4099, 0, 0), (5, 2, 2)] := CoversG.ptsK 8 [24585, 28681, 32777, 36873] (by kernel_rfl) (by kernel_rfl) (.drewF (.tree _ c82) L3)
theorem n113 : G [(16444, 1, 1), (8195, 1000, 2), (12291, 1001, 2), (4099, 0, 0), (5, 2, 2)] := CoversG.part 20484 (by kernel_rfl) fun v hv => by
  have h : v = 0 ∨ v = 1 ∨ v = 2 ∨ v = 3 := by omega
  rcases h with rfl | rfl | rfl | rfl
  · exact n114
  · exact n115
  · exact n116
  · exact n117
theorem n120 : G [(24580, 0, 0), (20482, 1, 1), (16444, 2, 59), (8195, 1000, 2), (12291, 1001, 2), (4099, 0, 0), (5, 2, 2)] := CoversG.ptsK 8 [28681] (by kernel_rfl) (by kernel_rfl) (.drewF (.tree _ c84) L0)
theorem n121 : G [(24580, 1, 1), (20482, 1, 1), (16444, 2, 59), (8195, 1000, 2), (12291, 1001, 2), (4099, 0, 0), (5, 2, 2)] := CoversG.ptsK 8 [28681, 32777] (by kernel_rfl) (by kernel_rfl) (.drewF (.tree _ c85) L1)
theorem n122 : G [(24580, 2, 2), (20482, 1, 1), (16444, 2, 59), (8195, 1000, 2), (12291, 1001, 2), (4099, 0, 0), (5, 2, 2)] := CoversG.ptsK 8 [28681, 32777, 36873] (by kernel_rfl) (by kernel_rfl) (.drewF (.tree _ c86) L2)
theorem n123 : G [(24580, 3, 3), (20482, 1, 1), (16444, 2, 59), (8195, 1000, 2), (12291, 1001, 2), (4099, 0, 0), (5, 2, 2)] := CoversG.ptsK 8 [28681, 32777, 36873, 40969] (by kernel_rfl) (by kernel_rfl) (.drewF (.tree _ c87) L3)
theorem n119 : G [(20482, 1, 1), (16444, 2, 59), (8195, 1000, 2), (12291, 1001, 2), (4099, 0, 0), (5, 2, 2)] := CoversG.part 24580 (by kernel_rfl) fun v hv => by
  have h : v = 0 ∨ v = 1 ∨ v = 2 ∨ v = 3 := by omega
  rcases h with rfl | rfl | rfl | rfl
  · exact n120
  · exact n121
  · exact n122
  · exact n123
theorem n118 : G [(16444, 2, 59), (8195, 1000, 2), (12291, 1001, 2), (4099, 0, 0), (5, 2, 2)] := CoversG.two 20482 (by kernel_rfl) (.drewF (.tree _ c83) L5) (n119)
theorem n107 : G [(8195, 1000, 2), (12291, 1001, 2), (4099, 0, 0), (5, 2, 2)] := CoversG.three 16444 (by kernel_rfl) (n108) (n113) (n118)
theorem n106 : G [(4099, 0, 0), (5, 2, 2)] := CoversG.ptsK 0 [8195, 12291] (by kernel_rfl) (by kernel_rfl) (n107)
theorem n127 : G [(20484, 0, 0), (16444, 0, 0), (8197, 1000, 4), (12293, 1001, 4), (4099, 1, 1), (5, 2, 2)] := CoversG.ptsK 8 [24585] (by kernel_rfl) (by kernel_rfl) (.drewF (.tree _ c88) L0)
theorem n128 : G [(20484, 1, 1), (16444, 0, 0), (8197, 1000, 4), (12293, 1001, 4), (4099, 1, 1), (5, 2, 2)] := CoversG.ptsK 8 [24585, 28681] (by kernel_rfl) (by kernel_rfl) (.drewF (.tree _ c89) L1)
theorem n129 : G [(20484, 2, 2), (16444, 0, 0), (8197, 1000, 4), (12293, 1001, 4), (4099, 1, 1), (5, 2, 2)] := CoversG.ptsK 8 [24585, 28681, 32777] (by kernel_rfl) (by kernel_rfl) (.drewF (.tree _ c90) L2)
theorem n130 : G [(20484, 3, 3), (16444, 0, 0), (8197, 1000, 4), (12293, 1001, 4), (4099, 1, 1), (5, 2, 2)] := CoversG.ptsK 8 [24585, 28681, 32777, 36873] (by kernel_rfl) (by kernel_rfl) (.drewF (.tree _ c91) L3)
theorem n126 : G [(16444, 0, 0), (8197, 1000, 4), (12293, 1001, 4), (4099, 1, 1), (5, 2, 2)] := CoversG.part 20484 (by kernel_rfl) fun v hv => by
  have h : v = 0 ∨ v = 1 ∨ v = 2 ∨ v = 3 := by omega
  rcases h with rfl | rfl | rfl | rfl
  · exact n127
  · exact n128
  · exact n129
  · exact n130
theorem n132 : G [(20484, 0, 0), (16444, 1, 1), (8197, 1000, 4), (12293, 1001, 4), (4099, 1, 1), (5, 2, 2)] := CoversG.ptsK 8 [24585] (by kernel_rfl) (by kernel_rfl) (.drewF (.tree _ c92) L0)
theorem n133 : G [(20484, 1, 1), (16444, 1, 1), (8197, 1000, 4), (12293, 1001, 4), (4099, 1, 1), (5, 2, 2)] := CoversG.ptsK 8 [24585, 28681] (by kernel_rfl) (by kernel_rfl) (.drewF (.tree _ c93) L1)
theorem n134 : G [(20484, 2, 2), (16444, 1, 1), (8197, 1000, 4), (12293, 1001, 4), (4099, 1, 1), (5, 2, 2)] := CoversG.ptsK 8 [24585, 28681, 32777] (by kernel_rfl) (by kernel_rfl) (.drewF (.tree _ c94) L2)
theorem n135 : G [(20484, 3, 3), (16444, 1, 1), (8197, 1000, 4), (12293, 1001, 4), (4099, 1, 1), (5, 2, 2)] := CoversG.ptsK 8 [24585, 28681, 32777, 36873] (by kernel_rfl) (by kernel_rfl) (.drewF (.tree _ c95) L3)
theorem n131 : G [(16444, 1, 1), (8197, 1000, 4), (12293, 1001, 4), (4099, 1, 1), (5, 2, 2)] := CoversG.part 20484 (by kernel_rfl) fun v hv => by
  have h : v = 0 ∨ v = 1 ∨ v = 2 ∨ v = 3 := by omega
  rcases h with rfl | rfl | rfl | rfl
  · exact n132
  · exact n133
  · exact n134
  · exact n135
theorem n138 : G [(24580, 0, 0), (20482, 1, 1), (16444, 2, 59), (8197, 1000, 4), (12293, 1001, 4), (4099, 1, 1), (5, 2, 2)] := CoversG.ptsK 8 [28681] (by kernel_rfl) (by kernel_rfl) (.drewF (.tree _ c97) L0)
theorem n139 : G [(24580, 1, 1), (20482, 1, 1), (16444, 2, 59), (8197, 1000, 4), (12293, 1001, 4), (4099, 1, 1), (5, 2, 2)] := CoversG.ptsK 8 [28681, 32777] (by kernel_rfl) (by kernel_rfl) (.drewF (.tree _ c98) L1)
theorem n140 : G [(24580, 2, 2), (20482, 1, 1), (16444, 2, 59), (8197, 1000, 4), (12293, 1001, 4), (4099, 1, 1), (5, 2, 2)] := CoversG.ptsK 8 [28681, 32777, 36873] (by kernel_rfl) (by kernel_rfl) (.drewF (.tree _ c99) L2)
theorem n141 : G [(24580, 3, 3), (20482, 1, 1), (16444, 2, 59), (8197, 1000, 4), (12293, 1001, 4), (4099, 1, 1), (5, 2, 2)] := CoversG.ptsK 8 [28681, 32777, 36873, 40969] (by kernel_rfl) (by kernel_rfl) (.drewF (.tree _ c100) L3)
theorem n137 : G [(20482, 1, 1), (16444, 2, 59), (8197, 1000, 4), (12293, 1001, 4), (4099, 1, 1), (5, 2, 2)] := CoversG.part 24580 (by kernel_rfl) fun v hv => by
  have h : v = 0 ∨ v = 1 ∨ v = 2 ∨ v = 3 := by omega
  rcases h with rfl | rfl | rfl | rfl
  · exact n138
  · exact n139
  · exact n140
  · exact n141
theorem n136 : G [(16444, 2, 59), (8197, 1000, 4), (12293, 1001, 4), (4099, 1, 1), (5, 2, 2)] := CoversG.two 20482 (by kernel_rfl) (.drewF (.tree _ c96) L5) (n137)
theorem n125 : G [(8197, 1000, 4), (12293, 1001, 4), (4099, 1, 1), (5, 2, 2)] := CoversG.three 16444 (by kernel_rfl) (n126) (n131) (n136)
theorem n124 : G [(4099, 1, 1), (5, 2, 2)] := CoversG.ptsK 0 [8197, 12293] (by kernel_rfl) (by kernel_rfl) (n125)
theorem n145 : G [(20484, 0, 0), (16444, 0, 0), (8199, 1000, 6), (12295, 1001, 6), (4099, 2, 2), (5, 2, 2)] := CoversG.ptsK 8 [24585] (by kernel_rfl) (by kernel_rfl) (.drewF (.tree _ c101) L0)
theorem n146 : G [(20484, 1, 1), (16444, 0, 0), (8199, 1000, 6), (12295, 1001, 6), (4099, 2, 2), (5, 2, 2)] := CoversG.ptsK 8 [24585, 28681] (by kernel_rfl) (by kernel_rfl) (.drewF (.tree _ c102) L1)
theorem n147 : G [(20484, 2, 2), (16444, 0, 0), (8199, 1000, 6), (12295, 1001, 6), (4099, 2, 2), (5, 2, 2)] := CoversG.ptsK 8 [24585, 28681, 32777] (by kernel_rfl) (by kernel_rfl) (.drewF (.tree _ c103) L2)
theorem n148 : G [(20484, 3, 3), (16444, 0, 0), (8199, 1000, 6), (12295, 1001, 6), (4099, 2, 2), (5, 2, 2)] := CoversG.ptsK 8 [24585, 28681, 32777, 36873] (by kernel_rfl) (by kernel_rfl) (.drewF (.tree _ c104) L3)
theorem n144 : G [(16444, 0, 0), (8199, 1000, 6), (12295, 1001, 6), (4099, 2, 2), (5, 2, 2)] := CoversG.part 20484 (by kernel_rfl) fun v hv => by
  have h : v = 0 ∨ v = 1 ∨ v = 2 ∨ v = 3 := by omega
  rcases h with rfl | rfl | rfl | rfl
  · exact n145
  · exact n146
  · exact n147
  · exact n148
theorem n150 : G [(20484, 0, 0), (16444, 1, 1), (8199, 1000, 6), (12295, 1001, 6), (4099, 2, 2), (5, 2, 2)] := CoversG.ptsK 8 [24585] (by kernel_rfl) (by kernel_rfl) (.drewF (.tree _ c105) L0)
theorem n151 : G [(20484, 1, 1), (16444, 1, 1), (8199, 1000, 6), (12295, 1001, 6), (4099, 2, 2), (5, 2, 2)] := CoversG.ptsK 8 [24585, 28681] (by kernel_rfl) (by kernel_rfl) (.drewF (.tree _ c106) L1)
theorem n152 : G [(20484, 2, 2), (16444, 1, 1), (8199, 1000, 6), (12295, 1001, 6), (4099, 2, 2), (5, 2, 2)] := CoversG.ptsK 8 [24585, 28681, 32777] (by kernel_rfl) (by kernel_rfl) (.drewF (.tree _ c107) L2)
theorem n153 : G [(20484, 3, 3), (16444, 1, 1), (8199, 1000, 6), (12295, 1001, 6), (4099, 2, 2), (5, 2, 2)] := CoversG.ptsK 8 [24585, 28681, 32777, 36873] (by kernel_rfl) (by kernel_rfl) (.drewF (.tree _ c108) L3)
theorem n149 : G [(16444, 1, 1), (8199, 1000, 6), (12295, 1001, 6), (4099, 2, 2), (5, 2, 2)] := CoversG.part 20484 (by kernel_rfl) fun v hv => by
  have h : v = 0 ∨ v = 1 ∨ v = 2 ∨ v = 3 := by omega
  rcases h with rfl | rfl | rfl | rfl
  · exact n150
  · exact n151
  · exact n152
  · exact n153
theorem n156 : G [(24580, 0, 0), (20482, 1, 1), (16444, 2, 59), (8199, 1000, 6), (12295, 1001, 6), (4099, 2, 2), (5, 2, 2)] := CoversG.ptsK 8 [28681] (by kernel_rfl) (by kernel_rfl) (.drewF (.tree _ c110) L0)
theorem n157 : G [(24580, 1, 1), (20482, 1, 1), (16444, 2, 59), (8199, 1000, 6), (12295, 1001, 6), (4099, 2, 2), (5, 2, 2)] := CoversG.ptsK 8 [28681, 32777] (by kernel_rfl) (by kernel_rfl) (.drewF (.tree _ c111) L1)
theorem n158 : G [(24580, 2, 2), (20482, 1, 1), (16444, 2, 59), (8199, 1000, 6), (12295, 1001, 6), (4099, 2, 2), (5, 2, 2)] := CoversG.ptsK 8 [28681, 32777, 36873] (by kernel_rfl) (by kernel_rfl) (.drewF (.tree _ c112) L2)
theorem n159 : G [(24580, 3, 3), (20482, 1, 1), (16444, 2, 59), (8199, 1000, 6), (12295, 1001, 6), (4099, 2, 2), (5, 2, 2)] := CoversG.ptsK 8 [28681, 32777, 36873, 40969] (by kernel_rfl) (by kernel_rfl) (.drewF (.tree _ c113) L3)
theorem n155 : G [(20482, 1, 1), (16444, 2, 59), (8199, 1000, 6), (12295, 1001, 6), (4099, 2, 2), (5, 2, 2)] := CoversG.part 24580 (by kernel_rfl) fun v hv => by
  have h : v = 0 ∨ v = 1 ∨ v = 2 ∨ v = 3 := by omega
  rcases h with rfl | rfl | rfl | rfl
  · exact n156
  · exact n157
  · exact n158
  · exact n159
theorem n154 : G [(16444, 2, 59), (8199, 1000, 6), (12295, 1001, 6), (4099, 2, 2), (5, 2, 2)] := CoversG.two 20482 (by kernel_rfl) (.drewF (.tree _ c109) L5) (n155)
theorem n143 : G [(8199, 1000, 6), (12295, 1001, 6), (4099, 2, 2), (5, 2, 2)] := CoversG.three 16444 (by kernel_rfl) (n144) (n149) (n154)
theorem n142 : G [(4099, 2, 2), (5, 2, 2)] := CoversG.ptsK 0 [8199, 12295] (by kernel_rfl) (by kernel_rfl) (n143)
theorem n105 : G [(5, 2, 2)] := CoversG.part 4099 (by kernel_rfl) fun v hv => by
  have h : v = 0 ∨ v = 1 ∨ v = 2 := by omega
  rcases h with rfl | rfl | rfl
  · exact n106
  · exact n124
  · exact n142
theorem n164 : G [(24580, 0, 0), (20540, 0, 0), (8195, 1000, 2), (12291, 1001, 2), (16387, 1002, 2), (4099, 0, 0), (5, 3, 3)] := CoversG.ptsK 8 [28681] (by kernel_rfl) (by kernel_rfl) (.drewF (.tree _ c114) L0)
theorem n165 : G [(24580, 1, 1), (20540, 0, 0), (8195, 1000, 2), (12291, 1001, 2), (16387, 1002, 2), (4099, 0, 0), (5, 3, 3)] := CoversG.ptsK 8 [28681, 32777] (by kernel_rfl) (by kernel_rfl) (.drewF (.tree _ c115) L1)
theorem n166 : G [(24580, 2, 2), (20540, 0, 0), (8195, 1000, 2), (12291, 1001, 2), (16387, 1002, 2), (4099, 0, 0), (5, 3, 3)] := CoversG.ptsK 8 [28681, 32777, 36873] (by kernel_rfl) (by kernel_rfl) (.drewF (.tree _ c116) L2)
theorem n167 : G [(24580, 3, 3), (20540, 0, 0), (8195, 1000, 2), (12291, 1001, 2), (16387, 1002, 2), (4099, 0, 0), (5, 3, 3)] := CoversG.ptsK 8 [28681, 32777, 36873, 40969] (by kernel_rfl) (by kernel_rfl) (.drewF (.tree _ c117) L3)
theorem n163 : G [(20540, 0, 0), (8195, 1000, 2), (12291, 1001, 2), (16387, 1002, 2), (4099, 0, 0), (5, 3, 3)] := CoversG.part 24580 (by kernel_rfl) fun v hv => by
  have h : v = 0 ∨ v = 1 ∨ v = 2 ∨ v = 3 := by omega
  rcases h with rfl | rfl | rfl | rfl
  · exact n164
  · exact n165
  · exact n166
  · exact n167
theorem n169 : G [(24580, 0, 0), (20540, 1, 1), (8195, 1000, 2), (12291, 1001, 2), (16387, 1002, 2), (4099, 0, 0), (5, 3, 3)] := CoversG.ptsK 8 [28681] (by kernel_rfl) (by kernel_rfl) (.drewF (.tree _ c118) L0)
theorem n170 : G [(24580, 1, 1), (20540, 1, 1), (8195, 1000, 2), (12291, 1001, 2), (16387, 1002, 2), (4099, 0, 0), (5, 3, 3)] := CoversG.ptsK 8 [28681, 32777] (by kernel_rfl) (by kernel_rfl) (.drewF (.tree _ c119) L1)
theorem n171 : G [(24580, 2, 2), (20540, 1, 1), (8195, 1000, 2), (12291, 1001, 2), (16387, 1002, 2), (4099, 0, 0), (5, 3, 3)] := CoversG.ptsK 8 [28681, 32777, 36873] (by kernel_rfl) (by kernel_rfl) (.drewF (.tree _ c120) L2)
theorem n172 : G [(24580, 3, 3), (20540, 1, 1), (8195, 1000, 2), (12291, 1001, 2), (16387, 1002, 2), (4099, 0, 0), (5, 3, 3)] := CoversG.ptsK 8 [28681, 32777, 36873, 40969] (by kernel_rfl) (by kernel_rfl) (.drewF (.tree _ c121) L3)
theorem n168 : G [(20540, 1, 1), (8195, 1000, 2), (12291, 1001, 2), (16387, 1002, 2), (4099, 0, 0), (5, 3, 3)] := CoversG.part 24580 (by kernel_rfl) fun v hv => by
  have h : v = 0 ∨ v = 1 ∨ v = 2 ∨ v = 3 := by omega
  rcases h with rfl | rfl | rfl | rfl
  · exact n169
  · exact n170
  · exact n171
  · exact n172
theorem n175 : G [(28676, 0, 0), (24578, 1, 1), (20540, 2, 59), (8195, 1000, 2), (12291, 1001, 2), (16387, 1002, 2), (4099, 0, 0), (5, 3, 3)] := CoversG.ptsK 8 [32777] (by kernel_rfl) (by kernel_rfl) (.drewF (.tree _ c123) L0)
theorem n176 : G [(28676, 1, 1), (24578, 1, 1), (20540, 2, 59), (8195, 1000, 2), (12291, 1001, 2), (16387, 1002, 2), (4099, 0, 0), (5, 3, 3)] := CoversG.ptsK 8 [32777, 36873] (by kernel_rfl) (by kernel_rfl) (.drewF (.tree _ c124) L1)
theorem n177 : G [(28676, 2, 2), (24578, 1, 1), (20540, 2, 59), (8195, 1000, 2), (12291, 1001, 2), (16387, 1002, 2), (4099, 0, 0), (5, 3, 3)] := CoversG.ptsK 8 [32777, 36873, 40969] (by kernel_rfl) (by kernel_rfl) (.drewF (.tree _ c125) L2)
theorem n178 : G [(28676, 3, 3), (24578, 1, 1), (20540, 2, 59), (8195, 1000, 2), (12291, 1001, 2), (16387, 1002, 2), (4099, 0, 0), (5, 3, 3)] := CoversG.ptsK 8 [32777, 36873, 40969, 45065] (by kernel_rfl) (by kernel_rfl) (.drewF (.tree _ c126) L3)
theorem n174 : G [(24578, 1, 1), (20540, 2, 59), (8195, 1000, 2), (12291, 1001, 2), (16387, 1002, 2), (4099, 0, 0), (5, 3, 3)] := CoversG.part 28676 (by kernel_rfl) fun v hv => by
  have h : v = 0 ∨ v = 1 ∨ v = 2 ∨ v = 3 := by omega
  rcases h with rfl | rfl | rfl | rfl
  · exact n175
  · exact n176
  · exact n177
  · exact n178
theorem n173 : G [(20540, 2, 59), (8195, 1000, 2), (12291, 1001, 2), (16387, 1002, 2), (4099, 0, 0), (5, 3, 3)] := CoversG.two 24578 (by kernel_rfl) (.drewF (.tree _ c122) L6) (n174)
theorem n162 : G [(8195, 1000, 2), (12291, 1001, 2), (16387, 1002, 2), (4099, 0, 0), (5, 3, 3)] := CoversG.three 20540 (by kernel_rfl) (n163) (n168) (n173)
theorem n161 : G [(4099, 0, 0), (5, 3, 3)] := CoversG.ptsK 0 [8195, 12291, 16387] (by kernel_rfl) (by kernel_rfl) (n162)
theorem n182 : G [(24580, 0, 0), (20540, 0, 0), (8197, 1000, 4), (12293, 1001, 4), (16389, 1002, 4), (4099, 1, 1), (5, 3, 3)] := CoversG.ptsK 8 [28681] (by kernel_rfl) (by kernel_rfl) (.drewF (.tree _ c127) L0)
theorem n183 : G [(24580, 1, 1), (20540, 0, 0), (8197, 1000, 4), (12293, 1001, 4), (16389, 1002, 4), (4099, 1, 1), (5, 3, 3)] := CoversG.ptsK 8 [28681, 32777] (by kernel_rfl) (by kernel_rfl) (.drewF (.tree _ c128) L1)
theorem n184 : G [(24580, 2, 2), (20540, 0, 0), (8197, 1000, 4), (12293, 1001, 4), (16389, 1002, 4), (4099, 1, 1), (5, 3, 3)] := CoversG.ptsK 8 [28681, 32777, 36873] (by kernel_rfl) (by kernel_rfl) (.drewF (.tree _ c129) L2)
theorem n185 : G [(24580, 3, 3), (20540, 0, 0), (8197, 1000, 4), (12293, 1001, 4), (16389, 1002, 4), (4099, 1, 1), (5, 3, 3)] := CoversG.ptsK 8 [28681, 32777, 36873, 40969] (by kernel_rfl) (by kernel_rfl) (.drewF (.tree _ c130) L3)
theorem n181 : G [(20540, 0, 0), (8197, 1000, 4), (12293, 1001, 4), (16389, 1002, 4), (4099, 1, 1), (5, 3, 3)] := CoversG.part 24580 (by kernel_rfl) fun v hv => by
  have h : v = 0 ∨ v = 1 ∨ v = 2 ∨ v = 3 := by omega
  rcases h with rfl | rfl | rfl | rfl
  · exact n182
  · exact n183
  · exact n184
  · exact n185
theorem n187 : G [(24580, 0, 0), (20540, 1, 1), (8197, 1000, 4), (12293, 1001, 4), (16389, 1002, 4), (4099, 1, 1), (5, 3, 3)] := CoversG.ptsK 8 [28681] (by kernel_rfl) (by kernel_rfl) (.drewF (.tree _ c131) L0)
theorem n188 : G [(24580, 1, 1), (20540, 1, 1), (8197, 1000, 4), (12293, 1001, 4), (16389, 1002, 4), (4099, 1, 1), (5, 3, 3)] := CoversG.ptsK 8 [28681, 32777] (by kernel_rfl) (by kernel_rfl) (.drewF (.tree _ c132) L1)
theorem n189 : G [(24580, 2, 2), (20540, 1, 1), (8197, 1000, 4), (12293, 1001, 4), (16389, 1002, 4), (4099, 1, 1), (5, 3, 3)] := CoversG.ptsK 8 [28681, 32777, 36873] (by kernel_rfl) (by kernel_rfl) (.drewF (.tree _ c133) L2)
theorem n190 : G [(24580, 3, 3), (20540, 1, 1), (8197, 1000, 4), (12293, 1001, 4), (16389, 1002, 4), (4099, 1, 1), (5, 3, 3)] := CoversG.ptsK 8 [28681, 32777, 36873, 40969] (by kernel_rfl) (by kernel_rfl) (.drewF (.tree _ c134) L3)
theorem n186 : G [(20540, 1, 1), (8197, 1000, 4), (12293, 1001, 4), (16389, 1002, 4), (4099, 1, 1), (5, 3, 3)] := CoversG.part 24580 (by kernel_rfl) fun v hv => by
  have h : v = 0 ∨ v = 1 ∨ v = 2 ∨ v = 3 := by omega
  rcases h with rfl | rfl | rfl | rfl
  · exact n187
  · exact n188
  · exact n189
  · exact n190
theorem n193 : G [(28676, 0, 0), (24578, 1, 1), (20540, 2, 59), (8197, 1000, 4), (12293, 1001, 4), (16389, 1002, 4), (4099, 1, 1), (5, 3, 3)] := CoversG.ptsK 8 [32777] (by kernel_rfl) (by kernel_rfl) (.drewF (.tree _ c136) L0)
theorem n194 : G [(28676, 1, 1), (24578, 1, 1), (20540, 2, 59), (8197, 1000, 4), (12293, 1001, 4), (16389, 1002, 4), (4099, 1, 1), (5, 3, 3)] := CoversG.ptsK 8 [32777, 36873] (by kernel_rfl) (by kernel_rfl) (.drewF (.tree _ c137) L1)
theorem n195 : G [(28676, 2, 2), (24578, 1, 1), (20540, 2, 59), (8197, 1000, 4), (12293, 1001, 4), (16389, 1002, 4), (4099, 1, 1), (5, 3, 3)] := CoversG.ptsK 8 [32777, 36873, 40969] (by kernel_rfl) (by kernel_rfl) (.drewF (.tree _ c138) L2)
theorem n196 : G [(28676, 3, 3), (24578, 1, 1), (20540, 2, 59), (8197, 1000, 4), (12293, 1001, 4), (16389, 1002, 4), (4099, 1, 1), (5, 3, 3)] := CoversG.ptsK 8 [32777, 36873, 40969, 45065] (by kernel_rfl) (by kernel_rfl) (.drewF (.tree _ c139) L3)
theorem n192 : G [(24578, 1, 1), (20540, 2, 59), (8197, 1000, 4), (12293, 1001, 4), (16389, 1002, 4), (4099, 1, 1), (5, 3, 3)] := CoversG.part 28676 (by kernel_rfl) fun v hv => by
  have h : v = 0 ∨ v = 1 ∨ v = 2 ∨ v = 3 := by omega
  rcases h with rfl | rfl | rfl | rfl
  · exact n193
  · exact n194
  · exact n195
  · exact n196
theorem n191 : G [(20540, 2, 59), (8197, 1000, 4), (12293, 1001, 4), (16389, 1002, 4), (4099, 1, 1), (5, 3, 3)] := CoversG.two 24578 (by kernel_rfl) (.drewF (.tree _ c135) L6) (n192)
theorem n180 : G [(8197, 1000, 4), (12293, 1001, 4), (16389, 1002, 4), (4099, 1, 1), (5, 3, 3)] := CoversG.three 20540 (by kernel_rfl) (n181) (n186) (n191)
theorem n179 : G [(4099, 1, 1), (5, 3, 3)] := CoversG.ptsK 0 [8197, 12293, 16389] (by kernel_rfl) (by kernel_rfl) (n180)
theorem n200 : G [(24580, 0, 0), (20540, 0, 0), (8199, 1000, 6), (12295, 1001, 6), (16391, 1002, 6), (4099, 2, 2), (5, 3, 3)] := CoversG.ptsK 8 [28681] (by kernel_rfl) (by kernel_rfl) (.drewF (.tree _ c140) L0)
theorem n201 : G [(24580, 1, 1), (20540, 0, 0), (8199, 1000, 6), (12295, 1001, 6), (16391, 1002, 6), (4099, 2, 2), (5, 3, 3)] := CoversG.ptsK 8 [28681, 32777] (by kernel_rfl) (by kernel_rfl) (.drewF (.tree _ c141) L1)
theorem n202 : G [(24580, 2, 2), (20540, 0, 0), (8199, 1000, 6), (12295, 1001, 6), (16391, 1002, 6), (4099, 2, 2), (5, 3, 3)] := CoversG.ptsK 8 [28681, 32777, 36873] (by kernel_rfl) (by kernel_rfl) (.drewF (.tree _ c142) L2)
theorem n203 : G [(24580, 3, 3), (20540, 0, 0), (8199, 1000, 6), (12295, 1001, 6), (16391, 1002, 6), (4099, 2, 2), (5, 3, 3)] := CoversG.ptsK 8 [28681, 32777, 36873, 40969] (by kernel_rfl) (by kernel_rfl) (.drewF (.tree _ c143) L3)
theorem n199 : G [(20540, 0, 0), (8199, 1000, 6), (12295, 1001, 6), (16391, 1002, 6), (4099, 2, 2), (5, 3, 3)] := CoversG.part 24580 (by kernel_rfl) fun v hv => by
  have h : v = 0 ∨ v = 1 ∨ v = 2 ∨ v = 3 := by omega
  rcases h with rfl | rfl | rfl | rfl
  · exact n200
  · exact n201
  · exact n202
  · exact n203
theorem n205 : G [(24580, 0, 0), (20540, 1, 1), (8199, 1000, 6), (12295, 1001, 6), (16391, 1002, 6), (4099, 2, 2), (5, 3, 3)] := CoversG.ptsK 8 [28681] (by kernel_rfl) (by kernel_rfl) (.drewF (.tree _ c144) L0)
theorem n206 : G [(24580, 1, 1), (20540, 1, 1), (8199, 1000, 6), (12295, 1001, 6), (16391, 1002, 6), (4099, 2, 2), (5, 3, 3)] := CoversG.ptsK 8 [28681, 32777] (by kernel_rfl) (by kernel_rfl) (.drewF (.tree _ c145) L1)
theorem n207 : G [(24580, 2, 2), (20540, 1, 1), (8199, 1000, 6), (12295, 1001, 6), (16391, 1002, 6), (4099, 2, 2), (5, 3, 3)] := CoversG.ptsK 8 [28681, 32777, 36873] (by kernel_rfl) (by kernel_rfl) (.drewF (.tree _ c146) L2)
theorem n208 : G [(24580, 3, 3), (20540, 1, 1), (8199, 1000, 6), (12295, 1001, 6), (16391, 1002, 6), (4099, 2, 2), (5, 3, 3)] := CoversG.ptsK 8 [28681, 32777, 36873, 40969] (by kernel_rfl) (by kernel_rfl) (.drewF (.tree _ c147) L3)
theorem n204 : G [(20540, 1, 1), (8199, 1000, 6), (12295, 1001, 6), (16391, 1002, 6), (4099, 2, 2), (5, 3, 3)] := CoversG.part 24580 (by kernel_rfl) fun v hv => by
  have h : v = 0 ∨ v = 1 ∨ v = 2 ∨ v = 3 := by omega
  rcases h with rfl | rfl | rfl | rfl
  · exact n205
  · exact n206
  · exact n207
  · exact n208
theorem n211 : G [(28676, 0, 0), (24578, 1, 1), (20540, 2, 59), (8199, 1000, 6), (12295, 1001, 6), (16391, 1002, 6), (4099, 2, 2), (5, 3, 3)] := CoversG.ptsK 8 [32777] (by kernel_rfl) (by kernel_rfl) (.drewF (.tree _ c149) L0)
theorem n212 : G [(28676, 1, 1), (24578, 1, 1), (20540, 2, 59), (8199, 1000, 6), (12295, 1001, 6), (16391, 1002, 6), (4099, 2, 2), (5, 3, 3)] := CoversG.ptsK 8 [32777, 36873] (by kernel_rfl) (by kernel_rfl) (.drewF (.tree _ c150) L1)
theorem n213 : G [(28676, 2, 2), (24578, 1, 1), (20540, 2, 59), (8199, 1000, 6), (12295, 1001, 6), (16391, 1002, 6), (4099, 2, 2), (5, 3, 3)] := CoversG.ptsK 8 [32777, 36873, 40969] (by kernel_rfl) (by kernel_rfl) (.drewF (.tree _ c151) L2)
theorem n214 : G [(28676, 3, 3), (24578, 1, 1), (20540, 2, 59), (8199, 1000, 6), (12295, 1001, 6), (16391, 1002, 6), (4099, 2, 2), (5, 3, 3)] := CoversG.ptsK 8 [32777, 36873, 40969, 45065] (by kernel_rfl) (by kernel_rfl) (.drewF (.tree _ c152) L3)
theorem n210 : G [(24578, 1, 1), (20540, 2, 59), (8199, 1000, 6), (12295, 1001, 6), (16391, 1002, 6), (4099, 2, 2), (5, 3, 3)] := CoversG.part 28676 (by kernel_rfl) fun v hv => by
  have h : v = 0 ∨ v = 1 ∨ v = 2 ∨ v = 3 := by omega
  rcases h with rfl | rfl | rfl | rfl
  · exact n211
  · exact n212
  · exact n213
  · exact n214
theorem n209 : G [(20540, 2, 59), (8199, 1000, 6), (12295, 1001, 6), (16391, 1002, 6), (4099, 2, 2), (5, 3, 3)] := CoversG.two 24578 (by kernel_rfl) (.drewF (.tree _ c148) L6) (n210)
theorem n198 : G [(8199, 1000, 6), (12295, 1001, 6), (16391, 1002, 6), (4099, 2, 2), (5, 3, 3)] := CoversG.three 20540 (by kernel_rfl) (n199) (n204) (n209)
theorem n197 : G [(4099, 2, 2), (5, 3, 3)] := CoversG.ptsK 0 [8199, 12295, 16391] (by kernel_rfl) (by kernel_rfl) (n198)
theorem n160 : G [(5, 3, 3)] := CoversG.part 4099 (by kernel_rfl) fun v hv => by
  have h : v = 0 ∨ v = 1 ∨ v = 2 := by omega
  rcases h with rfl | rfl | rfl
  · exact n161
  · exact n179
  · exact n197
theorem n219 : G [(28676, 0, 0), (24636, 0, 0), (8195, 1000, 2), (12291, 1001, 2), (16387, 1002, 2), (20483, 1003, 2), (4099, 0, 0), (5, 4, 4)] := CoversG.ptsK 8 [32777] (by kernel_rfl) (by kernel_rfl) (.drewF (.tree _ c153) L0)
theorem n220 : G [(28676, 1, 1), (24636, 0, 0), (8195, 1000, 2), (12291, 1001, 2), (16387, 1002, 2), (20483, 1003, 2), (4099, 0, 0), (5, 4, 4)] := CoversG.ptsK 8 [32777, 36873] (by kernel_rfl) (by kernel_rfl) (.drewF (.tree _ c154) L1)
theorem n221 : G [(28676, 2, 2), (24636, 0, 0), (8195, 1000, 2), (12291, 1001, 2), (16387, 1002, 2), (20483, 1003, 2), (4099, 0, 0), (5, 4, 4)] := CoversG.ptsK 8 [32777, 36873, 40969] (by kernel_rfl) (by kernel_rfl) (.drewF (.tree _ c155) L2)
theorem n222 : G [(28676, 3, 3), (24636, 0, 0), (8195, 1000, 2), (12291, 1001, 2), (16387, 1002, 2), (20483, 1003, 2), (4099, 0, 0), (5, 4, 4)] := CoversG.ptsK 8 [32777, 36873, 40969, 45065] (by kernel_rfl) (by kernel_rfl) (.drewF (.tree _ c156) L3)
theorem n218 : G [(24636, 0, 0), (8195, 1000, 2), (12291, 1001, 2), (16387, 1002, 2), (20483, 1003, 2), (4099, 0, 0), (5, 4, 4)] := CoversG.part 28676 (by kernel_rfl) fun v hv => by
  have h : v = 0 ∨ v = 1 ∨ v = 2 ∨ v = 3 := by omega
  rcases h with rfl | rfl | rfl | rfl
  · exact n219
  · exact n220
  · exact n221
  · exact n222
theorem n224 : G [(28676, 0, 0), (24636, 1, 1), (8195, 1000, 2), (12291, 1001, 2), (16387, 1002, 2), (20483, 1003, 2), (4099, 0, 0), (5, 4, 4)] := CoversG.ptsK 8 [32777] (by kernel_rfl) (by kernel_rfl) (.drewF (.tree _ c157) L0)
theorem n225 : G [(28676, 1, 1), (24636, 1, 1), (8195, 1000, 2), (12291, 1001, 2), (16387, 1002, 2), (20483, 1003, 2), (4099, 0, 0), (5, 4, 4)] := CoversG.ptsK 8 [32777, 36873] (by kernel_rfl) (by kernel_rfl) (.drewF (.tree _ c158) L1)
theorem n226 : G [(28676, 2, 2), (24636, 1, 1), (8195, 1000, 2), (12291, 1001, 2), (16387, 1002, 2), (20483, 1003, 2), (4099, 0, 0), (5, 4, 4)] := CoversG.ptsK 8 [32777, 36873, 40969] (by kernel_rfl) (by kernel_rfl) (.drewF (.tree _ c159) L2)
theorem n227 : G [(28676, 3, 3), (24636, 1, 1), (8195, 1000, 2), (12291, 1001, 2), (16387, 1002, 2), (20483, 1003, 2), (4099, 0, 0), (5, 4, 4)] := CoversG.ptsK 8 [32777, 36873, 40969, 45065] (by kernel_rfl) (by kernel_rfl) (.drewF (.tree _ c160) L3)
theorem n223 : G [(24636, 1, 1), (8195, 1000, 2), (12291, 1001, 2), (16387, 1002, 2), (20483, 1003, 2), (4099, 0, 0), (5, 4, 4)] := CoversG.part 28676 (by kernel_rfl) fun v hv => by
  have h : v = 0 ∨ v = 1 ∨ v = 2 ∨ v = 3 := by omega
  rcases h with rfl | rfl | rfl | rfl
  · exact n224
  · exact n225
  · exact n226
  · exact n227
theorem n230 : G [(32772, 0, 0), (28674, 1, 1), (24636, 2, 59), (8195, 1000, 2), (12291, 1001, 2), (16387, 1002, 2), (20483, 1003, 2), (4099, 0, 0), (5, 4, 4)] := CoversG.ptsK 8 [36873] (by kernel_rfl) (by kernel_rfl) (.drewF (.tree _ c162) L0)
theorem n231 : G [(32772, 1, 1), (28674, 1, 1), (24636, 2, 59), (8195, 1000, 2), (12291, 1001, 2), (16387, 1002, 2), (20483, 1003, 2), (4099, 0, 0), (5, 4, 4)] := CoversG.ptsK 8 [36873, 40969] (by kernel_rfl) (by kernel_rfl) (.drewF (.tree _ c163) L1)
theorem n232 : G [(32772, 2, 2), (28674, 1, 1), (24636, 2, 59), (8195, 1000, 2), (12291, 1001, 2), (16387, 1002, 2), (20483, 1003, 2), (4099, 0, 0), (5, 4, 4)] := CoversG.ptsK 8 [36873, 40969, 45065] (by kernel_rfl) (by kernel_rfl) (.drewF (.tree _ c164) L2)
theorem n233 : G [(32772, 3, 3), (28674, 1, 1), (24636, 2, 59), (8195, 1000, 2), (12291, 1001, 2), (16387, 1002, 2), (20483, 1003, 2), (4099, 0, 0), (5, 4, 4)] := CoversG.ptsK 8 [36873, 40969, 45065, 49161] (by kernel_rfl) (by kernel_rfl) (.drewF (.tree _ c165) L3)
theorem n229 : G [(28674, 1, 1), (24636, 2, 59), (8195, 1000, 2), (12291, 1001, 2), (16387, 1002, 2), (20483, 1003, 2), (4099, 0, 0), (5, 4, 4)] := CoversG.part 32772 (by kernel_rfl) fun v hv => by
  have h : v = 0 ∨ v = 1 ∨ v = 2 ∨ v = 3 := by omega
  rcases h with rfl | rfl | rfl | rfl
  · exact n230
  · exact n231
  · exact n232
  · exact n233
theorem n228 : G [(24636, 2, 59), (8195, 1000, 2), (12291, 1001, 2), (16387, 1002, 2), (20483, 1003, 2), (4099, 0, 0), (5, 4, 4)] := CoversG.two 28674 (by kernel_rfl) (.drewF (.tree _ c161) L7) (n229)
theorem n217 : G [(8195, 1000, 2), (12291, 1001, 2), (16387, 1002, 2), (20483, 1003, 2), (4099, 0, 0), (5, 4, 4)] := CoversG.three 24636 (by kernel_rfl) (n218) (n223) (n228)
theorem n216 : G [(4099, 0, 0), (5, 4, 4)] := CoversG.ptsK 0 [8195, 12291, 16387, 20483] (by kernel_rfl) (by kernel_rfl) (n217)
theorem n237 : G [(28676, 0, 0), (24636, 0, 0), (8197, 1000, 4), (12293, 1001, 4), (16389, 1002, 4), (20485, 1003, 4), (4099, 1, 1), (5, 4, 4)] := CoversG.ptsK 8 [32777] (by kernel_rfl) (by kernel_rfl) (.drewF (.tree _ c166) L0)
theorem n238 : G [(28676, 1, 1), (24636, 0, 0), (8197, 1000, 4), (12293, 1001, 4), (16389, 1002, 4), (20485, 1003, 4), (4099, 1, 1), (5, 4, 4)] := CoversG.ptsK 8 [32777, 36873] (by kernel_rfl) (by kernel_rfl) (.drewF (.tree _ c167) L1)
theorem n239 : G [(28676, 2, 2), (24636, 0, 0), (8197, 1000, 4), (12293, 1001, 4), (16389, 1002, 4), (20485, 1003, 4), (4099, 1, 1), (5, 4, 4)] := CoversG.ptsK 8 [32777, 36873, 40969] (by kernel_rfl) (by kernel_rfl) (.drewF (.tree _ c168) L2)
theorem n240 : G [(28676, 3, 3), (24636, 0, 0), (8197, 1000, 4), (12293, 1001, 4), (16389, 1002, 4), (20485, 1003, 4), (4099, 1, 1), (5, 4, 4)] := CoversG.ptsK 8 [32777, 36873, 40969, 45065] (by kernel_rfl) (by kernel_rfl) (.drewF (.tree _ c169) L3)
theorem n236 : G [(24636, 0, 0), (8197, 1000, 4), (12293, 1001, 4), (16389, 1002, 4), (20485, 1003, 4), (4099, 1, 1), (5, 4, 4)] := CoversG.part 28676 (by kernel_rfl) fun v hv => by
  have h : v = 0 ∨ v = 1 ∨ v = 2 ∨ v = 3 := by omega
  rcases h with rfl | rfl | rfl | rfl
  · exact n237
  · exact n238
  · exact n239
  · exact n240
theorem n242 : G [(28676, 0, 0), (24636, 1, 1), (8197, 1000, 4), (12293, 1001, 4), (16389, 1002, 4), (20485, 1003, 4), (4099, 1, 1), (5, 4, 4)] := CoversG.ptsK 8 [32777] (by kernel_rfl) (by kernel_rfl) (.drewF (.tree _ c170) L0)
theorem n243 : G [(28676, 1, 1), (24636, 1, 1), (8197, 1000, 4), (12293, 1001, 4), (16389, 1002, 4), (20485, 1003, 4), (4099, 1, 1), (5, 4, 4)] := CoversG.ptsK 8 [32777, 36873] (by kernel_rfl) (by kernel_rfl) (.drewF (.tree _ c171) L1)
theorem n244 : G [(28676, 2, 2), (24636, 1, 1), (8197, 1000, 4), (12293, 1001, 4), (16389, 1002, 4), (20485, 1003, 4), (4099, 1, 1), (5, 4, 4)] := CoversG.ptsK 8 [32777, 36873, 40969] (by kernel_rfl) (by kernel_rfl) (.drewF (.tree _ c172) L2)
theorem n245 : G [(28676, 3, 3), (24636, 1, 1), (8197, 1000, 4), (12293, 1001, 4), (16389, 1002, 4), (20485, 1003, 4), (4099, 1, 1), (5, 4, 4)] := CoversG.ptsK 8 [32777, 36873, 40969, 45065] (by kernel_rfl) (by kernel_rfl) (.drewF (.tree _ c173) L3)
theorem n241 : G [(24636, 1, 1), (8197, 1000, 4), (12293, 1001, 4), (16389, 1002, 4), (20485, 1003, 4), (4099, 1, 1), (5, 4, 4)] := CoversG.part 28676 (by kernel_rfl) fun v hv => by
  have h : v = 0 ∨ v = 1 ∨ v = 2 ∨ v = 3 := by omega
  rcases h with rfl | rfl | rfl | rfl
  · exact n242
  · exact n243
  · exact n244
  · exact n245
theorem n248 : G [(32772, 0, 0), (28674, 1, 1), (24636, 2, 59), (8197, 1000, 4), (12293, 1001, 4), (16389, 1002, 4), (20485, 1003, 4), (4099, 1, 1), (5, 4, 4)] := CoversG.ptsK 8 [36873] (by kernel_rfl) (by kernel_rfl) (.drewF (.tree _ c175) L0)
theorem n249 : G [(32772, 1, 1), (28674, 1, 1), (24636, 2, 59), (8197, 1000, 4), (12293, 1001, 4), (16389, 1002, 4), (20485, 1003, 4), (4099, 1, 1), (5, 4, 4)] := CoversG.ptsK 8 [36873, 40969] (by kernel_rfl) (by kernel_rfl) (.drewF (.tree _ c176) L1)
theorem n250 : G [(32772, 2, 2), (28674, 1, 1), (24636, 2, 59), (8197, 1000, 4), (12293, 1001, 4), (16389, 1002, 4), (20485, 1003, 4), (4099, 1, 1), (5, 4, 4)] := CoversG.ptsK 8 [36873, 40969, 45065] (by kernel_rfl) (by kernel_rfl) (.drewF (.tree _ c177) L2)
theorem n251 : G [(32772, 3, 3), (28674, 1, 1), (24636, 2, 59), (8197, 1000, 4), (12293, 1001, 4), (16389, 1002, 4), (20485, 1003, 4), (4099, 1, 1), (5, 4, 4)] := CoversG.ptsK 8 [36873, 40969, 45065, 49161] (by kernel_rfl) (by kernel_rfl) (.drewF (.tree _ c178) L3)
theorem n247 : G [(28674, 1, 1), (24636, 2, 59), (8197, 1000, 4), (12293, 1001, 4), (16389, 1002, 4), (20485, 1003, 4), (4099, 1, 1), (5, 4, 4)] := CoversG.part 32772 (by kernel_rfl) fun v hv => by
  have h : v = 0 ∨ v = 1 ∨ v = 2 ∨ v = 3 := by omega
  rcases h with rfl | rfl | rfl | rfl
  · exact n248
  · exact n249
  · exact n250
  · exact n251
theorem n246 : G [(24636, 2, 59), (8197, 1000, 4), (12293, 1001, 4), (16389, 1002, 4), (20485, 1003, 4), (4099, 1, 1), (5, 4, 4)] := CoversG.two 28674 (by kernel_rfl) (.drewF (.tree _ c174) L7) (n247)
theorem n235 : G [(8197, 1000, 4), (12293, 1001, 4), (16389, 1002, 4), (20485, 1003, 4), (4099, 1, 1), (5, 4, 4)] := CoversG.three 24636 (by kernel_rfl) (n236) (n241) (n246)
theorem n234 : G [(4099, 1, 1), (5, 4, 4)] := CoversG.ptsK 0 [8197, 12293, 16389, 20485] (by kernel_rfl) (by kernel_rfl) (n235)
theorem n255 : G [(28676, 0, 0), (24636, 0, 0), (8199, 1000, 6), (12295, 1001, 6), (16391, 1002, 6), (20487, 1003, 6), (4099, 2, 2), (5, 4, 4)] := CoversG.ptsK 8 [32777] (by kernel_rfl) (by kernel_rfl) (.drewF (.tree _ c179) L0)
theorem n256 : G [(28676, 1, 1), (24636, 0, 0), (8199, 1000, 6), (12295, 1001, 6), (16391, 1002, 6), (20487, 1003, 6), (4099, 2, 2), (5, 4, 4)] := CoversG.ptsK 8 [32777, 36873] (by kernel_rfl) (by kernel_rfl) (.drewF (.tree _ c180) L1)
theorem n257 : G [(28676, 2, 2), (24636, 0, 0), (8199, 1000, 6), (12295, 1001, 6), (16391, 1002, 6), (20487, 1003, 6), (4099, 2, 2), (5, 4, 4)] := CoversG.ptsK 8 [32777, 36873, 40969] (by kernel_rfl) (by kernel_rfl) (.drewF (.tree _ c181) L2)
theorem n258 : G [(28676, 3, 3), (24636, 0, 0), (8199, 1000, 6), (12295, 1001, 6), (16391, 1002, 6), (20487, 1003, 6), (4099, 2, 2), (5, 4, 4)] := CoversG.ptsK 8 [32777, 36873, 40969, 45065] (by kernel_rfl) (by kernel_rfl) (.drewF (.tree _ c182) L3)
theorem n254 : G [(24636, 0, 0), (8199, 1000, 6), (12295, 1001, 6), (16391, 1002, 6), (20487, 1003, 6), (4099, 2, 2), (5, 4, 4)] := CoversG.part 28676 (by kernel_rfl) fun v hv => by
  have h : v = 0 ∨ v = 1 ∨ v = 2 ∨ v = 3 := by omega
  rcases h with rfl | rfl | rfl | rfl
  · exact n255
  · exact n256
  · exact n257
  · exact n258
theorem n260 : G [(28676, 0, 0), (24636, 1, 1), (8199, 1000, 6), (12295, 1001, 6), (16391, 1002, 6), (20487, 1003, 6), (4099, 2, 2), (5, 4, 4)] := CoversG.ptsK 8 [32777] (by kernel_rfl) (by kernel_rfl) (.drewF (.tree _ c183) L0)
theorem n261 : G [(28676, 1, 1), (24636, 1, 1), (8199, 1000, 6), (12295, 1001, 6), (16391, 1002, 6), (20487, 1003, 6), (4099, 2, 2), (5, 4, 4)] := CoversG.ptsK 8 [32777, 36873] (by kernel_rfl) (by kernel_rfl) (.drewF (.tree _ c184) L1)
theorem n262 : G [(28676, 2, 2), (24636, 1, 1), (8199, 1000, 6), (12295, 1001, 6), (16391, 1002, 6), (20487, 1003, 6), (4099, 2, 2), (5, 4, 4)] := CoversG.ptsK 8 [32777, 36873, 40969] (by kernel_rfl) (by kernel_rfl) (.drewF (.tree _ c185) L2)
theorem n263 : G [(28676, 3, 3), (24636, 1, 1), (8199, 1000, 6), (12295, 1001, 6), (16391, 1002, 6), (20487, 1003, 6), (4099, 2, 2), (5, 4, 4)] := CoversG.ptsK 8 [32777, 36873, 40969, 45065] (by kernel_rfl) (by kernel_rfl) (.drewF (.tree _ c186) L3)
theorem n259 : G [(24636, 1, 1), (8199, 1000, 6), (12295, 1001, 6), (16391, 1002, 6), (20487, 1003, 6), (4099, 2, 2), (5, 4, 4)] := CoversG.part 28676 (by kernel_rfl) fun v hv => by
  have h : v = 0 ∨ v = 1 ∨ v = 2 ∨ v = 3 := by omega
  rcases h with rfl | rfl | rfl | rfl
  · exact n260
  · exact n261
  · exact n262
  · exact n263
theorem n266 : G [(32772, 0, 0), (28674, 1, 1), (24636, 2, 59), (8199, 1000, 6), (12295, 1001, 6), (16391, 1002, 6), (20487, 1003, 6), (4099, 2, 2), (5, 4, 4)] := CoversG.ptsK 8 [36873] (by kernel_rfl) (by kernel_rfl) (.drewF (.tree _ c188) L0)
theorem n267 : G [(32772, 1, 1), (28674, 1, 1), (24636, 2, 59), (8199, 1000, 6), (12295, 1001, 6), (16391, 1002, 6), (20487, 1003, 6), (4099, 2, 2), (5, 4, 4)] := CoversG.ptsK 8 [36873, 40969] (by kernel_rfl) (by kernel_rfl) (.drewF (.tree _ c189) L1)
theorem n268 : G [(32772, 2, 2), (28674, 1, 1), (24636, 2, 59), (8199, 1000, 6), (12295, 1001, 6), (16391, 1002, 6), (20487, 1003, 6), (4099, 2, 2), (5, 4, 4)] := CoversG.ptsK 8 [36873, 40969, 45065] (by kernel_rfl) (by kernel_rfl) (.drewF (.tree _ c190) L2)
theorem n269 : G [(32772, 3, 3), (28674, 1, 1), (24636, 2, 59), (8199, 1000, 6), (12295, 1001, 6), (16391, 1002, 6), (20487, 1003, 6), (4099, 2, 2), (5, 4, 4)] := CoversG.ptsK 8 [36873, 40969, 45065, 49161] (by kernel_rfl) (by kernel_rfl) (.drewF (.tree _ c191) L3)
theorem n265 : G [(28674, 1, 1), (24636, 2, 59), (8199, 1000, 6), (12295, 1001, 6), (16391, 1002, 6), (20487, 1003, 6), (4099, 2, 2), (5, 4, 4)] := CoversG.part 32772 (by kernel_rfl) fun v hv => by
  have h : v = 0 ∨ v = 1 ∨ v = 2 ∨ v = 3 := by omega
  rcases h with rfl | rfl | rfl | rfl
  · exact n266
  · exact n267
  · exact n268
  · exact n269
theorem n264 : G [(24636, 2, 59), (8199, 1000, 6), (12295, 1001, 6), (16391, 1002, 6), (20487, 1003, 6), (4099, 2, 2), (5, 4, 4)] := CoversG.two 28674 (by kernel_rfl) (.drewF (.tree _ c187) L7) (n265)
theorem n253 : G [(8199, 1000, 6), (12295, 1001, 6), (16391, 1002, 6), (20487, 1003, 6), (4099, 2, 2), (5, 4, 4)] := CoversG.three 24636 (by kernel_rfl) (n254) (n259) (n264)
theorem n252 : G [(4099, 2, 2), (5, 4, 4)] := CoversG.ptsK 0 [8199, 12295, 16391, 20487] (by kernel_rfl) (by kernel_rfl) (n253)
theorem n215 : G [(5, 4, 4)] := CoversG.part 4099 (by kernel_rfl) fun v hv => by
  have h : v = 0 ∨ v = 1 ∨ v = 2 := by omega
  rcases h with rfl | rfl | rfl
  · exact n216
  · exact n234
  · exact n252
theorem n0 : G [] := CoversG.part 5 (by kernel_rfl) fun v hv => by
  have h : v = 0 ∨ v = 1 ∨ v = 2 ∨ v = 3 ∨ v = 4 := by omega
  rcases h with rfl | rfl | rfl | rfl | rfl
  · exact n1
  · exact n50
  · exact n105
  · exact n160
  · exact n215
end Go.Proofs.Ytnobdifmnoehbab.fnRootBackRuns
