/- What is known of calls of the program at a seat. -/
import Derived.Test.YteapghgoiodoiaaDiagramH
namespace Go.Proofs.Yteapghgoiodoiaa.tabDiagram
open Go Go.Eng
set_option linter.unusedVariables false
set_option linter.unusedSectionVars false
set_option linter.unusedSimpArgs false
noncomputable def zS0_0 : Nat := 5784800237655953878877368326340059594769
noncomputable def zS0_1 : Nat := 5784800237655953878877368326340059594785
noncomputable def zS0_2 : Nat := 1968465517034375322200706745147694433511374539553545542549656296460863263473681
noncomputable def zS0_3 : Nat := 5784800237655953878877368326340059594801
noncomputable def zS0_4 : Nat := 11229318108390969294291362045248350978081
noncomputable def zS0_5 : Nat := 1968465517034375322200706745147694433511374539553545542549656296460863263473697
noncomputable def zS0_6 : Nat := 669834105338706146608743681702441434688324033114946968677321694617324964548963954933596071875593222190173539098689553
noncomputable def zS0_7 : Nat := 5784800237655953878877368326340059594817
noncomputable def zS0_8 : Nat := 11229318108390969294291362045248350978097
noncomputable def zS0_9 : Nat := 1968465517034375322200706745147694433511374539553545542549656296460863263473713
noncomputable def zS0_10 : Nat := 1968465517034375322200706745147694433516819057424280557965070290179771554856993
noncomputable def zS0_11 : Nat := 669834105338706146608743681702441434688324033114946968677321694617324964548963954933596071875593222190173539098689569
noncomputable def zS0_12 : Nat := 227932734809024150692758424969499384167819053055409393567909288224972429945938622638746810037514679965347866553719226819447412079678684911279545572202119185
noncomputable def zS0_13 : Nat := 77561490499577318716899917296904952523412817358034542970539031229257177226715334623655927185963223084461891692697043546920454790300897125935643108988996868019731321543803189062688406840394383377
noncomputable def zS0_14 : Nat := 227932734809024150692758424969499384167819053055409393567909288224972429945938622638746810037514679965347866553719226819447412079678684911279545572202119201
noncomputable def zS0_15 : Nat := 669834105338706146608743681702441434688324033114946968677321694617324964548969399451466806891008636183892447390072865
noncomputable def zS0_16 : Nat := 3821138944831434448977842505286700959169138812074529582596391634306381629095969
noncomputable def zS0_17 : Nat := 669834105338706146608743681702441434688324033114946968677321694617324964548963954933596071875593222190173539098689585
noncomputable def zS0_18 : Nat := 1968465517034375322200706745147694433516819057424280557965070290179771554857009
noncomputable def zS0_19 : Nat := 16673835979125984709705355764156642361393
noncomputable def zS0_20 : Nat := 1968465517034375322200706745147694433511374539553545542549656296460863263473729
noncomputable def zS0_21 : Nat := 11229318108390969294291362045248350978113
noncomputable def zS0_22 : Nat := 5784800237655953878877368326340059594833
set_option maxRecDepth 100000 in
theorem all_0 : isRes (.rows [(1, 17)]) (memoRun Try.prog noSums 1000 60 42 [.lit 17, .lit 97]) = true := by kernel_rfl
set_option maxRecDepth 100000 in
theorem all_1 : isRes (.rows [(1, 33), (2, zS0_0)]) (memoRun Try.prog noSums 1000 60 42 [.lit 33, .lit 97]) = true := by kernel_rfl
set_option maxRecDepth 100000 in
theorem all_2 : isRes (.rows [(1, 49), (2, zS0_1), (3, zS0_2)]) (memoRun Try.prog noSums 1000 60 42 [.lit 49, .lit 97]) = true := by kernel_rfl
set_option maxRecDepth 100000 in
theorem all_3 : isRes (.rows [(1, 65), (2, zS0_3), (2, zS0_4), (3, zS0_5), (4, zS0_6)]) (memoRun Try.prog noSums 1000 60 42 [.lit 65, .lit 97]) = true := by kernel_rfl
set_option maxRecDepth 100000 in
theorem all_4 : isRes (.rows [(1, 81), (2, zS0_7), (2, zS0_8), (3, zS0_9), (3, zS0_10), (4, zS0_11), (5, zS0_12)]) (memoRun Try.prog noSums 1000 60 42 [.lit 81, .lit 97]) = true := by kernel_rfl
noncomputable def alls : List Memo2 := [(42, [.lit 17, .lit 97], .rows [(1, 17)]), (42, [.lit 33, .lit 97], .rows [(1, 33), (2, zS0_0)]), (42, [.lit 49, .lit 97], .rows [(1, 49), (2, zS0_1), (3, zS0_2)]), (42, [.lit 65, .lit 97], .rows [(1, 65), (2, zS0_3), (2, zS0_4), (3, zS0_5), (4, zS0_6)]), (42, [.lit 81, .lit 97], .rows [(1, 81), (2, zS0_7), (2, zS0_8), (3, zS0_9), (3, zS0_10), (4, zS0_11), (5, zS0_12)])]
theorem alls_all : ∀ e ∈ alls, Memo2K Try.prog e := by
  unfold alls
  exact List.forall_mem_cons.2 ⟨memo2_of (noSums_always _) all_0, List.forall_mem_cons.2 ⟨memo2_of (noSums_always _) all_1, List.forall_mem_cons.2 ⟨memo2_of (noSums_always _) all_2, List.forall_mem_cons.2 ⟨memo2_of (noSums_always _) all_3, List.forall_mem_cons.2 ⟨memo2_of (noSums_always _) all_4, List.forall_mem_nil _⟩⟩⟩⟩⟩
noncomputable def allsS : Sums := onF 42 (memo2S alls)
theorem allsS_always : Always Try.prog allsS := onF_always (memo2S_always _ alls_all)
noncomputable def s1_0_0 : List Memo2 := [(44, [.row 1 1 17, .row 1 1 17], .lit 17)]
set_option maxRecDepth 100000 in
theorem s1_0_0_ok : allM Try.prog allsS s1_0_0 = true := by kernel_rfl
noncomputable def s1_1_0 : List Memo2 := [(44, [.row 1 2 zS0_0, .row 1 1 33], .lit 1)]
set_option maxRecDepth 100000 in
theorem s1_1_0_ok : allM Try.prog allsS s1_1_0 = true := by kernel_rfl
noncomputable def s1_2_0 : List Memo2 := [(44, [.row 1 3 zS0_2, .row 1 1 49], .lit 1)]
set_option maxRecDepth 100000 in
theorem s1_2_0_ok : allM Try.prog allsS s1_2_0 = true := by kernel_rfl
noncomputable def s1_3_0 : List Memo2 := [(44, [.row 1 4 zS0_6, .row 1 1 65], .lit 1)]
set_option maxRecDepth 100000 in
theorem s1_3_0_ok : allM Try.prog allsS s1_3_0 = true := by kernel_rfl
noncomputable def s1_4_0 : List Memo2 := [(44, [.row 1 5 zS0_12, .row 1 1 81], .lit 1)]
set_option maxRecDepth 100000 in
theorem s1_4_0_ok : allM Try.prog allsS s1_4_0 = true := by kernel_rfl
noncomputable def s1_5_0 : List Memo2 := [(44, [.row 1 6 zS0_13, .row 1 1 97], .lit 1)]
set_option maxRecDepth 100000 in
theorem s1_5_0_ok : allM Try.prog allsS s1_5_0 = true := by kernel_rfl
noncomputable def s1_6_0 : List Memo2 := [(44, [.row 1 1 33, .row 1 1 33], .lit 17)]
set_option maxRecDepth 100000 in
theorem s1_6_0_ok : allM Try.prog allsS s1_6_0 = true := by kernel_rfl
noncomputable def s1_7_0 : List Memo2 := [(44, [.row 1 2 zS0_1, .row 1 1 49], .lit 1)]
set_option maxRecDepth 100000 in
theorem s1_7_0_ok : allM Try.prog allsS s1_7_0 = true := by kernel_rfl
noncomputable def s1_8_0 : List Memo2 := [(44, [.row 1 3 zS0_5, .row 1 1 65], .lit 1)]
set_option maxRecDepth 100000 in
theorem s1_8_0_ok : allM Try.prog allsS s1_8_0 = true := by kernel_rfl
noncomputable def s1_9_0 : List Memo2 := [(44, [.row 1 4 zS0_11, .row 1 1 81], .lit 1)]
set_option maxRecDepth 100000 in
theorem s1_9_0_ok : allM Try.prog allsS s1_9_0 = true := by kernel_rfl
noncomputable def s1_10_0 : List Memo2 := [(44, [.row 1 5 zS0_14, .row 1 1 97], .lit 1)]
set_option maxRecDepth 100000 in
theorem s1_10_0_ok : allM Try.prog allsS s1_10_0 = true := by kernel_rfl
noncomputable def s1_11_0 : List Memo2 := [(44, [.row 1 2 zS0_4, .row 1 1 65], .lit 1)]
set_option maxRecDepth 100000 in
theorem s1_11_0_ok : allM Try.prog allsS s1_11_0 = true := by kernel_rfl
noncomputable def s1_12_0 : List Memo2 := [(44, [.row 1 3 zS0_10, .row 1 1 81], .lit 1)]
set_option maxRecDepth 100000 in
theorem s1_12_0_ok : allM Try.prog allsS s1_12_0 = true := by kernel_rfl
noncomputable def s1_13_0 : List Memo2 := [(44, [.row 1 4 zS0_15, .row 1 1 97], .lit 1)]
set_option maxRecDepth 100000 in
theorem s1_13_0_ok : allM Try.prog allsS s1_13_0 = true := by kernel_rfl
noncomputable def s1_14_0 : List Memo2 := [(44, [.row 1 3 zS0_16, .row 1 1 97], .lit 1)]
set_option maxRecDepth 100000 in
theorem s1_14_0_ok : allM Try.prog allsS s1_14_0 = true := by kernel_rfl
noncomputable def s1_15_0 : List Memo2 := [(44, [.row 1 1 49, .row 1 1 49], .lit 17)]
set_option maxRecDepth 100000 in
theorem s1_15_0_ok : allM Try.prog allsS s1_15_0 = true := by kernel_rfl
noncomputable def s1_16_0 : List Memo2 := [(44, [.row 1 2 zS0_3, .row 1 1 65], .lit 1)]
set_option maxRecDepth 100000 in
theorem s1_16_0_ok : allM Try.prog allsS s1_16_0 = true := by kernel_rfl
noncomputable def s1_17_0 : List Memo2 := [(44, [.row 1 3 zS0_9, .row 1 1 81], .lit 1)]
set_option maxRecDepth 100000 in
theorem s1_17_0_ok : allM Try.prog allsS s1_17_0 = true := by kernel_rfl
noncomputable def s1_18_0 : List Memo2 := [(44, [.row 1 4 zS0_17, .row 1 1 97], .lit 1)]
set_option maxRecDepth 100000 in
theorem s1_18_0_ok : allM Try.prog allsS s1_18_0 = true := by kernel_rfl
noncomputable def s1_19_0 : List Memo2 := [(44, [.row 1 2 zS0_8, .row 1 1 81], .lit 1)]
set_option maxRecDepth 100000 in
theorem s1_19_0_ok : allM Try.prog allsS s1_19_0 = true := by kernel_rfl
noncomputable def s1_20_0 : List Memo2 := [(44, [.row 1 3 zS0_18, .row 1 1 97], .lit 1)]
set_option maxRecDepth 100000 in
theorem s1_20_0_ok : allM Try.prog allsS s1_20_0 = true := by kernel_rfl
noncomputable def s1_21_0 : List Memo2 := [(44, [.row 1 2 zS0_19, .row 1 1 97], .lit 1)]
set_option maxRecDepth 100000 in
theorem s1_21_0_ok : allM Try.prog allsS s1_21_0 = true := by kernel_rfl
noncomputable def s1_22_0 : List Memo2 := [(44, [.row 1 1 65, .row 1 1 65], .lit 17)]
set_option maxRecDepth 100000 in
theorem s1_22_0_ok : allM Try.prog allsS s1_22_0 = true := by kernel_rfl
noncomputable def s1_23_0 : List Memo2 := [(44, [.row 1 2 zS0_7, .row 1 1 81], .lit 1)]
set_option maxRecDepth 100000 in
theorem s1_23_0_ok : allM Try.prog allsS s1_23_0 = true := by kernel_rfl
noncomputable def s1_24_0 : List Memo2 := [(44, [.row 1 3 zS0_20, .row 1 1 97], .lit 1)]
set_option maxRecDepth 100000 in
theorem s1_24_0_ok : allM Try.prog allsS s1_24_0 = true := by kernel_rfl
noncomputable def s1_25_0 : List Memo2 := [(44, [.row 1 2 zS0_21, .row 1 1 97], .lit 1)]
set_option maxRecDepth 100000 in
theorem s1_25_0_ok : allM Try.prog allsS s1_25_0 = true := by kernel_rfl
noncomputable def s1_26_0 : List Memo2 := [(44, [.row 1 1 81, .row 1 1 81], .lit 17)]
set_option maxRecDepth 100000 in
theorem s1_26_0_ok : allM Try.prog allsS s1_26_0 = true := by kernel_rfl
noncomputable def s1_27_0 : List Memo2 := [(44, [.row 1 2 zS0_22, .row 1 1 97], .lit 1)]
set_option maxRecDepth 100000 in
theorem s1_27_0_ok : allM Try.prog allsS s1_27_0 = true := by kernel_rfl
noncomputable def s1_28_0 : List Memo2 := [(44, [.row 1 1 97, .row 1 1 97], .lit 17)]
set_option maxRecDepth 100000 in
theorem s1_28_0_ok : allM Try.prog allsS s1_28_0 = true := by kernel_rfl
noncomputable def s1S : Sums := onF 44 (orS (preS (.row 1 1 17) (memo2S s1_0_0)) (orS (preS (.row 1 2 zS0_0) (memo2S s1_1_0)) (orS (preS (.row 1 3 zS0_2) (memo2S s1_2_0)) (orS (preS (.row 1 4 zS0_6) (memo2S s1_3_0)) (orS (preS (.row 1 5 zS0_12) (memo2S s1_4_0)) (orS (preS (.row 1 6 zS0_13) (memo2S s1_5_0)) (orS (preS (.row 1 1 33) (memo2S s1_6_0)) (orS (preS (.row 1 2 zS0_1) (memo2S s1_7_0)) (orS (preS (.row 1 3 zS0_5) (memo2S s1_8_0)) (orS (preS (.row 1 4 zS0_11) (memo2S s1_9_0)) (orS (preS (.row 1 5 zS0_14) (memo2S s1_10_0)) (orS (preS (.row 1 2 zS0_4) (memo2S s1_11_0)) (orS (preS (.row 1 3 zS0_10) (memo2S s1_12_0)) (orS (preS (.row 1 4 zS0_15) (memo2S s1_13_0)) (orS (preS (.row 1 3 zS0_16) (memo2S s1_14_0)) (orS (preS (.row 1 1 49) (memo2S s1_15_0)) (orS (preS (.row 1 2 zS0_3) (memo2S s1_16_0)) (orS (preS (.row 1 3 zS0_9) (memo2S s1_17_0)) (orS (preS (.row 1 4 zS0_17) (memo2S s1_18_0)) (orS (preS (.row 1 2 zS0_8) (memo2S s1_19_0)) (orS (preS (.row 1 3 zS0_18) (memo2S s1_20_0)) (orS (preS (.row 1 2 zS0_19) (memo2S s1_21_0)) (orS (preS (.row 1 1 65) (memo2S s1_22_0)) (orS (preS (.row 1 2 zS0_7) (memo2S s1_23_0)) (orS (preS (.row 1 3 zS0_20) (memo2S s1_24_0)) (orS (preS (.row 1 2 zS0_21) (memo2S s1_25_0)) (orS (preS (.row 1 1 81) (memo2S s1_26_0)) (orS (preS (.row 1 2 zS0_22) (memo2S s1_27_0)) (preS (.row 1 1 97) (memo2S s1_28_0))))))))))))))))))))))))))))))
theorem s1S_always : Always Try.prog s1S := onF_always (orS_always (preS_always (memo2S_always _ (allM_all allsS_always _ s1_0_0_ok))) (orS_always (preS_always (memo2S_always _ (allM_all allsS_always _ s1_1_0_ok))) (orS_always (preS_always (memo2S_always _ (allM_all allsS_always _ s1_2_0_ok))) (orS_always (preS_always (memo2S_always _ (allM_all allsS_always _ s1_3_0_ok))) (orS_always (preS_always (memo2S_always _ (allM_all allsS_always _ s1_4_0_ok))) (orS_always (preS_always (memo2S_always _ (allM_all allsS_always _ s1_5_0_ok))) (orS_always (preS_always (memo2S_always _ (allM_all allsS_always _ s1_6_0_ok))) (orS_always (preS_always (memo2S_always _ (allM_all allsS_always _ s1_7_0_ok))) (orS_always (preS_always (memo2S_always _ (allM_all allsS_always _ s1_8_0_ok))) (orS_always (preS_always (memo2S_always _ (allM_all allsS_always _ s1_9_0_ok))) (orS_always (preS_always (memo2S_always _ (allM_all allsS_always _ s1_10_0_ok))) (orS_always (preS_always (memo2S_always _ (allM_all allsS_always _ s1_11_0_ok))) (orS_always (preS_always (memo2S_always _ (allM_all allsS_always _ s1_12_0_ok))) (orS_always (preS_always (memo2S_always _ (allM_all allsS_always _ s1_13_0_ok))) (orS_always (preS_always (memo2S_always _ (allM_all allsS_always _ s1_14_0_ok))) (orS_always (preS_always (memo2S_always _ (allM_all allsS_always _ s1_15_0_ok))) (orS_always (preS_always (memo2S_always _ (allM_all allsS_always _ s1_16_0_ok))) (orS_always (preS_always (memo2S_always _ (allM_all allsS_always _ s1_17_0_ok))) (orS_always (preS_always (memo2S_always _ (allM_all allsS_always _ s1_18_0_ok))) (orS_always (preS_always (memo2S_always _ (allM_all allsS_always _ s1_19_0_ok))) (orS_always (preS_always (memo2S_always _ (allM_all allsS_always _ s1_20_0_ok))) (orS_always (preS_always (memo2S_always _ (allM_all allsS_always _ s1_21_0_ok))) (orS_always (preS_always (memo2S_always _ (allM_all allsS_always _ s1_22_0_ok))) (orS_always (preS_always (memo2S_always _ (allM_all allsS_always _ s1_23_0_ok))) (orS_always (preS_always (memo2S_always _ (allM_all allsS_always _ s1_24_0_ok))) (orS_always (preS_always (memo2S_always _ (allM_all allsS_always _ s1_25_0_ok))) (orS_always (preS_always (memo2S_always _ (allM_all allsS_always _ s1_26_0_ok))) (orS_always (preS_always (memo2S_always _ (allM_all allsS_always _ s1_27_0_ok))) (preS_always (memo2S_always _ (allM_all allsS_always _ s1_28_0_ok)))))))))))))))))))))))))))))))
noncomputable def s2_0_0 : List Memo2 := [(44, [.row 1 2 zS0_0, .row 1 2 zS0_0], .lit 17)]
set_option maxRecDepth 100000 in
theorem s2_0_0_ok : allM Try.prog (orS s1S allsS) s2_0_0 = true := by kernel_rfl
noncomputable def s2_1_0 : List Memo2 := [(44, [.row 1 3 zS0_2, .row 1 2 zS0_1], .lit 1)]
set_option maxRecDepth 100000 in
theorem s2_1_0_ok : allM Try.prog (orS s1S allsS) s2_1_0 = true := by kernel_rfl
noncomputable def s2_2_0 : List Memo2 := [(44, [.row 1 4 zS0_6, .row 1 2 zS0_4], .lit 1), (44, [.row 1 4 zS0_6, .row 1 2 zS0_3], .lit 1)]
set_option maxRecDepth 100000 in
theorem s2_2_0_ok : allM Try.prog (orS s1S allsS) s2_2_0 = true := by kernel_rfl
noncomputable def s2_3_0 : List Memo2 := [(44, [.row 1 5 zS0_12, .row 1 2 zS0_8], .lit 1), (44, [.row 1 5 zS0_12, .row 1 2 zS0_7], .lit 1)]
set_option maxRecDepth 100000 in
theorem s2_3_0_ok : allM Try.prog (orS s1S allsS) s2_3_0 = true := by kernel_rfl
noncomputable def s2_4_0 : List Memo2 := [(44, [.row 1 6 zS0_13, .row 1 2 zS0_19], .lit 1), (44, [.row 1 6 zS0_13, .row 1 2 zS0_21], .lit 1), (44, [.row 1 6 zS0_13, .row 1 2 zS0_22], .lit 1)]
set_option maxRecDepth 100000 in
theorem s2_4_0_ok : allM Try.prog (orS s1S allsS) s2_4_0 = true := by kernel_rfl
noncomputable def s2_5_0 : List Memo2 := [(44, [.row 1 1 33, .row 1 2 zS0_0], .lit 17)]
set_option maxRecDepth 100000 in
theorem s2_5_0_ok : allM Try.prog (orS s1S allsS) s2_5_0 = true := by kernel_rfl
noncomputable def s2_6_0 : List Memo2 := [(44, [.row 1 2 zS0_1, .row 1 2 zS0_1], .lit 17)]
set_option maxRecDepth 100000 in
theorem s2_6_0_ok : allM Try.prog (orS s1S allsS) s2_6_0 = true := by kernel_rfl
noncomputable def s2_7_0 : List Memo2 := [(44, [.row 1 3 zS0_5, .row 1 2 zS0_4], .lit 1), (44, [.row 1 3 zS0_5, .row 1 2 zS0_3], .lit 1)]
set_option maxRecDepth 100000 in
theorem s2_7_0_ok : allM Try.prog (orS s1S allsS) s2_7_0 = true := by kernel_rfl
noncomputable def s2_8_0 : List Memo2 := [(44, [.row 1 4 zS0_11, .row 1 2 zS0_8], .lit 1), (44, [.row 1 4 zS0_11, .row 1 2 zS0_7], .lit 1)]
set_option maxRecDepth 100000 in
theorem s2_8_0_ok : allM Try.prog (orS s1S allsS) s2_8_0 = true := by kernel_rfl
noncomputable def s2_9_0 : List Memo2 := [(44, [.row 1 5 zS0_14, .row 1 2 zS0_19], .lit 1), (44, [.row 1 5 zS0_14, .row 1 2 zS0_21], .lit 1), (44, [.row 1 5 zS0_14, .row 1 2 zS0_22], .lit 1)]
set_option maxRecDepth 100000 in
theorem s2_9_0_ok : allM Try.prog (orS s1S allsS) s2_9_0 = true := by kernel_rfl
noncomputable def s2_10_0 : List Memo2 := [(44, [.row 1 2 zS0_4, .row 1 2 zS0_4], .lit 17), (44, [.row 1 2 zS0_4, .row 1 2 zS0_3], .lit 1)]
set_option maxRecDepth 100000 in
theorem s2_10_0_ok : allM Try.prog (orS s1S allsS) s2_10_0 = true := by kernel_rfl
noncomputable def s2_11_0 : List Memo2 := [(44, [.row 1 3 zS0_10, .row 1 2 zS0_8], .lit 1), (44, [.row 1 3 zS0_10, .row 1 2 zS0_7], .lit 1)]
set_option maxRecDepth 100000 in
theorem s2_11_0_ok : allM Try.prog (orS s1S allsS) s2_11_0 = true := by kernel_rfl
noncomputable def s2_12_0 : List Memo2 := [(44, [.row 1 4 zS0_15, .row 1 2 zS0_19], .lit 1), (44, [.row 1 4 zS0_15, .row 1 2 zS0_21], .lit 1), (44, [.row 1 4 zS0_15, .row 1 2 zS0_22], .lit 1)]
set_option maxRecDepth 100000 in
theorem s2_12_0_ok : allM Try.prog (orS s1S allsS) s2_12_0 = true := by kernel_rfl
noncomputable def s2_13_0 : List Memo2 := [(44, [.row 1 3 zS0_16, .row 1 2 zS0_19], .lit 1), (44, [.row 1 3 zS0_16, .row 1 2 zS0_21], .lit 1), (44, [.row 1 3 zS0_16, .row 1 2 zS0_22], .lit 1)]
set_option maxRecDepth 100000 in
theorem s2_13_0_ok : allM Try.prog (orS s1S allsS) s2_13_0 = true := by kernel_rfl
noncomputable def s2_14_0 : List Memo2 := [(44, [.row 1 1 49, .row 1 2 zS0_1], .lit 17)]
set_option maxRecDepth 100000 in
theorem s2_14_0_ok : allM Try.prog (orS s1S allsS) s2_14_0 = true := by kernel_rfl
noncomputable def s2_15_0 : List Memo2 := [(44, [.row 1 2 zS0_3, .row 1 2 zS0_4], .lit 17), (44, [.row 1 2 zS0_3, .row 1 2 zS0_3], .lit 17)]
set_option maxRecDepth 100000 in
theorem s2_15_0_ok : allM Try.prog (orS s1S allsS) s2_15_0 = true := by kernel_rfl
noncomputable def s2_16_0 : List Memo2 := [(44, [.row 1 3 zS0_9, .row 1 2 zS0_8], .lit 1), (44, [.row 1 3 zS0_9, .row 1 2 zS0_7], .lit 1)]
set_option maxRecDepth 100000 in
theorem s2_16_0_ok : allM Try.prog (orS s1S allsS) s2_16_0 = true := by kernel_rfl
noncomputable def s2_17_0 : List Memo2 := [(44, [.row 1 4 zS0_17, .row 1 2 zS0_19], .lit 1), (44, [.row 1 4 zS0_17, .row 1 2 zS0_21], .lit 1), (44, [.row 1 4 zS0_17, .row 1 2 zS0_22], .lit 1)]
set_option maxRecDepth 100000 in
theorem s2_17_0_ok : allM Try.prog (orS s1S allsS) s2_17_0 = true := by kernel_rfl
noncomputable def s2_18_0 : List Memo2 := [(44, [.row 1 2 zS0_8, .row 1 2 zS0_8], .lit 17), (44, [.row 1 2 zS0_8, .row 1 2 zS0_7], .lit 1)]
set_option maxRecDepth 100000 in
theorem s2_18_0_ok : allM Try.prog (orS s1S allsS) s2_18_0 = true := by kernel_rfl
noncomputable def s2_19_0 : List Memo2 := [(44, [.row 1 3 zS0_18, .row 1 2 zS0_19], .lit 1), (44, [.row 1 3 zS0_18, .row 1 2 zS0_21], .lit 1), (44, [.row 1 3 zS0_18, .row 1 2 zS0_22], .lit 1)]
set_option maxRecDepth 100000 in
theorem s2_19_0_ok : allM Try.prog (orS s1S allsS) s2_19_0 = true := by kernel_rfl
noncomputable def s2_20_0 : List Memo2 := [(44, [.row 1 2 zS0_19, .row 1 2 zS0_19], .lit 17), (44, [.row 1 2 zS0_19, .row 1 2 zS0_21], .lit 1), (44, [.row 1 2 zS0_19, .row 1 2 zS0_22], .lit 1)]
set_option maxRecDepth 100000 in
theorem s2_20_0_ok : allM Try.prog (orS s1S allsS) s2_20_0 = true := by kernel_rfl
noncomputable def s2_21_0 : List Memo2 := [(44, [.row 1 1 65, .row 1 2 zS0_4], .lit 17), (44, [.row 1 1 65, .row 1 2 zS0_3], .lit 17)]
set_option maxRecDepth 100000 in
theorem s2_21_0_ok : allM Try.prog (orS s1S allsS) s2_21_0 = true := by kernel_rfl
noncomputable def s2_22_0 : List Memo2 := [(44, [.row 1 2 zS0_7, .row 1 2 zS0_8], .lit 17), (44, [.row 1 2 zS0_7, .row 1 2 zS0_7], .lit 17)]
set_option maxRecDepth 100000 in
theorem s2_22_0_ok : allM Try.prog (orS s1S allsS) s2_22_0 = true := by kernel_rfl
noncomputable def s2_23_0 : List Memo2 := [(44, [.row 1 3 zS0_20, .row 1 2 zS0_19], .lit 1), (44, [.row 1 3 zS0_20, .row 1 2 zS0_21], .lit 1), (44, [.row 1 3 zS0_20, .row 1 2 zS0_22], .lit 1)]
set_option maxRecDepth 100000 in
theorem s2_23_0_ok : allM Try.prog (orS s1S allsS) s2_23_0 = true := by kernel_rfl
noncomputable def s2_24_0 : List Memo2 := [(44, [.row 1 2 zS0_21, .row 1 2 zS0_19], .lit 17), (44, [.row 1 2 zS0_21, .row 1 2 zS0_21], .lit 17), (44, [.row 1 2 zS0_21, .row 1 2 zS0_22], .lit 1)]
set_option maxRecDepth 100000 in
theorem s2_24_0_ok : allM Try.prog (orS s1S allsS) s2_24_0 = true := by kernel_rfl
noncomputable def s2_25_0 : List Memo2 := [(44, [.row 1 1 81, .row 1 2 zS0_8], .lit 17), (44, [.row 1 1 81, .row 1 2 zS0_7], .lit 17)]
set_option maxRecDepth 100000 in
theorem s2_25_0_ok : allM Try.prog (orS s1S allsS) s2_25_0 = true := by kernel_rfl
noncomputable def s2_26_0 : List Memo2 := [(44, [.row 1 2 zS0_22, .row 1 2 zS0_19], .lit 17), (44, [.row 1 2 zS0_22, .row 1 2 zS0_21], .lit 17), (44, [.row 1 2 zS0_22, .row 1 2 zS0_22], .lit 17)]
set_option maxRecDepth 100000 in
theorem s2_26_0_ok : allM Try.prog (orS s1S allsS) s2_26_0 = true := by kernel_rfl
noncomputable def s2_27_0 : List Memo2 := [(44, [.row 1 1 97, .row 1 2 zS0_19], .lit 17), (44, [.row 1 1 97, .row 1 2 zS0_21], .lit 17), (44, [.row 1 1 97, .row 1 2 zS0_22], .lit 17)]
set_option maxRecDepth 100000 in
theorem s2_27_0_ok : allM Try.prog (orS s1S allsS) s2_27_0 = true := by kernel_rfl
noncomputable def s2S : Sums := onF 44 (orS (preS (.row 1 2 zS0_0) (memo2S s2_0_0)) (orS (preS (.row 1 3 zS0_2) (memo2S s2_1_0)) (orS (preS (.row 1 4 zS0_6) (memo2S s2_2_0)) (orS (preS (.row 1 5 zS0_12) (memo2S s2_3_0)) (orS (preS (.row 1 6 zS0_13) (memo2S s2_4_0)) (orS (preS (.row 1 1 33) (memo2S s2_5_0)) (orS (preS (.row 1 2 zS0_1) (memo2S s2_6_0)) (orS (preS (.row 1 3 zS0_5) (memo2S s2_7_0)) (orS (preS (.row 1 4 zS0_11) (memo2S s2_8_0)) (orS (preS (.row 1 5 zS0_14) (memo2S s2_9_0)) (orS (preS (.row 1 2 zS0_4) (memo2S s2_10_0)) (orS (preS (.row 1 3 zS0_10) (memo2S s2_11_0)) (orS (preS (.row 1 4 zS0_15) (memo2S s2_12_0)) (orS (preS (.row 1 3 zS0_16) (memo2S s2_13_0)) (orS (preS (.row 1 1 49) (memo2S s2_14_0)) (orS (preS (.row 1 2 zS0_3) (memo2S s2_15_0)) (orS (preS (.row 1 3 zS0_9) (memo2S s2_16_0)) (orS (preS (.row 1 4 zS0_17) (memo2S s2_17_0)) (orS (preS (.row 1 2 zS0_8) (memo2S s2_18_0)) (orS (preS (.row 1 3 zS0_18) (memo2S s2_19_0)) (orS (preS (.row 1 2 zS0_19) (memo2S s2_20_0)) (orS (preS (.row 1 1 65) (memo2S s2_21_0)) (orS (preS (.row 1 2 zS0_7) (memo2S s2_22_0)) (orS (preS (.row 1 3 zS0_20) (memo2S s2_23_0)) (orS (preS (.row 1 2 zS0_21) (memo2S s2_24_0)) (orS (preS (.row 1 1 81) (memo2S s2_25_0)) (orS (preS (.row 1 2 zS0_22) (memo2S s2_26_0)) (preS (.row 1 1 97) (memo2S s2_27_0)))))))))))))))))))))))))))))
theorem s2S_always : Always Try.prog s2S := onF_always (orS_always (preS_always (memo2S_always _ (allM_all (orS_always s1S_always allsS_always) _ s2_0_0_ok))) (orS_always (preS_always (memo2S_always _ (allM_all (orS_always s1S_always allsS_always) _ s2_1_0_ok))) (orS_always (preS_always (memo2S_always _ (allM_all (orS_always s1S_always allsS_always) _ s2_2_0_ok))) (orS_always (preS_always (memo2S_always _ (allM_all (orS_always s1S_always allsS_always) _ s2_3_0_ok))) (orS_always (preS_always (memo2S_always _ (allM_all (orS_always s1S_always allsS_always) _ s2_4_0_ok))) (orS_always (preS_always (memo2S_always _ (allM_all (orS_always s1S_always allsS_always) _ s2_5_0_ok))) (orS_always (preS_always (memo2S_always _ (allM_all (orS_always s1S_always allsS_always) _ s2_6_0_ok))) (orS_always (preS_always (memo2S_always _ (allM_all (orS_always s1S_always allsS_always) _ s2_7_0_ok))) (orS_always (preS_always (memo2S_always _ (allM_all (orS_always s1S_always allsS_always) _ s2_8_0_ok))) (orS_always (preS_always (memo2S_always _ (allM_all (orS_always s1S_always allsS_always) _ s2_9_0_ok))) (orS_always (preS_always (memo2S_always _ (allM_all (orS_always s1S_always allsS_always) _ s2_10_0_ok))) (orS_always (preS_always (memo2S_always _ (allM_all (orS_always s1S_always allsS_always) _ s2_11_0_ok))) (orS_always (preS_always (memo2S_always _ (allM_all (orS_always s1S_always allsS_always) _ s2_12_0_ok))) (orS_always (preS_always (memo2S_always _ (allM_all (orS_always s1S_always allsS_always) _ s2_13_0_ok))) (orS_always (preS_always (memo2S_always _ (allM_all (orS_always s1S_always allsS_always) _ s2_14_0_ok))) (orS_always (preS_always (memo2S_always _ (allM_all (orS_always s1S_always allsS_always) _ s2_15_0_ok))) (orS_always (preS_always (memo2S_always _ (allM_all (orS_always s1S_always allsS_always) _ s2_16_0_ok))) (orS_always (preS_always (memo2S_always _ (allM_all (orS_always s1S_always allsS_always) _ s2_17_0_ok))) (orS_always (preS_always (memo2S_always _ (allM_all (orS_always s1S_always allsS_always) _ s2_18_0_ok))) (orS_always (preS_always (memo2S_always _ (allM_all (orS_always s1S_always allsS_always) _ s2_19_0_ok))) (orS_always (preS_always (memo2S_always _ (allM_all (orS_always s1S_always allsS_always) _ s2_20_0_ok))) (orS_always (preS_always (memo2S_always _ (allM_all (orS_always s1S_always allsS_always) _ s2_21_0_ok))) (orS_always (preS_always (memo2S_always _ (allM_all (orS_always s1S_always allsS_always) _ s2_22_0_ok))) (orS_always (preS_always (memo2S_always _ (allM_all (orS_always s1S_always allsS_always) _ s2_23_0_ok))) (orS_always (preS_always (memo2S_always _ (allM_all (orS_always s1S_always allsS_always) _ s2_24_0_ok))) (orS_always (preS_always (memo2S_always _ (allM_all (orS_always s1S_always allsS_always) _ s2_25_0_ok))) (orS_always (preS_always (memo2S_always _ (allM_all (orS_always s1S_always allsS_always) _ s2_26_0_ok))) (preS_always (memo2S_always _ (allM_all (orS_always s1S_always allsS_always) _ s2_27_0_ok))))))))))))))))))))))))))))))
noncomputable def s3_0_0 : List Memo2 := [(44, [.row 1 3 zS0_2, .row 1 3 zS0_2], .lit 17)]
set_option maxRecDepth 100000 in
theorem s3_0_0_ok : allM Try.prog (orS s2S allsS) s3_0_0 = true := by kernel_rfl
noncomputable def s3_1_0 : List Memo2 := [(44, [.row 1 4 zS0_6, .row 1 3 zS0_5], .lit 1)]
set_option maxRecDepth 100000 in
theorem s3_1_0_ok : allM Try.prog (orS s2S allsS) s3_1_0 = true := by kernel_rfl
noncomputable def s3_2_0 : List Memo2 := [(44, [.row 1 5 zS0_12, .row 1 3 zS0_10], .lit 1), (44, [.row 1 5 zS0_12, .row 1 3 zS0_9], .lit 1)]
set_option maxRecDepth 100000 in
theorem s3_2_0_ok : allM Try.prog (orS s2S allsS) s3_2_0 = true := by kernel_rfl
noncomputable def s3_3_0 : List Memo2 := [(44, [.row 1 6 zS0_13, .row 1 3 zS0_16], .lit 1), (44, [.row 1 6 zS0_13, .row 1 3 zS0_18], .lit 1), (44, [.row 1 6 zS0_13, .row 1 3 zS0_20], .lit 1)]
set_option maxRecDepth 100000 in
theorem s3_3_0_ok : allM Try.prog (orS s2S allsS) s3_3_0 = true := by kernel_rfl
noncomputable def s3_4_0 : List Memo2 := [(44, [.row 1 2 zS0_1, .row 1 3 zS0_2], .lit 33)]
set_option maxRecDepth 100000 in
theorem s3_4_0_ok : allM Try.prog (orS s2S allsS) s3_4_0 = true := by kernel_rfl
noncomputable def s3_5_0 : List Memo2 := [(44, [.row 1 3 zS0_5, .row 1 3 zS0_5], .lit 17)]
set_option maxRecDepth 100000 in
theorem s3_5_0_ok : allM Try.prog (orS s2S allsS) s3_5_0 = true := by kernel_rfl
noncomputable def s3_6_0 : List Memo2 := [(44, [.row 1 4 zS0_11, .row 1 3 zS0_10], .lit 1), (44, [.row 1 4 zS0_11, .row 1 3 zS0_9], .lit 1)]
set_option maxRecDepth 100000 in
theorem s3_6_0_ok : allM Try.prog (orS s2S allsS) s3_6_0 = true := by kernel_rfl
noncomputable def s3_7_0 : List Memo2 := [(44, [.row 1 5 zS0_14, .row 1 3 zS0_16], .lit 1), (44, [.row 1 5 zS0_14, .row 1 3 zS0_18], .lit 1), (44, [.row 1 5 zS0_14, .row 1 3 zS0_20], .lit 1)]
set_option maxRecDepth 100000 in
theorem s3_7_0_ok : allM Try.prog (orS s2S allsS) s3_7_0 = true := by kernel_rfl
noncomputable def s3_8_0 : List Memo2 := [(44, [.row 1 2 zS0_4, .row 1 3 zS0_5], .lit 17)]
set_option maxRecDepth 100000 in
theorem s3_8_0_ok : allM Try.prog (orS s2S allsS) s3_8_0 = true := by kernel_rfl
noncomputable def s3_9_0 : List Memo2 := [(44, [.row 1 3 zS0_10, .row 1 3 zS0_10], .lit 17), (44, [.row 1 3 zS0_10, .row 1 3 zS0_9], .lit 1)]
set_option maxRecDepth 100000 in
theorem s3_9_0_ok : allM Try.prog (orS s2S allsS) s3_9_0 = true := by kernel_rfl
noncomputable def s3_10_0 : List Memo2 := [(44, [.row 1 4 zS0_15, .row 1 3 zS0_16], .lit 1), (44, [.row 1 4 zS0_15, .row 1 3 zS0_18], .lit 1), (44, [.row 1 4 zS0_15, .row 1 3 zS0_20], .lit 1)]
set_option maxRecDepth 100000 in
theorem s3_10_0_ok : allM Try.prog (orS s2S allsS) s3_10_0 = true := by kernel_rfl
noncomputable def s3_11_0 : List Memo2 := [(44, [.row 1 3 zS0_16, .row 1 3 zS0_16], .lit 17), (44, [.row 1 3 zS0_16, .row 1 3 zS0_18], .lit 1), (44, [.row 1 3 zS0_16, .row 1 3 zS0_20], .lit 1)]
set_option maxRecDepth 100000 in
theorem s3_11_0_ok : allM Try.prog (orS s2S allsS) s3_11_0 = true := by kernel_rfl
noncomputable def s3_12_0 : List Memo2 := [(44, [.row 1 1 49, .row 1 3 zS0_2], .lit 17)]
set_option maxRecDepth 100000 in
theorem s3_12_0_ok : allM Try.prog (orS s2S allsS) s3_12_0 = true := by kernel_rfl
noncomputable def s3_13_0 : List Memo2 := [(44, [.row 1 2 zS0_3, .row 1 3 zS0_5], .lit 33)]
set_option maxRecDepth 100000 in
theorem s3_13_0_ok : allM Try.prog (orS s2S allsS) s3_13_0 = true := by kernel_rfl
noncomputable def s3_14_0 : List Memo2 := [(44, [.row 1 3 zS0_9, .row 1 3 zS0_10], .lit 17), (44, [.row 1 3 zS0_9, .row 1 3 zS0_9], .lit 17)]
set_option maxRecDepth 100000 in
theorem s3_14_0_ok : allM Try.prog (orS s2S allsS) s3_14_0 = true := by kernel_rfl
noncomputable def s3_15_0 : List Memo2 := [(44, [.row 1 4 zS0_17, .row 1 3 zS0_16], .lit 1), (44, [.row 1 4 zS0_17, .row 1 3 zS0_18], .lit 1), (44, [.row 1 4 zS0_17, .row 1 3 zS0_20], .lit 1)]
set_option maxRecDepth 100000 in
theorem s3_15_0_ok : allM Try.prog (orS s2S allsS) s3_15_0 = true := by kernel_rfl
noncomputable def s3_16_0 : List Memo2 := [(44, [.row 1 2 zS0_8, .row 1 3 zS0_10], .lit 33), (44, [.row 1 2 zS0_8, .row 1 3 zS0_9], .lit 17)]
set_option maxRecDepth 100000 in
theorem s3_16_0_ok : allM Try.prog (orS s2S allsS) s3_16_0 = true := by kernel_rfl
noncomputable def s3_17_0 : List Memo2 := [(44, [.row 1 3 zS0_18, .row 1 3 zS0_16], .lit 33), (44, [.row 1 3 zS0_18, .row 1 3 zS0_18], .lit 17), (44, [.row 1 3 zS0_18, .row 1 3 zS0_20], .lit 1)]
set_option maxRecDepth 100000 in
theorem s3_17_0_ok : allM Try.prog (orS s2S allsS) s3_17_0 = true := by kernel_rfl
noncomputable def s3_18_0 : List Memo2 := [(44, [.row 1 2 zS0_19, .row 1 3 zS0_16], .lit 17), (44, [.row 1 2 zS0_19, .row 1 3 zS0_18], .lit 17), (44, [.row 1 2 zS0_19, .row 1 3 zS0_20], .lit 1)]
set_option maxRecDepth 100000 in
theorem s3_18_0_ok : allM Try.prog (orS s2S allsS) s3_18_0 = true := by kernel_rfl
noncomputable def s3_19_0 : List Memo2 := [(44, [.row 1 1 65, .row 1 3 zS0_5], .lit 17)]
set_option maxRecDepth 100000 in
theorem s3_19_0_ok : allM Try.prog (orS s2S allsS) s3_19_0 = true := by kernel_rfl
noncomputable def s3_20_0 : List Memo2 := [(44, [.row 1 2 zS0_7, .row 1 3 zS0_10], .lit 33), (44, [.row 1 2 zS0_7, .row 1 3 zS0_9], .lit 33)]
set_option maxRecDepth 100000 in
theorem s3_20_0_ok : allM Try.prog (orS s2S allsS) s3_20_0 = true := by kernel_rfl
noncomputable def s3_21_0 : List Memo2 := [(44, [.row 1 3 zS0_20, .row 1 3 zS0_16], .lit 17), (44, [.row 1 3 zS0_20, .row 1 3 zS0_18], .lit 17), (44, [.row 1 3 zS0_20, .row 1 3 zS0_20], .lit 17)]
set_option maxRecDepth 100000 in
theorem s3_21_0_ok : allM Try.prog (orS s2S allsS) s3_21_0 = true := by kernel_rfl
noncomputable def s3_22_0 : List Memo2 := [(44, [.row 1 2 zS0_21, .row 1 3 zS0_16], .lit 49), (44, [.row 1 2 zS0_21, .row 1 3 zS0_18], .lit 33), (44, [.row 1 2 zS0_21, .row 1 3 zS0_20], .lit 17)]
set_option maxRecDepth 100000 in
theorem s3_22_0_ok : allM Try.prog (orS s2S allsS) s3_22_0 = true := by kernel_rfl
noncomputable def s3_23_0 : List Memo2 := [(44, [.row 1 1 81, .row 1 3 zS0_10], .lit 17), (44, [.row 1 1 81, .row 1 3 zS0_9], .lit 17)]
set_option maxRecDepth 100000 in
theorem s3_23_0_ok : allM Try.prog (orS s2S allsS) s3_23_0 = true := by kernel_rfl
noncomputable def s3_24_0 : List Memo2 := [(44, [.row 1 2 zS0_22, .row 1 3 zS0_16], .lit 33), (44, [.row 1 2 zS0_22, .row 1 3 zS0_18], .lit 33), (44, [.row 1 2 zS0_22, .row 1 3 zS0_20], .lit 33)]
set_option maxRecDepth 100000 in
theorem s3_24_0_ok : allM Try.prog (orS s2S allsS) s3_24_0 = true := by kernel_rfl
noncomputable def s3_25_0 : List Memo2 := [(44, [.row 1 1 97, .row 1 3 zS0_16], .lit 17), (44, [.row 1 1 97, .row 1 3 zS0_18], .lit 17), (44, [.row 1 1 97, .row 1 3 zS0_20], .lit 17)]
set_option maxRecDepth 100000 in
theorem s3_25_0_ok : allM Try.prog (orS s2S allsS) s3_25_0 = true := by kernel_rfl
noncomputable def s3S : Sums := onF 44 (orS (preS (.row 1 3 zS0_2) (memo2S s3_0_0)) (orS (preS (.row 1 4 zS0_6) (memo2S s3_1_0)) (orS (preS (.row 1 5 zS0_12) (memo2S s3_2_0)) (orS (preS (.row 1 6 zS0_13) (memo2S s3_3_0)) (orS (preS (.row 1 2 zS0_1) (memo2S s3_4_0)) (orS (preS (.row 1 3 zS0_5) (memo2S s3_5_0)) (orS (preS (.row 1 4 zS0_11) (memo2S s3_6_0)) (orS (preS (.row 1 5 zS0_14) (memo2S s3_7_0)) (orS (preS (.row 1 2 zS0_4) (memo2S s3_8_0)) (orS (preS (.row 1 3 zS0_10) (memo2S s3_9_0)) (orS (preS (.row 1 4 zS0_15) (memo2S s3_10_0)) (orS (preS (.row 1 3 zS0_16) (memo2S s3_11_0)) (orS (preS (.row 1 1 49) (memo2S s3_12_0)) (orS (preS (.row 1 2 zS0_3) (memo2S s3_13_0)) (orS (preS (.row 1 3 zS0_9) (memo2S s3_14_0)) (orS (preS (.row 1 4 zS0_17) (memo2S s3_15_0)) (orS (preS (.row 1 2 zS0_8) (memo2S s3_16_0)) (orS (preS (.row 1 3 zS0_18) (memo2S s3_17_0)) (orS (preS (.row 1 2 zS0_19) (memo2S s3_18_0)) (orS (preS (.row 1 1 65) (memo2S s3_19_0)) (orS (preS (.row 1 2 zS0_7) (memo2S s3_20_0)) (orS (preS (.row 1 3 zS0_20) (memo2S s3_21_0)) (orS (preS (.row 1 2 zS0_21) (memo2S s3_22_0)) (orS (preS (.row 1 1 81) (memo2S s3_23_0)) (orS (preS (.row 1 2 zS0_22) (memo2S s3_24_0)) (preS (.row 1 1 97) (memo2S s3_25_0)))))))))))))))))))))))))))
theorem s3S_always : Always Try.prog s3S := onF_always (orS_always (preS_always (memo2S_always _ (allM_all (orS_always s2S_always allsS_always) _ s3_0_0_ok))) (orS_always (preS_always (memo2S_always _ (allM_all (orS_always s2S_always allsS_always) _ s3_1_0_ok))) (orS_always (preS_always (memo2S_always _ (allM_all (orS_always s2S_always allsS_always) _ s3_2_0_ok))) (orS_always (preS_always (memo2S_always _ (allM_all (orS_always s2S_always allsS_always) _ s3_3_0_ok))) (orS_always (preS_always (memo2S_always _ (allM_all (orS_always s2S_always allsS_always) _ s3_4_0_ok))) (orS_always (preS_always (memo2S_always _ (allM_all (orS_always s2S_always allsS_always) _ s3_5_0_ok))) (orS_always (preS_always (memo2S_always _ (allM_all (orS_always s2S_always allsS_always) _ s3_6_0_ok))) (orS_always (preS_always (memo2S_always _ (allM_all (orS_always s2S_always allsS_always) _ s3_7_0_ok))) (orS_always (preS_always (memo2S_always _ (allM_all (orS_always s2S_always allsS_always) _ s3_8_0_ok))) (orS_always (preS_always (memo2S_always _ (allM_all (orS_always s2S_always allsS_always) _ s3_9_0_ok))) (orS_always (preS_always (memo2S_always _ (allM_all (orS_always s2S_always allsS_always) _ s3_10_0_ok))) (orS_always (preS_always (memo2S_always _ (allM_all (orS_always s2S_always allsS_always) _ s3_11_0_ok))) (orS_always (preS_always (memo2S_always _ (allM_all (orS_always s2S_always allsS_always) _ s3_12_0_ok))) (orS_always (preS_always (memo2S_always _ (allM_all (orS_always s2S_always allsS_always) _ s3_13_0_ok))) (orS_always (preS_always (memo2S_always _ (allM_all (orS_always s2S_always allsS_always) _ s3_14_0_ok))) (orS_always (preS_always (memo2S_always _ (allM_all (orS_always s2S_always allsS_always) _ s3_15_0_ok))) (orS_always (preS_always (memo2S_always _ (allM_all (orS_always s2S_always allsS_always) _ s3_16_0_ok))) (orS_always (preS_always (memo2S_always _ (allM_all (orS_always s2S_always allsS_always) _ s3_17_0_ok))) (orS_always (preS_always (memo2S_always _ (allM_all (orS_always s2S_always allsS_always) _ s3_18_0_ok))) (orS_always (preS_always (memo2S_always _ (allM_all (orS_always s2S_always allsS_always) _ s3_19_0_ok))) (orS_always (preS_always (memo2S_always _ (allM_all (orS_always s2S_always allsS_always) _ s3_20_0_ok))) (orS_always (preS_always (memo2S_always _ (allM_all (orS_always s2S_always allsS_always) _ s3_21_0_ok))) (orS_always (preS_always (memo2S_always _ (allM_all (orS_always s2S_always allsS_always) _ s3_22_0_ok))) (orS_always (preS_always (memo2S_always _ (allM_all (orS_always s2S_always allsS_always) _ s3_23_0_ok))) (orS_always (preS_always (memo2S_always _ (allM_all (orS_always s2S_always allsS_always) _ s3_24_0_ok))) (preS_always (memo2S_always _ (allM_all (orS_always s2S_always allsS_always) _ s3_25_0_ok))))))))))))))))))))))))))))
noncomputable def s4_0_0 : List Memo2 := [(44, [.row 1 4 zS0_6, .row 1 4 zS0_6], .lit 17)]
set_option maxRecDepth 100000 in
theorem s4_0_0_ok : allM Try.prog (orS s3S allsS) s4_0_0 = true := by kernel_rfl
noncomputable def s4_1_0 : List Memo2 := [(44, [.row 1 5 zS0_12, .row 1 4 zS0_11], .lit 1)]
set_option maxRecDepth 100000 in
theorem s4_1_0_ok : allM Try.prog (orS s3S allsS) s4_1_0 = true := by kernel_rfl
noncomputable def s4_2_0 : List Memo2 := [(44, [.row 1 6 zS0_13, .row 1 4 zS0_15], .lit 1), (44, [.row 1 6 zS0_13, .row 1 4 zS0_17], .lit 1)]
set_option maxRecDepth 100000 in
theorem s4_2_0_ok : allM Try.prog (orS s3S allsS) s4_2_0 = true := by kernel_rfl
noncomputable def s4_3_0 : List Memo2 := [(44, [.row 1 3 zS0_5, .row 1 4 zS0_6], .lit 49)]
set_option maxRecDepth 100000 in
theorem s4_3_0_ok : allM Try.prog (orS s3S allsS) s4_3_0 = true := by kernel_rfl
noncomputable def s4_4_0 : List Memo2 := [(44, [.row 1 4 zS0_11, .row 1 4 zS0_11], .lit 17)]
set_option maxRecDepth 100000 in
theorem s4_4_0_ok : allM Try.prog (orS s3S allsS) s4_4_0 = true := by kernel_rfl
noncomputable def s4_5_0 : List Memo2 := [(44, [.row 1 5 zS0_14, .row 1 4 zS0_15], .lit 1), (44, [.row 1 5 zS0_14, .row 1 4 zS0_17], .lit 1)]
set_option maxRecDepth 100000 in
theorem s4_5_0_ok : allM Try.prog (orS s3S allsS) s4_5_0 = true := by kernel_rfl
noncomputable def s4_6_0 : List Memo2 := [(44, [.row 1 2 zS0_4, .row 1 4 zS0_6], .lit 33)]
set_option maxRecDepth 100000 in
theorem s4_6_0_ok : allM Try.prog (orS s3S allsS) s4_6_0 = true := by kernel_rfl
noncomputable def s4_7_0 : List Memo2 := [(44, [.row 1 3 zS0_10, .row 1 4 zS0_11], .lit 33)]
set_option maxRecDepth 100000 in
theorem s4_7_0_ok : allM Try.prog (orS s3S allsS) s4_7_0 = true := by kernel_rfl
noncomputable def s4_8_0 : List Memo2 := [(44, [.row 1 4 zS0_15, .row 1 4 zS0_15], .lit 17), (44, [.row 1 4 zS0_15, .row 1 4 zS0_17], .lit 1)]
set_option maxRecDepth 100000 in
theorem s4_8_0_ok : allM Try.prog (orS s3S allsS) s4_8_0 = true := by kernel_rfl
noncomputable def s4_9_0 : List Memo2 := [(44, [.row 1 3 zS0_16, .row 1 4 zS0_15], .lit 17), (44, [.row 1 3 zS0_16, .row 1 4 zS0_17], .lit 1)]
set_option maxRecDepth 100000 in
theorem s4_9_0_ok : allM Try.prog (orS s3S allsS) s4_9_0 = true := by kernel_rfl
noncomputable def s4_10_0 : List Memo2 := [(44, [.row 1 2 zS0_3, .row 1 4 zS0_6], .lit 49)]
set_option maxRecDepth 100000 in
theorem s4_10_0_ok : allM Try.prog (orS s3S allsS) s4_10_0 = true := by kernel_rfl
noncomputable def s4_11_0 : List Memo2 := [(44, [.row 1 3 zS0_9, .row 1 4 zS0_11], .lit 49)]
set_option maxRecDepth 100000 in
theorem s4_11_0_ok : allM Try.prog (orS s3S allsS) s4_11_0 = true := by kernel_rfl
noncomputable def s4_12_0 : List Memo2 := [(44, [.row 1 4 zS0_17, .row 1 4 zS0_15], .lit 17), (44, [.row 1 4 zS0_17, .row 1 4 zS0_17], .lit 17)]
set_option maxRecDepth 100000 in
theorem s4_12_0_ok : allM Try.prog (orS s3S allsS) s4_12_0 = true := by kernel_rfl
noncomputable def s4_13_0 : List Memo2 := [(44, [.row 1 2 zS0_8, .row 1 4 zS0_11], .lit 49)]
set_option maxRecDepth 100000 in
theorem s4_13_0_ok : allM Try.prog (orS s3S allsS) s4_13_0 = true := by kernel_rfl
noncomputable def s4_14_0 : List Memo2 := [(44, [.row 1 3 zS0_18, .row 1 4 zS0_15], .lit 65), (44, [.row 1 3 zS0_18, .row 1 4 zS0_17], .lit 33)]
set_option maxRecDepth 100000 in
theorem s4_14_0_ok : allM Try.prog (orS s3S allsS) s4_14_0 = true := by kernel_rfl
noncomputable def s4_15_0 : List Memo2 := [(44, [.row 1 2 zS0_19, .row 1 4 zS0_15], .lit 33), (44, [.row 1 2 zS0_19, .row 1 4 zS0_17], .lit 17)]
set_option maxRecDepth 100000 in
theorem s4_15_0_ok : allM Try.prog (orS s3S allsS) s4_15_0 = true := by kernel_rfl
noncomputable def s4_16_0 : List Memo2 := [(44, [.row 1 1 65, .row 1 4 zS0_6], .lit 17)]
set_option maxRecDepth 100000 in
theorem s4_16_0_ok : allM Try.prog (orS s3S allsS) s4_16_0 = true := by kernel_rfl
noncomputable def s4_17_0 : List Memo2 := [(44, [.row 1 2 zS0_7, .row 1 4 zS0_11], .lit 49)]
set_option maxRecDepth 100000 in
theorem s4_17_0_ok : allM Try.prog (orS s3S allsS) s4_17_0 = true := by kernel_rfl
noncomputable def s4_18_0 : List Memo2 := [(44, [.row 1 3 zS0_20, .row 1 4 zS0_15], .lit 49), (44, [.row 1 3 zS0_20, .row 1 4 zS0_17], .lit 49)]
set_option maxRecDepth 100000 in
theorem s4_18_0_ok : allM Try.prog (orS s3S allsS) s4_18_0 = true := by kernel_rfl
noncomputable def s4_19_0 : List Memo2 := [(44, [.row 1 2 zS0_21, .row 1 4 zS0_15], .lit 65), (44, [.row 1 2 zS0_21, .row 1 4 zS0_17], .lit 49)]
set_option maxRecDepth 100000 in
theorem s4_19_0_ok : allM Try.prog (orS s3S allsS) s4_19_0 = true := by kernel_rfl
noncomputable def s4_20_0 : List Memo2 := [(44, [.row 1 1 81, .row 1 4 zS0_11], .lit 17)]
set_option maxRecDepth 100000 in
theorem s4_20_0_ok : allM Try.prog (orS s3S allsS) s4_20_0 = true := by kernel_rfl
noncomputable def s4_21_0 : List Memo2 := [(44, [.row 1 2 zS0_22, .row 1 4 zS0_15], .lit 49), (44, [.row 1 2 zS0_22, .row 1 4 zS0_17], .lit 49)]
set_option maxRecDepth 100000 in
theorem s4_21_0_ok : allM Try.prog (orS s3S allsS) s4_21_0 = true := by kernel_rfl
noncomputable def s4_22_0 : List Memo2 := [(44, [.row 1 1 97, .row 1 4 zS0_15], .lit 17), (44, [.row 1 1 97, .row 1 4 zS0_17], .lit 17)]
set_option maxRecDepth 100000 in
theorem s4_22_0_ok : allM Try.prog (orS s3S allsS) s4_22_0 = true := by kernel_rfl
noncomputable def s4S : Sums := onF 44 (orS (preS (.row 1 4 zS0_6) (memo2S s4_0_0)) (orS (preS (.row 1 5 zS0_12) (memo2S s4_1_0)) (orS (preS (.row 1 6 zS0_13) (memo2S s4_2_0)) (orS (preS (.row 1 3 zS0_5) (memo2S s4_3_0)) (orS (preS (.row 1 4 zS0_11) (memo2S s4_4_0)) (orS (preS (.row 1 5 zS0_14) (memo2S s4_5_0)) (orS (preS (.row 1 2 zS0_4) (memo2S s4_6_0)) (orS (preS (.row 1 3 zS0_10) (memo2S s4_7_0)) (orS (preS (.row 1 4 zS0_15) (memo2S s4_8_0)) (orS (preS (.row 1 3 zS0_16) (memo2S s4_9_0)) (orS (preS (.row 1 2 zS0_3) (memo2S s4_10_0)) (orS (preS (.row 1 3 zS0_9) (memo2S s4_11_0)) (orS (preS (.row 1 4 zS0_17) (memo2S s4_12_0)) (orS (preS (.row 1 2 zS0_8) (memo2S s4_13_0)) (orS (preS (.row 1 3 zS0_18) (memo2S s4_14_0)) (orS (preS (.row 1 2 zS0_19) (memo2S s4_15_0)) (orS (preS (.row 1 1 65) (memo2S s4_16_0)) (orS (preS (.row 1 2 zS0_7) (memo2S s4_17_0)) (orS (preS (.row 1 3 zS0_20) (memo2S s4_18_0)) (orS (preS (.row 1 2 zS0_21) (memo2S s4_19_0)) (orS (preS (.row 1 1 81) (memo2S s4_20_0)) (orS (preS (.row 1 2 zS0_22) (memo2S s4_21_0)) (preS (.row 1 1 97) (memo2S s4_22_0))))))))))))))))))))))))
theorem s4S_always : Always Try.prog s4S := onF_always (orS_always (preS_always (memo2S_always _ (allM_all (orS_always s3S_always allsS_always) _ s4_0_0_ok))) (orS_always (preS_always (memo2S_always _ (allM_all (orS_always s3S_always allsS_always) _ s4_1_0_ok))) (orS_always (preS_always (memo2S_always _ (allM_all (orS_always s3S_always allsS_always) _ s4_2_0_ok))) (orS_always (preS_always (memo2S_always _ (allM_all (orS_always s3S_always allsS_always) _ s4_3_0_ok))) (orS_always (preS_always (memo2S_always _ (allM_all (orS_always s3S_always allsS_always) _ s4_4_0_ok))) (orS_always (preS_always (memo2S_always _ (allM_all (orS_always s3S_always allsS_always) _ s4_5_0_ok))) (orS_always (preS_always (memo2S_always _ (allM_all (orS_always s3S_always allsS_always) _ s4_6_0_ok))) (orS_always (preS_always (memo2S_always _ (allM_all (orS_always s3S_always allsS_always) _ s4_7_0_ok))) (orS_always (preS_always (memo2S_always _ (allM_all (orS_always s3S_always allsS_always) _ s4_8_0_ok))) (orS_always (preS_always (memo2S_always _ (allM_all (orS_always s3S_always allsS_always) _ s4_9_0_ok))) (orS_always (preS_always (memo2S_always _ (allM_all (orS_always s3S_always allsS_always) _ s4_10_0_ok))) (orS_always (preS_always (memo2S_always _ (allM_all (orS_always s3S_always allsS_always) _ s4_11_0_ok))) (orS_always (preS_always (memo2S_always _ (allM_all (orS_always s3S_always allsS_always) _ s4_12_0_ok))) (orS_always (preS_always (memo2S_always _ (allM_all (orS_always s3S_always allsS_always) _ s4_13_0_ok))) (orS_always (preS_always (memo2S_always _ (allM_all (orS_always s3S_always allsS_always) _ s4_14_0_ok))) (orS_always (preS_always (memo2S_always _ (allM_all (orS_always s3S_always allsS_always) _ s4_15_0_ok))) (orS_always (preS_always (memo2S_always _ (allM_all (orS_always s3S_always allsS_always) _ s4_16_0_ok))) (orS_always (preS_always (memo2S_always _ (allM_all (orS_always s3S_always allsS_always) _ s4_17_0_ok))) (orS_always (preS_always (memo2S_always _ (allM_all (orS_always s3S_always allsS_always) _ s4_18_0_ok))) (orS_always (preS_always (memo2S_always _ (allM_all (orS_always s3S_always allsS_always) _ s4_19_0_ok))) (orS_always (preS_always (memo2S_always _ (allM_all (orS_always s3S_always allsS_always) _ s4_20_0_ok))) (orS_always (preS_always (memo2S_always _ (allM_all (orS_always s3S_always allsS_always) _ s4_21_0_ok))) (preS_always (memo2S_always _ (allM_all (orS_always s3S_always allsS_always) _ s4_22_0_ok)))))))))))))))))))))))))
noncomputable def s5_0_0 : List Memo2 := [(44, [.row 1 5 zS0_12, .row 1 5 zS0_12], .lit 17)]
set_option maxRecDepth 100000 in
theorem s5_0_0_ok : allM Try.prog (orS s4S allsS) s5_0_0 = true := by kernel_rfl
noncomputable def s5_1_0 : List Memo2 := [(44, [.row 1 6 zS0_13, .row 1 5 zS0_14], .lit 1)]
set_option maxRecDepth 100000 in
theorem s5_1_0_ok : allM Try.prog (orS s4S allsS) s5_1_0 = true := by kernel_rfl
noncomputable def s5_2_0 : List Memo2 := [(44, [.row 1 4 zS0_11, .row 1 5 zS0_12], .lit 65)]
set_option maxRecDepth 100000 in
theorem s5_2_0_ok : allM Try.prog (orS s4S allsS) s5_2_0 = true := by kernel_rfl
noncomputable def s5_3_0 : List Memo2 := [(44, [.row 1 5 zS0_14, .row 1 5 zS0_14], .lit 17)]
set_option maxRecDepth 100000 in
theorem s5_3_0_ok : allM Try.prog (orS s4S allsS) s5_3_0 = true := by kernel_rfl
noncomputable def s5_4_0 : List Memo2 := [(44, [.row 1 3 zS0_10, .row 1 5 zS0_12], .lit 81)]
set_option maxRecDepth 100000 in
theorem s5_4_0_ok : allM Try.prog (orS s4S allsS) s5_4_0 = true := by kernel_rfl
noncomputable def s5_5_0 : List Memo2 := [(44, [.row 1 4 zS0_15, .row 1 5 zS0_14], .lit 49)]
set_option maxRecDepth 100000 in
theorem s5_5_0_ok : allM Try.prog (orS s4S allsS) s5_5_0 = true := by kernel_rfl
noncomputable def s5_6_0 : List Memo2 := [(44, [.row 1 3 zS0_16, .row 1 5 zS0_14], .lit 33)]
set_option maxRecDepth 100000 in
theorem s5_6_0_ok : allM Try.prog (orS s4S allsS) s5_6_0 = true := by kernel_rfl
noncomputable def s5_7_0 : List Memo2 := [(44, [.row 1 3 zS0_9, .row 1 5 zS0_12], .lit 97)]
set_option maxRecDepth 100000 in
theorem s5_7_0_ok : allM Try.prog (orS s4S allsS) s5_7_0 = true := by kernel_rfl
noncomputable def s5_8_0 : List Memo2 := [(44, [.row 1 4 zS0_17, .row 1 5 zS0_14], .lit 65)]
set_option maxRecDepth 100000 in
theorem s5_8_0_ok : allM Try.prog (orS s4S allsS) s5_8_0 = true := by kernel_rfl
noncomputable def s5_9_0 : List Memo2 := [(44, [.row 1 2 zS0_8, .row 1 5 zS0_12], .lit 81)]
set_option maxRecDepth 100000 in
theorem s5_9_0_ok : allM Try.prog (orS s4S allsS) s5_9_0 = true := by kernel_rfl
noncomputable def s5_10_0 : List Memo2 := [(44, [.row 1 3 zS0_18, .row 1 5 zS0_14], .lit 129)]
set_option maxRecDepth 100000 in
theorem s5_10_0_ok : allM Try.prog (orS s4S allsS) s5_10_0 = true := by kernel_rfl
noncomputable def s5_11_0 : List Memo2 := [(44, [.row 1 2 zS0_19, .row 1 5 zS0_14], .lit 49)]
set_option maxRecDepth 100000 in
theorem s5_11_0_ok : allM Try.prog (orS s4S allsS) s5_11_0 = true := by kernel_rfl
noncomputable def s5_12_0 : List Memo2 := [(44, [.row 1 2 zS0_7, .row 1 5 zS0_12], .lit 65)]
set_option maxRecDepth 100000 in
theorem s5_12_0_ok : allM Try.prog (orS s4S allsS) s5_12_0 = true := by kernel_rfl
noncomputable def s5_13_0 : List Memo2 := [(44, [.row 1 3 zS0_20, .row 1 5 zS0_14], .lit 97)]
set_option maxRecDepth 100000 in
theorem s5_13_0_ok : allM Try.prog (orS s4S allsS) s5_13_0 = true := by kernel_rfl
noncomputable def s5_14_0 : List Memo2 := [(44, [.row 1 2 zS0_21, .row 1 5 zS0_14], .lit 97)]
set_option maxRecDepth 100000 in
theorem s5_14_0_ok : allM Try.prog (orS s4S allsS) s5_14_0 = true := by kernel_rfl
noncomputable def s5_15_0 : List Memo2 := [(44, [.row 1 1 81, .row 1 5 zS0_12], .lit 17)]
set_option maxRecDepth 100000 in
theorem s5_15_0_ok : allM Try.prog (orS s4S allsS) s5_15_0 = true := by kernel_rfl
noncomputable def s5_16_0 : List Memo2 := [(44, [.row 1 2 zS0_22, .row 1 5 zS0_14], .lit 65)]
set_option maxRecDepth 100000 in
theorem s5_16_0_ok : allM Try.prog (orS s4S allsS) s5_16_0 = true := by kernel_rfl
noncomputable def s5_17_0 : List Memo2 := [(44, [.row 1 1 97, .row 1 5 zS0_14], .lit 17)]
set_option maxRecDepth 100000 in
theorem s5_17_0_ok : allM Try.prog (orS s4S allsS) s5_17_0 = true := by kernel_rfl
noncomputable def s5S : Sums := onF 44 (orS (preS (.row 1 5 zS0_12) (memo2S s5_0_0)) (orS (preS (.row 1 6 zS0_13) (memo2S s5_1_0)) (orS (preS (.row 1 4 zS0_11) (memo2S s5_2_0)) (orS (preS (.row 1 5 zS0_14) (memo2S s5_3_0)) (orS (preS (.row 1 3 zS0_10) (memo2S s5_4_0)) (orS (preS (.row 1 4 zS0_15) (memo2S s5_5_0)) (orS (preS (.row 1 3 zS0_16) (memo2S s5_6_0)) (orS (preS (.row 1 3 zS0_9) (memo2S s5_7_0)) (orS (preS (.row 1 4 zS0_17) (memo2S s5_8_0)) (orS (preS (.row 1 2 zS0_8) (memo2S s5_9_0)) (orS (preS (.row 1 3 zS0_18) (memo2S s5_10_0)) (orS (preS (.row 1 2 zS0_19) (memo2S s5_11_0)) (orS (preS (.row 1 2 zS0_7) (memo2S s5_12_0)) (orS (preS (.row 1 3 zS0_20) (memo2S s5_13_0)) (orS (preS (.row 1 2 zS0_21) (memo2S s5_14_0)) (orS (preS (.row 1 1 81) (memo2S s5_15_0)) (orS (preS (.row 1 2 zS0_22) (memo2S s5_16_0)) (preS (.row 1 1 97) (memo2S s5_17_0)))))))))))))))))))
theorem s5S_always : Always Try.prog s5S := onF_always (orS_always (preS_always (memo2S_always _ (allM_all (orS_always s4S_always allsS_always) _ s5_0_0_ok))) (orS_always (preS_always (memo2S_always _ (allM_all (orS_always s4S_always allsS_always) _ s5_1_0_ok))) (orS_always (preS_always (memo2S_always _ (allM_all (orS_always s4S_always allsS_always) _ s5_2_0_ok))) (orS_always (preS_always (memo2S_always _ (allM_all (orS_always s4S_always allsS_always) _ s5_3_0_ok))) (orS_always (preS_always (memo2S_always _ (allM_all (orS_always s4S_always allsS_always) _ s5_4_0_ok))) (orS_always (preS_always (memo2S_always _ (allM_all (orS_always s4S_always allsS_always) _ s5_5_0_ok))) (orS_always (preS_always (memo2S_always _ (allM_all (orS_always s4S_always allsS_always) _ s5_6_0_ok))) (orS_always (preS_always (memo2S_always _ (allM_all (orS_always s4S_always allsS_always) _ s5_7_0_ok))) (orS_always (preS_always (memo2S_always _ (allM_all (orS_always s4S_always allsS_always) _ s5_8_0_ok))) (orS_always (preS_always (memo2S_always _ (allM_all (orS_always s4S_always allsS_always) _ s5_9_0_ok))) (orS_always (preS_always (memo2S_always _ (allM_all (orS_always s4S_always allsS_always) _ s5_10_0_ok))) (orS_always (preS_always (memo2S_always _ (allM_all (orS_always s4S_always allsS_always) _ s5_11_0_ok))) (orS_always (preS_always (memo2S_always _ (allM_all (orS_always s4S_always allsS_always) _ s5_12_0_ok))) (orS_always (preS_always (memo2S_always _ (allM_all (orS_always s4S_always allsS_always) _ s5_13_0_ok))) (orS_always (preS_always (memo2S_always _ (allM_all (orS_always s4S_always allsS_always) _ s5_14_0_ok))) (orS_always (preS_always (memo2S_always _ (allM_all (orS_always s4S_always allsS_always) _ s5_15_0_ok))) (orS_always (preS_always (memo2S_always _ (allM_all (orS_always s4S_always allsS_always) _ s5_16_0_ok))) (preS_always (memo2S_always _ (allM_all (orS_always s4S_always allsS_always) _ s5_17_0_ok))))))))))))))))))))
noncomputable def s6_0_0 : List Memo2 := [(44, [.row 1 6 zS0_13, .row 1 6 zS0_13], .lit 17)]
set_option maxRecDepth 100000 in
theorem s6_0_0_ok : allM Try.prog (orS s5S allsS) s6_0_0 = true := by kernel_rfl
noncomputable def s6_1_0 : List Memo2 := [(44, [.row 1 5 zS0_14, .row 1 6 zS0_13], .lit 81)]
set_option maxRecDepth 100000 in
theorem s6_1_0_ok : allM Try.prog (orS s5S allsS) s6_1_0 = true := by kernel_rfl
noncomputable def s6_2_0 : List Memo2 := [(44, [.row 1 4 zS0_15, .row 1 6 zS0_13], .lit 145)]
set_option maxRecDepth 100000 in
theorem s6_2_0_ok : allM Try.prog (orS s5S allsS) s6_2_0 = true := by kernel_rfl
noncomputable def s6_3_0 : List Memo2 := [(44, [.row 1 3 zS0_16, .row 1 6 zS0_13], .lit 81)]
set_option maxRecDepth 100000 in
theorem s6_3_0_ok : allM Try.prog (orS s5S allsS) s6_3_0 = true := by kernel_rfl
noncomputable def s6_4_0 : List Memo2 := [(44, [.row 1 4 zS0_17, .row 1 6 zS0_13], .lit 161)]
set_option maxRecDepth 100000 in
theorem s6_4_0_ok : allM Try.prog (orS s5S allsS) s6_4_0 = true := by kernel_rfl
noncomputable def s6_5_0 : List Memo2 := [(44, [.row 1 3 zS0_18, .row 1 6 zS0_13], .lit 257)]
set_option maxRecDepth 100000 in
theorem s6_5_0_ok : allM Try.prog (orS s5S allsS) s6_5_0 = true := by kernel_rfl
noncomputable def s6_6_0 : List Memo2 := [(44, [.row 1 2 zS0_19, .row 1 6 zS0_13], .lit 81)]
set_option maxRecDepth 100000 in
theorem s6_6_0_ok : allM Try.prog (orS s5S allsS) s6_6_0 = true := by kernel_rfl
noncomputable def s6_7_0 : List Memo2 := [(44, [.row 1 3 zS0_20, .row 1 6 zS0_13], .lit 161)]
set_option maxRecDepth 100000 in
theorem s6_7_0_ok : allM Try.prog (orS s5S allsS) s6_7_0 = true := by kernel_rfl
noncomputable def s6_8_0 : List Memo2 := [(44, [.row 1 2 zS0_21, .row 1 6 zS0_13], .lit 145)]
set_option maxRecDepth 100000 in
theorem s6_8_0_ok : allM Try.prog (orS s5S allsS) s6_8_0 = true := by kernel_rfl
noncomputable def s6_9_0 : List Memo2 := [(44, [.row 1 2 zS0_22, .row 1 6 zS0_13], .lit 81)]
set_option maxRecDepth 100000 in
theorem s6_9_0_ok : allM Try.prog (orS s5S allsS) s6_9_0 = true := by kernel_rfl
noncomputable def s6_10_0 : List Memo2 := [(44, [.row 1 1 97, .row 1 6 zS0_13], .lit 17)]
set_option maxRecDepth 100000 in
theorem s6_10_0_ok : allM Try.prog (orS s5S allsS) s6_10_0 = true := by kernel_rfl
noncomputable def s6S : Sums := onF 44 (orS (preS (.row 1 6 zS0_13) (memo2S s6_0_0)) (orS (preS (.row 1 5 zS0_14) (memo2S s6_1_0)) (orS (preS (.row 1 4 zS0_15) (memo2S s6_2_0)) (orS (preS (.row 1 3 zS0_16) (memo2S s6_3_0)) (orS (preS (.row 1 4 zS0_17) (memo2S s6_4_0)) (orS (preS (.row 1 3 zS0_18) (memo2S s6_5_0)) (orS (preS (.row 1 2 zS0_19) (memo2S s6_6_0)) (orS (preS (.row 1 3 zS0_20) (memo2S s6_7_0)) (orS (preS (.row 1 2 zS0_21) (memo2S s6_8_0)) (orS (preS (.row 1 2 zS0_22) (memo2S s6_9_0)) (preS (.row 1 1 97) (memo2S s6_10_0))))))))))))
theorem s6S_always : Always Try.prog s6S := onF_always (orS_always (preS_always (memo2S_always _ (allM_all (orS_always s5S_always allsS_always) _ s6_0_0_ok))) (orS_always (preS_always (memo2S_always _ (allM_all (orS_always s5S_always allsS_always) _ s6_1_0_ok))) (orS_always (preS_always (memo2S_always _ (allM_all (orS_always s5S_always allsS_always) _ s6_2_0_ok))) (orS_always (preS_always (memo2S_always _ (allM_all (orS_always s5S_always allsS_always) _ s6_3_0_ok))) (orS_always (preS_always (memo2S_always _ (allM_all (orS_always s5S_always allsS_always) _ s6_4_0_ok))) (orS_always (preS_always (memo2S_always _ (allM_all (orS_always s5S_always allsS_always) _ s6_5_0_ok))) (orS_always (preS_always (memo2S_always _ (allM_all (orS_always s5S_always allsS_always) _ s6_6_0_ok))) (orS_always (preS_always (memo2S_always _ (allM_all (orS_always s5S_always allsS_always) _ s6_7_0_ok))) (orS_always (preS_always (memo2S_always _ (allM_all (orS_always s5S_always allsS_always) _ s6_8_0_ok))) (orS_always (preS_always (memo2S_always _ (allM_all (orS_always s5S_always allsS_always) _ s6_9_0_ok))) (preS_always (memo2S_always _ (allM_all (orS_always s5S_always allsS_always) _ s6_10_0_ok)))))))))))))
end Go.Proofs.Yteapghgoiodoiaa.tabDiagram
