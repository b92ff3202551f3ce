/- What is known of calls of the program at a seat. -/
import Derived.Test.YthcdiaahpodkoabMemo
namespace Go.Proofs.Ythcdiaahpodkoab.memo
open Go Go.Eng
set_option linter.unusedVariables false
set_option linter.unusedSectionVars false
set_option linter.unusedSimpArgs false
set_option maxRecDepth 100000 in
theorem w1_0 : isRes (.lit 17) (memoRun Try.prog allsS 1000 60 84 [.row 1 1 17, .row 1 1 17]) = true := by kernel_rfl
set_option maxRecDepth 100000 in
theorem w1_1 : isRes (.lit 1) (memoRun Try.prog allsS 1000 60 84 [.row 1 2 5784800237655953878877368326340059594769, .row 1 1 17]) = true := by kernel_rfl
set_option maxRecDepth 100000 in
theorem w1_2 : isRes (.lit 1) (memoRun Try.prog allsS 1000 60 84 [.row 1 3 1968465517034375322200706745147694433511374539553545542549656296460863263473681, .row 1 1 17]) = true := by kernel_rfl
set_option maxRecDepth 100000 in
theorem w1_3 : isRes (.lit 1) (memoRun Try.prog allsS 1000 60 84 [.row 1 4 669834105338706146608743681702441434688324033114946968677321694617324964548963954933596071875593222190173539098689553, .row 1 1 17]) = true := by kernel_rfl
set_option maxRecDepth 100000 in
theorem w1_4 : isRes (.lit 1) (memoRun Try.prog allsS 1000 60 84 [.row 1 5 227932734809024150692758424969499384167819053055409393567909288224972429945938622638746810037514679965347866553719226819447412079678684911279545572202119185, .row 1 1 17]) = true := by kernel_rfl
set_option maxRecDepth 100000 in
theorem w1_5 : isRes (.lit 1) (memoRun Try.prog allsS 1000 60 84 [.row 1 6 77561490499577318716899917296904952523412817358034542970539031229257177226715334623655927185963223084461891692697043546920454790300897125935643108988996868019731321543803189062688406840394383377, .row 1 1 17]) = true := by kernel_rfl
set_option maxRecDepth 100000 in
theorem w1_6 : isRes (.lit 17) (memoRun Try.prog allsS 1000 60 84 [.row 1 1 33, .row 1 1 17]) = true := by kernel_rfl
set_option maxRecDepth 100000 in
theorem w1_7 : isRes (.lit 1) (memoRun Try.prog allsS 1000 60 84 [.row 1 2 5784800237655953878877368326340059594785, .row 1 1 17]) = true := by kernel_rfl
set_option maxRecDepth 100000 in
theorem w1_8 : isRes (.lit 1) (memoRun Try.prog allsS 1000 60 84 [.row 1 3 1968465517034375322200706745147694433511374539553545542549656296460863263473697, .row 1 1 17]) = true := by kernel_rfl
set_option maxRecDepth 100000 in
theorem w1_9 : isRes (.lit 1) (memoRun Try.prog allsS 1000 60 84 [.row 1 4 669834105338706146608743681702441434688324033114946968677321694617324964548963954933596071875593222190173539098689569, .row 1 1 17]) = true := by kernel_rfl
set_option maxRecDepth 100000 in
theorem w1_10 : isRes (.lit 1) (memoRun Try.prog allsS 1000 60 84 [.row 1 5 227932734809024150692758424969499384167819053055409393567909288224972429945938622638746810037514679965347866553719226819447412079678684911279545572202119201, .row 1 1 17]) = true := by kernel_rfl
set_option maxRecDepth 100000 in
theorem w1_11 : isRes (.lit 1) (memoRun Try.prog allsS 1000 60 84 [.row 1 2 11229318108390969294291362045248350978081, .row 1 1 17]) = true := by kernel_rfl
set_option maxRecDepth 100000 in
theorem w1_12 : isRes (.lit 1) (memoRun Try.prog allsS 1000 60 84 [.row 1 3 1968465517034375322200706745147694433516819057424280557965070290179771554856993, .row 1 1 17]) = true := by kernel_rfl
set_option maxRecDepth 100000 in
theorem w1_13 : isRes (.lit 1) (memoRun Try.prog allsS 1000 60 84 [.row 1 4 669834105338706146608743681702441434688324033114946968677321694617324964548969399451466806891008636183892447390072865, .row 1 1 17]) = true := by kernel_rfl
set_option maxRecDepth 100000 in
theorem w1_14 : isRes (.lit 1) (memoRun Try.prog allsS 1000 60 84 [.row 1 3 3821138944831434448977842505286700959169138812074529582596391634306381629095969, .row 1 1 17]) = true := by kernel_rfl
set_option maxRecDepth 100000 in
theorem w1_15 : isRes (.lit 17) (memoRun Try.prog allsS 1000 60 84 [.row 1 1 49, .row 1 1 17]) = true := by kernel_rfl
set_option maxRecDepth 100000 in
theorem w1_16 : isRes (.lit 1) (memoRun Try.prog allsS 1000 60 84 [.row 1 2 5784800237655953878877368326340059594801, .row 1 1 17]) = true := by kernel_rfl
set_option maxRecDepth 100000 in
theorem w1_17 : isRes (.lit 1) (memoRun Try.prog allsS 1000 60 84 [.row 1 3 1968465517034375322200706745147694433511374539553545542549656296460863263473713, .row 1 1 17]) = true := by kernel_rfl
set_option maxRecDepth 100000 in
theorem w1_18 : isRes (.lit 1) (memoRun Try.prog allsS 1000 60 84 [.row 1 4 669834105338706146608743681702441434688324033114946968677321694617324964548963954933596071875593222190173539098689585, .row 1 1 17]) = true := by kernel_rfl
set_option maxRecDepth 100000 in
theorem w1_19 : isRes (.lit 1) (memoRun Try.prog allsS 1000 60 84 [.row 1 2 11229318108390969294291362045248350978097, .row 1 1 17]) = true := by kernel_rfl
set_option maxRecDepth 100000 in
theorem w1_20 : isRes (.lit 1) (memoRun Try.prog allsS 1000 60 84 [.row 1 3 1968465517034375322200706745147694433516819057424280557965070290179771554857009, .row 1 1 17]) = true := by kernel_rfl
set_option maxRecDepth 100000 in
theorem w1_21 : isRes (.lit 1) (memoRun Try.prog allsS 1000 60 84 [.row 1 2 16673835979125984709705355764156642361393, .row 1 1 17]) = true := by kernel_rfl
set_option maxRecDepth 100000 in
theorem w1_22 : isRes (.lit 17) (memoRun Try.prog allsS 1000 60 84 [.row 1 1 65, .row 1 1 17]) = true := by kernel_rfl
set_option maxRecDepth 100000 in
theorem w1_23 : isRes (.lit 1) (memoRun Try.prog allsS 1000 60 84 [.row 1 2 5784800237655953878877368326340059594817, .row 1 1 17]) = true := by kernel_rfl
set_option maxRecDepth 100000 in
theorem w1_24 : isRes (.lit 1) (memoRun Try.prog allsS 1000 60 84 [.row 1 3 1968465517034375322200706745147694433511374539553545542549656296460863263473729, .row 1 1 17]) = true := by kernel_rfl
set_option maxRecDepth 100000 in
theorem w1_25 : isRes (.lit 1) (memoRun Try.prog allsS 1000 60 84 [.row 1 2 11229318108390969294291362045248350978113, .row 1 1 17]) = true := by kernel_rfl
set_option maxRecDepth 100000 in
theorem w1_26 : isRes (.lit 17) (memoRun Try.prog allsS 1000 60 84 [.row 1 1 81, .row 1 1 17]) = true := by kernel_rfl
set_option maxRecDepth 100000 in
theorem w1_27 : isRes (.lit 1) (memoRun Try.prog allsS 1000 60 84 [.row 1 2 5784800237655953878877368326340059594833, .row 1 1 17]) = true := by kernel_rfl
set_option maxRecDepth 100000 in
theorem w1_28 : isRes (.lit 17) (memoRun Try.prog allsS 1000 60 84 [.row 1 1 97, .row 1 1 17]) = true := by kernel_rfl
noncomputable def w1 : List Memo2 := [(84, [.row 1 1 17, .row 1 1 17], .lit 17), (84, [.row 1 2 5784800237655953878877368326340059594769, .row 1 1 17], .lit 1), (84, [.row 1 3 1968465517034375322200706745147694433511374539553545542549656296460863263473681, .row 1 1 17], .lit 1), (84, [.row 1 4 669834105338706146608743681702441434688324033114946968677321694617324964548963954933596071875593222190173539098689553, .row 1 1 17], .lit 1), (84, [.row 1 5 227932734809024150692758424969499384167819053055409393567909288224972429945938622638746810037514679965347866553719226819447412079678684911279545572202119185, .row 1 1 17], .lit 1), (84, [.row 1 6 77561490499577318716899917296904952523412817358034542970539031229257177226715334623655927185963223084461891692697043546920454790300897125935643108988996868019731321543803189062688406840394383377, .row 1 1 17], .lit 1), (84, [.row 1 1 33, .row 1 1 17], .lit 17), (84, [.row 1 2 5784800237655953878877368326340059594785, .row 1 1 17], .lit 1), (84, [.row 1 3 1968465517034375322200706745147694433511374539553545542549656296460863263473697, .row 1 1 17], .lit 1), (84, [.row 1 4 669834105338706146608743681702441434688324033114946968677321694617324964548963954933596071875593222190173539098689569, .row 1 1 17], .lit 1), (84, [.row 1 5 227932734809024150692758424969499384167819053055409393567909288224972429945938622638746810037514679965347866553719226819447412079678684911279545572202119201, .row 1 1 17], .lit 1), (84, [.row 1 2 11229318108390969294291362045248350978081, .row 1 1 17], .lit 1), (84, [.row 1 3 1968465517034375322200706745147694433516819057424280557965070290179771554856993, .row 1 1 17], .lit 1), (84, [.row 1 4 669834105338706146608743681702441434688324033114946968677321694617324964548969399451466806891008636183892447390072865, .row 1 1 17], .lit 1), (84, [.row 1 3 3821138944831434448977842505286700959169138812074529582596391634306381629095969, .row 1 1 17], .lit 1), (84, [.row 1 1 49, .row 1 1 17], .lit 17), (84, [.row 1 2 5784800237655953878877368326340059594801, .row 1 1 17], .lit 1), (84, [.row 1 3 1968465517034375322200706745147694433511374539553545542549656296460863263473713, .row 1 1 17], .lit 1), (84, [.row 1 4 669834105338706146608743681702441434688324033114946968677321694617324964548963954933596071875593222190173539098689585, .row 1 1 17], .lit 1), (84, [.row 1 2 11229318108390969294291362045248350978097, .row 1 1 17], .lit 1), (84, [.row 1 3 1968465517034375322200706745147694433516819057424280557965070290179771554857009, .row 1 1 17], .lit 1), (84, [.row 1 2 16673835979125984709705355764156642361393, .row 1 1 17], .lit 1), (84, [.row 1 1 65, .row 1 1 17], .lit 17), (84, [.row 1 2 5784800237655953878877368326340059594817, .row 1 1 17], .lit 1), (84, [.row 1 3 1968465517034375322200706745147694433511374539553545542549656296460863263473729, .row 1 1 17], .lit 1), (84, [.row 1 2 11229318108390969294291362045248350978113, .row 1 1 17], .lit 1), (84, [.row 1 1 81, .row 1 1 17], .lit 17), (84, [.row 1 2 5784800237655953878877368326340059594833, .row 1 1 17], .lit 1), (84, [.row 1 1 97, .row 1 1 17], .lit 17)]
theorem w1_all : ∀ e ∈ w1, Memo2K Try.prog e := by
  unfold w1
  exact List.forall_mem_cons.2 ⟨memo2_of allsS_always w1_0, List.forall_mem_cons.2 ⟨memo2_of allsS_always w1_1, List.forall_mem_cons.2 ⟨memo2_of allsS_always w1_2, List.forall_mem_cons.2 ⟨memo2_of allsS_always w1_3, List.forall_mem_cons.2 ⟨memo2_of allsS_always w1_4, List.forall_mem_cons.2 ⟨memo2_of allsS_always w1_5, List.forall_mem_cons.2 ⟨memo2_of allsS_always w1_6, List.forall_mem_cons.2 ⟨memo2_of allsS_always w1_7, List.forall_mem_cons.2 ⟨memo2_of allsS_always w1_8, List.forall_mem_cons.2 ⟨memo2_of allsS_always w1_9, List.forall_mem_cons.2 ⟨memo2_of allsS_always w1_10, List.forall_mem_cons.2 ⟨memo2_of allsS_always w1_11, List.forall_mem_cons.2 ⟨memo2_of allsS_always w1_12, List.forall_mem_cons.2 ⟨memo2_of allsS_always w1_13, List.forall_mem_cons.2 ⟨memo2_of allsS_always w1_14, List.forall_mem_cons.2 ⟨memo2_of allsS_always w1_15, List.forall_mem_cons.2 ⟨memo2_of allsS_always w1_16, List.forall_mem_cons.2 ⟨memo2_of allsS_always w1_17, List.forall_mem_cons.2 ⟨memo2_of allsS_always w1_18, List.forall_mem_cons.2 ⟨memo2_of allsS_always w1_19, List.forall_mem_cons.2 ⟨memo2_of allsS_always w1_20, List.forall_mem_cons.2 ⟨memo2_of allsS_always w1_21, List.forall_mem_cons.2 ⟨memo2_of allsS_always w1_22, List.forall_mem_cons.2 ⟨memo2_of allsS_always w1_23, List.forall_mem_cons.2 ⟨memo2_of allsS_always w1_24, List.forall_mem_cons.2 ⟨memo2_of allsS_always w1_25, List.forall_mem_cons.2 ⟨memo2_of allsS_always w1_26, List.forall_mem_cons.2 ⟨memo2_of allsS_always w1_27, List.forall_mem_cons.2 ⟨memo2_of allsS_always w1_28, List.forall_mem_nil _⟩⟩⟩⟩⟩⟩⟩⟩⟩⟩⟩⟩⟩⟩⟩⟩⟩⟩⟩⟩⟩⟩⟩⟩⟩⟩⟩⟩⟩
noncomputable def w1S : Sums := onF 84 (memo2S w1)
theorem w1S_always : Always Try.prog w1S := onF_always (memo2S_always _ w1_all)
end Go.Proofs.Ythcdiaahpodkoab.memo
