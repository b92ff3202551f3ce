/- Runs of the program at a seat. -/
import Derived.Test.YtnglbchhlpbgkabSEngXm
import Derived.Test.YtnglbchhlpbgkabProg
namespace Go.Proofs.Ytnglbchhlpbgkab.newtonDrawn
open Go Go.Eng
set_option linter.unusedVariables false
set_option linter.unusedSectionVars false
set_option linter.unusedSimpArgs false
/-- the questions of a point: its length, its width, its numbers, the throw behind them -/
noncomputable def jsQ (pl wd n : Nat) : List Nat := Nat.rec (motive := fun _ => Nat → List Nat) (fun _ => []) (fun _ ih i => Nat.add (Nat.mul i 4096) (Nat.succ (Nat.mul 2 (Nat.succ wd))) :: ih (Nat.succ i)) n pl
/-- the questions of a point without negative numbers -/
noncomputable def pureQ (pl least most : Nat) : QT := .part (Nat.add (Nat.mul pl 4096) (Nat.succ (Nat.sub most least))) fun n => .pts (jsQ (Nat.succ pl) 1 (Nat.add least n)) (.two (Nat.add (Nat.mul (Nat.add (Nat.succ pl) (Nat.add least n)) 4096) 12) (.of 400) (.of 400))
noncomputable def pointQ (pl most : Nat) : QT := .part (Nat.add (Nat.mul pl 4096) (Nat.succ most)) fun n => .part (Nat.add (Nat.mul (Nat.succ pl) 4096) 3) fun wd => .pts (jsQ (Nat.add pl 2) wd n) (.three (Nat.add (Nat.mul (Nat.add (Nat.add pl 2) n) 4096) 60) (.of 400) (.of 400) (.of 400))
theorem orS_always {P : Program} {A B : Sums} (ha : Always P A) (hb : Always P B) : Always P (orS A B) := fun E => @orS_sound E P A B (ha E) (hb E)
/-- what is known of one function -/
noncomputable def onF (f : Nat) (S : Sums) : Sums := fun g args H n => sel (Nat.beq f g) (S g args H n) .no
theorem onF_always {P : Program} {S : Sums} {f : Nat} (hS : Always P S) : Always P (onF f S) := by
  intro E base H n ρ L w g args vs v H' n' cs c ha h
  have e : onF f S g args H n = sel (Nat.beq f g) (S g args H n) .no := rfl
  rw [e, sel_beq] at h
  split at h
  · exact hS E base H n ρ L w g args vs v H' n' cs c ha h
  · cases h
set_option maxRecDepth 100000 in
theorem all_0 : isRes (.rows [(1, 17)]) (memoRun Try.prog noSums 1000 60 128 [.lit 17, .lit 17]) = true := by kernel_rfl
set_option maxRecDepth 100000 in
theorem all_1 : isRes (.rows [(1, 33), (2, 5784800237655953878877368326340059594769)]) (memoRun Try.prog noSums 1000 60 128 [.lit 33, .lit 33]) = true := by kernel_rfl
set_option maxRecDepth 100000 in
theorem all_2 : isRes (.rows [(1, 49), (2, 5784800237655953878877368326340059594785), (3, 1968465517034375322200706745147694433511374539553545542549656296460863263473681)]) (memoRun Try.prog noSums 1000 60 128 [.lit 49, .lit 49]) = true := by kernel_rfl
set_option maxRecDepth 100000 in
theorem all_3 : isRes (.rows [(1, 65), (2, 5784800237655953878877368326340059594801), (2, 11229318108390969294291362045248350978081), (3, 1968465517034375322200706745147694433511374539553545542549656296460863263473697), (4, 669834105338706146608743681702441434688324033114946968677321694617324964548963954933596071875593222190173539098689553)]) (memoRun Try.prog noSums 1000 60 128 [.lit 65, .lit 65]) = true := by kernel_rfl
set_option maxRecDepth 100000 in
theorem all_4 : isRes (.rows [(1, 81), (2, 5784800237655953878877368326340059594817), (2, 11229318108390969294291362045248350978097), (3, 1968465517034375322200706745147694433511374539553545542549656296460863263473713), (3, 1968465517034375322200706745147694433516819057424280557965070290179771554856993), (4, 669834105338706146608743681702441434688324033114946968677321694617324964548963954933596071875593222190173539098689569), (5, 227932734809024150692758424969499384167819053055409393567909288224972429945938622638746810037514679965347866553719226819447412079678684911279545572202119185)]) (memoRun Try.prog noSums 1000 60 128 [.lit 81, .lit 81]) = true := by kernel_rfl
set_option maxRecDepth 100000 in
theorem all_5 : isRes (.rows [(1, 97), (2, 5784800237655953878877368326340059594833), (2, 11229318108390969294291362045248350978113), (3, 1968465517034375322200706745147694433511374539553545542549656296460863263473729), (2, 16673835979125984709705355764156642361393), (3, 1968465517034375322200706745147694433516819057424280557965070290179771554857009), (4, 669834105338706146608743681702441434688324033114946968677321694617324964548963954933596071875593222190173539098689585), (3, 3821138944831434448977842505286700959169138812074529582596391634306381629095969), (4, 669834105338706146608743681702441434688324033114946968677321694617324964548969399451466806891008636183892447390072865), (5, 227932734809024150692758424969499384167819053055409393567909288224972429945938622638746810037514679965347866553719226819447412079678684911279545572202119201), (6, 77561490499577318716899917296904952523412817358034542970539031229257177226715334623655927185963223084461891692697043546920454790300897125935643108988996868019731321543803189062688406840394383377)]) (memoRun Try.prog noSums 1000 60 128 [.lit 97, .lit 97]) = true := by kernel_rfl
noncomputable def alls : List Memo2 := [(128, [.lit 17, .lit 17], .rows [(1, 17)]), (128, [.lit 33, .lit 33], .rows [(1, 33), (2, 5784800237655953878877368326340059594769)]), (128, [.lit 49, .lit 49], .rows [(1, 49), (2, 5784800237655953878877368326340059594785), (3, 1968465517034375322200706745147694433511374539553545542549656296460863263473681)]), (128, [.lit 65, .lit 65], .rows [(1, 65), (2, 5784800237655953878877368326340059594801), (2, 11229318108390969294291362045248350978081), (3, 1968465517034375322200706745147694433511374539553545542549656296460863263473697), (4, 669834105338706146608743681702441434688324033114946968677321694617324964548963954933596071875593222190173539098689553)]), (128, [.lit 81, .lit 81], .rows [(1, 81), (2, 5784800237655953878877368326340059594817), (2, 11229318108390969294291362045248350978097), (3, 1968465517034375322200706745147694433511374539553545542549656296460863263473713), (3, 1968465517034375322200706745147694433516819057424280557965070290179771554856993), (4, 669834105338706146608743681702441434688324033114946968677321694617324964548963954933596071875593222190173539098689569), (5, 227932734809024150692758424969499384167819053055409393567909288224972429945938622638746810037514679965347866553719226819447412079678684911279545572202119185)]), (128, [.lit 97, .lit 97], .rows [(1, 97), (2, 5784800237655953878877368326340059594833), (2, 11229318108390969294291362045248350978113), (3, 1968465517034375322200706745147694433511374539553545542549656296460863263473729), (2, 16673835979125984709705355764156642361393), (3, 1968465517034375322200706745147694433516819057424280557965070290179771554857009), (4, 669834105338706146608743681702441434688324033114946968677321694617324964548963954933596071875593222190173539098689585), (3, 3821138944831434448977842505286700959169138812074529582596391634306381629095969), (4, 669834105338706146608743681702441434688324033114946968677321694617324964548969399451466806891008636183892447390072865), (5, 227932734809024150692758424969499384167819053055409393567909288224972429945938622638746810037514679965347866553719226819447412079678684911279545572202119201), (6, 77561490499577318716899917296904952523412817358034542970539031229257177226715334623655927185963223084461891692697043546920454790300897125935643108988996868019731321543803189062688406840394383377)])]
theorem alls_all : ∀ e ∈ alls, Memo2K Try.prog e := by
  unfold alls
  exact List.forall_mem_cons.2 ⟨memo2_of (noSums_always _) all_0, List.forall_mem_cons.2 ⟨memo2_of (noSums_always _) all_1, List.forall_mem_cons.2 ⟨memo2_of (noSums_always _) all_2, List.forall_mem_cons.2 ⟨memo2_of (noSums_always _) all_3, List.forall_mem_cons.2 ⟨memo2_of (noSums_always _) all_4, List.forall_mem_cons.2 ⟨memo2_of (noSums_always _) all_5, List.forall_mem_nil _⟩⟩⟩⟩⟩⟩
noncomputable def allsS : Sums := onF 128 (memo2S alls)
theorem allsS_always : Always Try.prog allsS := onF_always (memo2S_always _ alls_all)
noncomputable def dR : Tab → OR := dRun Try.prog allsS 58 61 1000 60 22 0
noncomputable def i0 : DI := .row [42535295865126979339478698981903564860]
noncomputable def i1 : DI := .row [42535295865126979339478698981903564860, 97]
noncomputable def i2 : DI := .row [42535295865126979339478698981903564860, 42535295865146322152592533048698863676]
noncomputable def i3 : DI := .row [42535295865126979339478698981903564860, 42535295865146322152592533048698863676, 97]
noncomputable def i4 : DI := .row [42535295865126979339478698981903564860, 42535295865146322152592533048698863676, 42535295865165664965706367115494162492]
noncomputable def i5 : DI := .row [42535295865126979339478698981903564860, 42535295865146322152592533048698863676, 42535295865165664965706367115494162492, 97]
noncomputable def i6 : DI := .row [42535295865126979339478698981903564860, 42535295865146322152592533048698863676, 42535295865165664965706367115494162492, 42535295865185007778820201182289461308]
noncomputable def i7 : DI := .row [42535295865126979339478698981903564860, 42535295865146322152592533048698863676, 42535295865165664965706367115494162492, 42535295865185007778820201182289461308, 97]
noncomputable def i8 : DI := .row [42535295865126979339478698981903564860, 42535295865146322152592533048698863676, 42535295865165664965706367115494162492, 42535295865185007778820201182289461308, 42535295865204350591934035249084760124]
noncomputable def i9 : DI := .row [42535295865126979339478698981903564860, 42535295865146322152592533048698863676, 42535295865165664965706367115494162492, 42535295865185007778820201182289461308, 42535295865204350591934035249084760124, 97]
noncomputable def i10 : DI := .row [17, 17, 17, 17, 17, 17]
noncomputable def d0 : List DI := [.emp, .cell 1]
noncomputable def d1 : List DI := [.emp, .cell 17]
noncomputable def d2 : List DI := [.emp, .cell 33]
noncomputable def d3 : List DI := [.row [97], .cell 1]
noncomputable def d4 : List DI := [.row [97], .cell 17]
noncomputable def d5 : List DI := [.row [97], .cell 33]
noncomputable def d6 : List DI := [i0, .cell 1]
noncomputable def d7 : List DI := [i0, .cell 17]
noncomputable def d8 : List DI := [i0, .cell 33]
noncomputable def d9 : List DI := [i1, .cell 1]
noncomputable def d10 : List DI := [i1, .cell 17]
noncomputable def d11 : List DI := [i1, .cell 33]
noncomputable def d12 : List DI := [i2, .cell 1]
noncomputable def d13 : List DI := [i2, .cell 17]
noncomputable def d14 : List DI := [i2, .cell 33]
noncomputable def d15 : List DI := [i3, .cell 1]
noncomputable def d16 : List DI := [i3, .cell 17]
noncomputable def d17 : List DI := [i3, .cell 33]
noncomputable def d18 : List DI := [i3, .cell 49]
noncomputable def d19 : List DI := [i4, .cell 1]
noncomputable def d20 : List DI := [i4, .cell 17]
noncomputable def d21 : List DI := [i4, .cell 33]
noncomputable def d22 : List DI := [i4, .cell 49]
noncomputable def d23 : List DI := [i5, .cell 1]
noncomputable def d24 : List DI := [i5, .cell 17]
noncomputable def d25 : List DI := [i5, .cell 33]
noncomputable def d26 : List DI := [i5, .cell 49]
noncomputable def d27 : List DI := [i5, .cell 65]
noncomputable def d28 : List DI := [i6, .cell 1]
noncomputable def d29 : List DI := [i6, .cell 17]
noncomputable def d30 : List DI := [i6, .cell 33]
noncomputable def d31 : List DI := [i6, .cell 49]
noncomputable def d32 : List DI := [i6, .cell 65]
noncomputable def d33 : List DI := [i7, .cell 1]
noncomputable def d34 : List DI := [i7, .cell 17]
noncomputable def d35 : List DI := [i7, .cell 33]
noncomputable def d36 : List DI := [i7, .cell 49]
noncomputable def d37 : List DI := [i7, .cell 65]
noncomputable def d38 : List DI := [i7, .cell 81]
noncomputable def d39 : List DI := [i8, .cell 1]
noncomputable def d40 : List DI := [i8, .cell 17]
noncomputable def d41 : List DI := [i8, .cell 33]
noncomputable def d42 : List DI := [i8, .cell 49]
noncomputable def d43 : List DI := [i8, .cell 65]
noncomputable def d44 : List DI := [i8, .cell 81]
noncomputable def d45 : List DI := [i9, .cell 1]
noncomputable def d46 : List DI := [i9, .cell 17]
noncomputable def d47 : List DI := [i9, .cell 33]
noncomputable def d48 : List DI := [i9, .cell 49]
noncomputable def d49 : List DI := [i9, .cell 65]
noncomputable def d50 : List DI := [i9, .cell 81]
noncomputable def d51 : List DI := [i9, .cell 97]
noncomputable def d52 : List DI := [i10, .cell 1]
noncomputable def d53 : List DI := [i10, .cell 17]
noncomputable def d54 : List DI := [i10, .cell 33]
noncomputable def d55 : List DI := [i10, .cell 49]
noncomputable def d56 : List DI := [i10, .cell 65]
noncomputable def d57 : List DI := [i10, .cell 81]
noncomputable def d58 : List DI := [i10, .cell 97]
noncomputable def ls0 : List (List DI) := [d0, d1, d2, d3, d4, d5, d52, d53, d54, d55, d56, d57, d58]
noncomputable def ls1 : List (List DI) := [d6, d7, d8, d9, d10, d11, d52, d53, d54, d55, d56, d57, d58]
noncomputable def ls2 : List (List DI) := [d12, d13, d14, d15, d16, d17, d18, d52, d53, d54, d55, d56, d57, d58]
noncomputable def ls3 : List (List DI) := [d19, d20, d21, d22, d23, d24, d25, d26, d27, d52, d53, d54, d55, d56, d57, d58]
noncomputable def ls4 : List (List DI) := [d28, d29, d30, d31, d32, d33, d34, d35, d36, d37, d38, d52, d53, d54, d55, d56, d57, d58]
noncomputable def ls5 : List (List DI) := [d39, d40, d41, d42, d43, d44, d45, d46, d47, d48, d49, d50, d51, d52, d53, d54, d55, d56, d57, d58]
end Go.Proofs.Ytnglbchhlpbgkab.newtonDrawn
