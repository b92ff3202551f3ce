/- Runs of the program at a seat. -/
import Derived.Test.YtnglbchhlpbgkabSEngXi
import Derived.Test.YtnglbchhlpbgkabProg
namespace Go.Proofs.Ytnglbchhlpbgkab.joinDrawn
open Go Go.Eng
set_option linter.unusedVariables false
set_option linter.unusedSectionVars false
set_option linter.unusedSimpArgs false
/-- the questions of a point: its length, its width, its numbers, the throw behind them -/
noncomputable def jsQ (pl wd n : Nat) : List Nat := Nat.rec (motive := fun _ => Nat → List Nat) (fun _ => []) (fun _ ih i => Nat.add (Nat.mul i 4096) (Nat.succ (Nat.mul 2 (Nat.succ wd))) :: ih (Nat.succ i)) n pl
/-- the questions of a point without negative numbers -/
noncomputable def pureQ (pl least most : Nat) : QT := .part (Nat.add (Nat.mul pl 4096) (Nat.succ (Nat.sub most least))) fun n => .pts (jsQ (Nat.succ pl) 1 (Nat.add least n)) (.two (Nat.add (Nat.mul (Nat.add (Nat.succ pl) (Nat.add least n)) 4096) 12) (.of 400) (.of 400))
noncomputable def pointQ (pl most : Nat) : QT := .part (Nat.add (Nat.mul pl 4096) (Nat.succ most)) fun n => .part (Nat.add (Nat.mul (Nat.succ pl) 4096) 3) fun wd => .pts (jsQ (Nat.add pl 2) wd n) (.three (Nat.add (Nat.mul (Nat.add (Nat.add pl 2) n) 4096) 60) (.of 400) (.of 400) (.of 400))
theorem orS_always {P : Program} {A B : Sums} (ha : Always P A) (hb : Always P B) : Always P (orS A B) := fun E => @orS_sound E P A B (ha E) (hb E)
/-- what is known of one function -/
noncomputable def onF (f : Nat) (S : Sums) : Sums := fun g args H n => sel (Nat.beq f g) (S g args H n) .no
theorem onF_always {P : Program} {S : Sums} {f : Nat} (hS : Always P S) : Always P (onF f S) := by
  intro E base H n ρ L w g args vs v H' n' cs c ha h
  have e : onF f S g args H n = sel (Nat.beq f g) (S g args H n) .no := rfl
  rw [e, sel_beq] at h
  split at h
  · exact hS E base H n ρ L w g args vs v H' n' cs c ha h
  · cases h
set_option maxRecDepth 100000 in
theorem all_0 : isRes (.rows [(1, 17)]) (memoRun Try.prog noSums 1000 60 128 [.lit 17, .lit 17]) = true := by kernel_rfl
set_option maxRecDepth 100000 in
theorem all_1 : isRes (.rows [(1, 33), (2, 5784800237655953878877368326340059594769)]) (memoRun Try.prog noSums 1000 60 128 [.lit 33, .lit 33]) = true := by kernel_rfl
set_option maxRecDepth 100000 in
theorem all_2 : isRes (.rows [(1, 49), (2, 5784800237655953878877368326340059594785), (3, 1968465517034375322200706745147694433511374539553545542549656296460863263473681)]) (memoRun Try.prog noSums 1000 60 128 [.lit 49, .lit 49]) = true := by kernel_rfl
set_option maxRecDepth 100000 in
theorem all_3 : isRes (.rows [(1, 65), (2, 5784800237655953878877368326340059594801), (2, 11229318108390969294291362045248350978081), (3, 1968465517034375322200706745147694433511374539553545542549656296460863263473697), (4, 669834105338706146608743681702441434688324033114946968677321694617324964548963954933596071875593222190173539098689553)]) (memoRun Try.prog noSums 1000 60 128 [.lit 65, .lit 65]) = true := by kernel_rfl
set_option maxRecDepth 100000 in
theorem all_4 : isRes (.rows [(1, 81), (2, 5784800237655953878877368326340059594817), (2, 11229318108390969294291362045248350978097), (3, 1968465517034375322200706745147694433511374539553545542549656296460863263473713), (3, 1968465517034375322200706745147694433516819057424280557965070290179771554856993), (4, 669834105338706146608743681702441434688324033114946968677321694617324964548963954933596071875593222190173539098689569), (5, 227932734809024150692758424969499384167819053055409393567909288224972429945938622638746810037514679965347866553719226819447412079678684911279545572202119185)]) (memoRun Try.prog noSums 1000 60 128 [.lit 81, .lit 81]) = true := by kernel_rfl
set_option maxRecDepth 100000 in
theorem all_5 : isRes (.rows [(1, 97), (2, 5784800237655953878877368326340059594833), (2, 11229318108390969294291362045248350978113), (3, 1968465517034375322200706745147694433511374539553545542549656296460863263473729), (2, 16673835979125984709705355764156642361393), (3, 1968465517034375322200706745147694433516819057424280557965070290179771554857009), (4, 669834105338706146608743681702441434688324033114946968677321694617324964548963954933596071875593222190173539098689585), (3, 3821138944831434448977842505286700959169138812074529582596391634306381629095969), (4, 669834105338706146608743681702441434688324033114946968677321694617324964548969399451466806891008636183892447390072865), (5, 227932734809024150692758424969499384167819053055409393567909288224972429945938622638746810037514679965347866553719226819447412079678684911279545572202119201), (6, 77561490499577318716899917296904952523412817358034542970539031229257177226715334623655927185963223084461891692697043546920454790300897125935643108988996868019731321543803189062688406840394383377)]) (memoRun Try.prog noSums 1000 60 128 [.lit 97, .lit 97]) = true := by kernel_rfl
noncomputable def alls : List Memo2 := [(128, [.lit 17, .lit 17], .rows [(1, 17)]), (128, [.lit 33, .lit 33], .rows [(1, 33), (2, 5784800237655953878877368326340059594769)]), (128, [.lit 49, .lit 49], .rows [(1, 49), (2, 5784800237655953878877368326340059594785), (3, 1968465517034375322200706745147694433511374539553545542549656296460863263473681)]), (128, [.lit 65, .lit 65], .rows [(1, 65), (2, 5784800237655953878877368326340059594801), (2, 11229318108390969294291362045248350978081), (3, 1968465517034375322200706745147694433511374539553545542549656296460863263473697), (4, 669834105338706146608743681702441434688324033114946968677321694617324964548963954933596071875593222190173539098689553)]), (128, [.lit 81, .lit 81], .rows [(1, 81), (2, 5784800237655953878877368326340059594817), (2, 11229318108390969294291362045248350978097), (3, 1968465517034375322200706745147694433511374539553545542549656296460863263473713), (3, 1968465517034375322200706745147694433516819057424280557965070290179771554856993), (4, 669834105338706146608743681702441434688324033114946968677321694617324964548963954933596071875593222190173539098689569), (5, 227932734809024150692758424969499384167819053055409393567909288224972429945938622638746810037514679965347866553719226819447412079678684911279545572202119185)]), (128, [.lit 97, .lit 97], .rows [(1, 97), (2, 5784800237655953878877368326340059594833), (2, 11229318108390969294291362045248350978113), (3, 1968465517034375322200706745147694433511374539553545542549656296460863263473729), (2, 16673835979125984709705355764156642361393), (3, 1968465517034375322200706745147694433516819057424280557965070290179771554857009), (4, 669834105338706146608743681702441434688324033114946968677321694617324964548963954933596071875593222190173539098689585), (3, 3821138944831434448977842505286700959169138812074529582596391634306381629095969), (4, 669834105338706146608743681702441434688324033114946968677321694617324964548969399451466806891008636183892447390072865), (5, 227932734809024150692758424969499384167819053055409393567909288224972429945938622638746810037514679965347866553719226819447412079678684911279545572202119201), (6, 77561490499577318716899917296904952523412817358034542970539031229257177226715334623655927185963223084461891692697043546920454790300897125935643108988996868019731321543803189062688406840394383377)])]
theorem alls_all : ∀ e ∈ alls, Memo2K Try.prog e := by
  unfold alls
  exact List.forall_mem_cons.2 ⟨memo2_of (noSums_always _) all_0, List.forall_mem_cons.2 ⟨memo2_of (noSums_always _) all_1, List.forall_mem_cons.2 ⟨memo2_of (noSums_always _) all_2, List.forall_mem_cons.2 ⟨memo2_of (noSums_always _) all_3, List.forall_mem_cons.2 ⟨memo2_of (noSums_always _) all_4, List.forall_mem_cons.2 ⟨memo2_of (noSums_always _) all_5, List.forall_mem_nil _⟩⟩⟩⟩⟩⟩
noncomputable def allsS : Sums := onF 128 (memo2S alls)
theorem allsS_always : Always Try.prog allsS := onF_always (memo2S_always _ alls_all)
noncomputable def dR : Tab → OR := dRun Try.prog allsS 58 61 1000 60 43 0
noncomputable def i0 : DI := .row [17, 17]
noncomputable def i1 : DI := .row [33, 17]
noncomputable def i2 : DI := .row [17, 17, 17]
noncomputable def i3 : DI := .row [17, 33]
noncomputable def i4 : DI := .row [65, 49]
noncomputable def i5 : DI := .row [49, 17]
noncomputable def i6 : DI := .row [33, 33]
noncomputable def i7 : DI := .row [33, 17, 17]
noncomputable def i8 : DI := .row [17, 17, 17, 17]
noncomputable def d0 : List DI := [.emp, .emp]
noncomputable def d1 : List DI := [.emp, .row [17]]
noncomputable def d2 : List DI := [.emp, .row [33]]
noncomputable def d3 : List DI := [.emp, i0]
noncomputable def d4 : List DI := [.emp, .row [49]]
noncomputable def d5 : List DI := [.emp, i1]
noncomputable def d6 : List DI := [.emp, i2]
noncomputable def d7 : List DI := [.emp, i3]
noncomputable def d8 : List DI := [.emp, i4]
noncomputable def d9 : List DI := [i3, .emp]
noncomputable def d10 : List DI := [i3, .row [17]]
noncomputable def d11 : List DI := [i3, .row [33]]
noncomputable def d12 : List DI := [i3, i0]
noncomputable def d13 : List DI := [i3, .row [49]]
noncomputable def d14 : List DI := [i3, i1]
noncomputable def d15 : List DI := [i3, i2]
noncomputable def d16 : List DI := [i3, i3]
noncomputable def d17 : List DI := [i3, i4]
noncomputable def d18 : List DI := [i4, .emp]
noncomputable def d19 : List DI := [i4, .row [17]]
noncomputable def d20 : List DI := [i4, .row [33]]
noncomputable def d21 : List DI := [i4, i0]
noncomputable def d22 : List DI := [i4, .row [49]]
noncomputable def d23 : List DI := [i4, i1]
noncomputable def d24 : List DI := [i4, i2]
noncomputable def d25 : List DI := [i4, i3]
noncomputable def d26 : List DI := [i4, i4]
noncomputable def d27 : List DI := [.row [17], .emp]
noncomputable def d28 : List DI := [.row [17], .row [17]]
noncomputable def d29 : List DI := [.row [17], .row [33]]
noncomputable def d30 : List DI := [.row [17], i0]
noncomputable def d31 : List DI := [.row [17], .row [49]]
noncomputable def d32 : List DI := [.row [17], i1]
noncomputable def d33 : List DI := [.row [17], i2]
noncomputable def d34 : List DI := [.row [17], i3]
noncomputable def d35 : List DI := [.row [17], i4]
noncomputable def d36 : List DI := [.row [33], .emp]
noncomputable def d37 : List DI := [.row [33], .row [17]]
noncomputable def d38 : List DI := [.row [33], .row [33]]
noncomputable def d39 : List DI := [.row [33], i0]
noncomputable def d40 : List DI := [.row [33], .row [49]]
noncomputable def d41 : List DI := [.row [33], i1]
noncomputable def d42 : List DI := [.row [33], i2]
noncomputable def d43 : List DI := [.row [33], i3]
noncomputable def d44 : List DI := [.row [33], i4]
noncomputable def d45 : List DI := [i0, .emp]
noncomputable def d46 : List DI := [i0, .row [17]]
noncomputable def d47 : List DI := [i0, .row [33]]
noncomputable def d48 : List DI := [i0, i0]
noncomputable def d49 : List DI := [i0, .row [49]]
noncomputable def d50 : List DI := [i0, i1]
noncomputable def d51 : List DI := [i0, i2]
noncomputable def d52 : List DI := [i0, i3]
noncomputable def d53 : List DI := [i0, i4]
noncomputable def d54 : List DI := [.row [49], .emp]
noncomputable def d55 : List DI := [.row [49], .row [17]]
noncomputable def d56 : List DI := [.row [49], .row [33]]
noncomputable def d57 : List DI := [.row [49], i0]
noncomputable def d58 : List DI := [.row [49], .row [49]]
noncomputable def d59 : List DI := [.row [49], i1]
noncomputable def d60 : List DI := [.row [49], i2]
noncomputable def d61 : List DI := [.row [49], i3]
noncomputable def d62 : List DI := [.row [49], i4]
noncomputable def d63 : List DI := [i1, .emp]
noncomputable def d64 : List DI := [i1, .row [17]]
noncomputable def d65 : List DI := [i1, .row [33]]
noncomputable def d66 : List DI := [i1, i0]
noncomputable def d67 : List DI := [i1, .row [49]]
noncomputable def d68 : List DI := [i1, i1]
noncomputable def d69 : List DI := [i1, i2]
noncomputable def d70 : List DI := [i1, i3]
noncomputable def d71 : List DI := [i1, i4]
noncomputable def d72 : List DI := [i2, .emp]
noncomputable def d73 : List DI := [i2, .row [17]]
noncomputable def d74 : List DI := [i2, .row [33]]
noncomputable def d75 : List DI := [i2, i0]
noncomputable def d76 : List DI := [i2, .row [49]]
noncomputable def d77 : List DI := [i2, i1]
noncomputable def d78 : List DI := [i2, i2]
noncomputable def d79 : List DI := [i2, i3]
noncomputable def d80 : List DI := [i2, i4]
noncomputable def d81 : List DI := [.row [65], .emp]
noncomputable def d82 : List DI := [.row [65], .row [17]]
noncomputable def d83 : List DI := [.row [65], .row [33]]
noncomputable def d84 : List DI := [.row [65], i0]
noncomputable def d85 : List DI := [.row [65], .row [49]]
noncomputable def d86 : List DI := [.row [65], i1]
noncomputable def d87 : List DI := [.row [65], i2]
noncomputable def d88 : List DI := [.row [65], i3]
noncomputable def d89 : List DI := [.row [65], i4]
noncomputable def d90 : List DI := [i5, .emp]
noncomputable def d91 : List DI := [i5, .row [17]]
noncomputable def d92 : List DI := [i5, .row [33]]
noncomputable def d93 : List DI := [i5, i0]
noncomputable def d94 : List DI := [i5, .row [49]]
noncomputable def d95 : List DI := [i5, i1]
noncomputable def d96 : List DI := [i5, i2]
noncomputable def d97 : List DI := [i5, i3]
noncomputable def d98 : List DI := [i5, i4]
noncomputable def d99 : List DI := [i6, .emp]
noncomputable def d100 : List DI := [i6, .row [17]]
noncomputable def d101 : List DI := [i6, .row [33]]
noncomputable def d102 : List DI := [i6, i0]
noncomputable def d103 : List DI := [i6, .row [49]]
noncomputable def d104 : List DI := [i6, i1]
noncomputable def d105 : List DI := [i6, i2]
noncomputable def d106 : List DI := [i6, i3]
noncomputable def d107 : List DI := [i6, i4]
noncomputable def d108 : List DI := [i7, .emp]
noncomputable def d109 : List DI := [i7, .row [17]]
noncomputable def d110 : List DI := [i7, .row [33]]
noncomputable def d111 : List DI := [i7, i0]
noncomputable def d112 : List DI := [i7, .row [49]]
noncomputable def d113 : List DI := [i7, i1]
noncomputable def d114 : List DI := [i7, i2]
noncomputable def d115 : List DI := [i7, i3]
noncomputable def d116 : List DI := [i7, i4]
noncomputable def d117 : List DI := [i8, .emp]
noncomputable def d118 : List DI := [i8, .row [17]]
noncomputable def d119 : List DI := [i8, .row [33]]
noncomputable def d120 : List DI := [i8, i0]
noncomputable def d121 : List DI := [i8, .row [49]]
noncomputable def d122 : List DI := [i8, i1]
noncomputable def d123 : List DI := [i8, i2]
noncomputable def d124 : List DI := [i8, i3]
noncomputable def d125 : List DI := [i8, i4]
noncomputable def ls0 : List (List DI) := [d0, d1, d2, d3, d4, d5, d6, d7, d8, d9, d10, d11, d12, d13, d14, d15, d16, d17, d18, d19, d20, d21, d22, d23, d24, d25, d26]
noncomputable def ls1 : List (List DI) := [d27, d28, d29, d30, d31, d32, d33, d34, d35, d9, d10, d11, d12, d13, d14, d15, d16, d17, d18, d19, d20, d21, d22, d23, d24, d25, d26]
noncomputable def ls2 : List (List DI) := [d36, d37, d38, d39, d40, d41, d42, d43, d44, d9, d10, d11, d12, d13, d14, d15, d16, d17, d18, d19, d20, d21, d22, d23, d24, d25, d26]
noncomputable def ls3 : List (List DI) := [d45, d46, d47, d48, d49, d50, d51, d52, d53, d9, d10, d11, d12, d13, d14, d15, d16, d17, d18, d19, d20, d21, d22, d23, d24, d25, d26]
noncomputable def ls4 : List (List DI) := [d54, d55, d56, d57, d58, d59, d60, d61, d62, d9, d10, d11, d12, d13, d14, d15, d16, d17, d18, d19, d20, d21, d22, d23, d24, d25, d26]
noncomputable def ls5 : List (List DI) := [d63, d64, d65, d66, d67, d68, d69, d70, d71, d9, d10, d11, d12, d13, d14, d15, d16, d17, d18, d19, d20, d21, d22, d23, d24, d25, d26]
noncomputable def ls6 : List (List DI) := [d72, d73, d74, d75, d76, d77, d78, d79, d80, d9, d10, d11, d12, d13, d14, d15, d16, d17, d18, d19, d20, d21, d22, d23, d24, d25, d26]
noncomputable def ls7 : List (List DI) := [d81, d82, d83, d84, d85, d86, d87, d88, d89, d9, d10, d11, d12, d13, d14, d15, d16, d17, d18, d19, d20, d21, d22, d23, d24, d25, d26]
noncomputable def ls8 : List (List DI) := [d90, d91, d92, d93, d94, d95, d96, d97, d98, d9, d10, d11, d12, d13, d14, d15, d16, d17, d18, d19, d20, d21, d22, d23, d24, d25, d26]
noncomputable def ls9 : List (List DI) := [d99, d100, d101, d102, d103, d104, d105, d106, d107, d9, d10, d11, d12, d13, d14, d15, d16, d17, d18, d19, d20, d21, d22, d23, d24, d25, d26]
noncomputable def ls10 : List (List DI) := [d108, d109, d110, d111, d112, d113, d114, d115, d116, d9, d10, d11, d12, d13, d14, d15, d16, d17, d18, d19, d20, d21, d22, d23, d24, d25, d26]
noncomputable def ls11 : List (List DI) := [d117, d118, d119, d120, d121, d122, d123, d124, d125, d9, d10, d11, d12, d13, d14, d15, d16, d17, d18, d19, d20, d21, d22, d23, d24, d25, d26]
end Go.Proofs.Ytnglbchhlpbgkab.joinDrawn
