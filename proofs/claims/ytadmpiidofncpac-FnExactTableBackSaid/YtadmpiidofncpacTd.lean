/- Entries of the diagram table that have been found by runs. -/
import Derived.Test.YtadmpiidofncpacEngN
import Derived.Test.YtadmpiidofncpacProg
namespace Go.Proofs.Ytadmpiidofncpac.td
open Go Go.Proofs Go.Eng
set_option maxRecDepth 100000
noncomputable def tk : Sh := .lit 2200
noncomputable def r0 : Sh := .row 1 1 17
noncomputable def g0 : Sh := .agg 6 4562440617622195218641171605700291324906636315178502527678766542897481013336196154332701599174307240262464217217473149818850281782405713290331947587588051059984195384929599356628729814140846097
noncomputable def r1 : Sh := .row 1 1 33
noncomputable def g1 : Sh := .agg 6 4562440617622195218641171605700291324906636315178502527678766542897481013336196154332701599174307240262464217217473149818850281782405713290331947587588051059984195384929599356628729814140846113
noncomputable def g2 : Sh := .agg 6 4562440617622195218641171605700291324906636315178502527678766542897481013336196154332701599174307240262464217217473149818850281782405713290331947587588056504502066119945014770622448722432229393
noncomputable def r2 : Sh := .row 1 2 5784800237655953878877368326340059594769
noncomputable def r3 : Sh := .row 1 1 49
noncomputable def g3 : Sh := .agg 6 4562440617622195218641171605700291324906636315178502527678766542897481013336196154332701599174307240262464217217473149818850281782405713290331947587588051059984195384929599356628729814140846129
noncomputable def g4 : Sh := .agg 6 4562440617622195218641171605700291324906636315178502527678766542897481013336196154332701599174307240262464217217473149818850281782405713290331947587588056504502066119945014770622448722432229409
noncomputable def g5 : Sh := .agg 6 4562440617622195218641171605700291324906636315178502527678766542897481013336196154332701599174307240262464217217475002492278078841532490426092086594113708824256716368969646091966575332506468369
noncomputable def r4 : Sh := .row 1 2 11229318108390969294291362045248350978065
noncomputable def r5 : Sh := .row 1 3 1968465517034375322200706745147694433511374539553545542549656296460863263473681
noncomputable def r6 : Sh := .row 1 2 5784800237655953878877368326340059594785
noncomputable def r7 : Sh := .row 1 1 65
noncomputable def g6 : Sh := .agg 6 4562440617622195218641171605700291324906636315178502527678766542897481013336196154332701599174307240262464217217473149818850281782405713290331947587588051059984195384929599356628729814140846145
noncomputable def g7 : Sh := .agg 6 4562440617622195218641171605700291324906636315178502527678766542897481013336196154332701599174307240262464217217473149818850281782405713290331947587588056504502066119945014770622448722432229425
noncomputable def g8 : Sh := .agg 6 4562440617622195218641171605700291324906636315178502527678766542897481013336196154332701599174307240262464217217473149818850281782405713290331947587588061949019936854960430184616167630723612705
noncomputable def g9 : Sh := .agg 6 4562440617622195218641171605700291324906636315178502527678766542897481013336196154332701599174307240262464217217475002492278078841532490426092086594113708824256716368969646091966575332506468385
noncomputable def g10 : Sh := .agg 6 4562440617622195218641171605700291324906636315178502527678766542897481013336826586431843910841703704904066515038356278320605525988219663120560018142457664194039344629047804742219481380351377425
noncomputable def r8 : Sh := .row 1 2 16673835979125984709705355764156642361361
noncomputable def r9 : Sh := .row 1 2 11229318108390969294291362045248350978081
noncomputable def r10 : Sh := .row 1 3 3821138944831434448977842505286700959163694294203794567180977640587473337712657
noncomputable def r11 : Sh := .row 1 4 669834105338706146608743681702441434688324033114946968677321694617324964548963954933596071875593222190173539098689553
noncomputable def r12 : Sh := .row 1 2 5784800237655953878877368326340059594801
noncomputable def r13 : Sh := .row 1 3 1968465517034375322200706745147694433511374539553545542549656296460863263473697
noncomputable def r14 : Sh := .row 1 1 81
noncomputable def g11 : Sh := .agg 6 4562440617622195218641171605700291324906636315178502527678766542897481013336196154332701599174307240262464217217473149818850281782405713290331947587588051059984195384929599356628729814140846161
noncomputable def g12 : Sh := .agg 6 4562440617622195218641171605700291324906636315178502527678766542897481013336196154332701599174307240262464217217473149818850281782405713290331947587588056504502066119945014770622448722432229441
noncomputable def g13 : Sh := .agg 6 4562440617622195218641171605700291324906636315178502527678766542897481013336196154332701599174307240262464217217473149818850281782405713290331947587588061949019936854960430184616167630723612721
noncomputable def g14 : Sh := .agg 6 4562440617622195218641171605700291324906636315178502527678766542897481013336196154332701599174307240262464217217475002492278078841532490426092086594113708824256716368969646091966575332506468401
noncomputable def g15 : Sh := .agg 6 4562440617622195218641171605700291324906636315178502527678766542897481013336196154332701599174307240262464217217475002492278078841532490426092086594113714268774587103985061505960294240797851681
noncomputable def g16 : Sh := .agg 6 4562440617622195218641171605700291324906636315178502527678766542897481013336826586431843910841703704904066515038356278320605525988219663120560018142457664194039344629047804742219481380351377441
noncomputable def g17 : Sh := .agg 6 4562440617622195218641171605700291325121161242057584081271950942868774551376496439561322204885280688003614739519533029949435514758890117963600527873441441007699406754038949861362419764448722961
noncomputable def r15 : Sh := .row 1 2 22118353849861000125119349483064933744657
noncomputable def r16 : Sh := .row 1 2 16673835979125984709705355764156642361377
noncomputable def r17 : Sh := .row 1 3 5673812372628493575754978265425707484816014048854043591812298984714083411951633
noncomputable def r18 : Sh := .row 1 3 3821138944831434448977842505286700959169138812074529582596391634306381629095953
noncomputable def r19 : Sh := .row 1 4 1300266204481017814005208323304739255569599861442394115364494389085256512892919324716224331953751872443079586943598609
noncomputable def r20 : Sh := .row 1 5 227932734809024150692758424969499384167819053055409393567909288224972429945938622638746810037514679965347866553719226819447412079678684911279545572202119185
noncomputable def r21 : Sh := .row 1 2 5784800237655953878877368326340059594817
noncomputable def r22 : Sh := .row 1 2 11229318108390969294291362045248350978097
noncomputable def r23 : Sh := .row 1 3 1968465517034375322200706745147694433511374539553545542549656296460863263473713
noncomputable def r24 : Sh := .row 1 3 1968465517034375322200706745147694433516819057424280557965070290179771554856993
noncomputable def r25 : Sh := .row 1 4 669834105338706146608743681702441434688324033114946968677321694617324964548963954933596071875593222190173539098689569
noncomputable def r26 : Sh := .row 1 1 97
noncomputable def g18 : Sh := .agg 6 4562440617622195218641171605700291324906636315178502527678766542897481013336196154332701599174307240262464217217473149818850281782405713290331947587588051059984195384929599356628729814140846177
noncomputable def g19 : Sh := .agg 6 4562440617622195218641171605700291324906636315178502527678766542897481013336196154332701599174307240262464217217473149818850281782405713290331947587588056504502066119945014770622448722432229457
noncomputable def g20 : Sh := .agg 6 4562440617622195218641171605700291324906636315178502527678766542897481013336196154332701599174307240262464217217473149818850281782405713290331947587588061949019936854960430184616167630723612737
noncomputable def g21 : Sh := .agg 6 4562440617622195218641171605700291324906636315178502527678766542897481013336196154332701599174307240262464217217475002492278078841532490426092086594113708824256716368969646091966575332506468417
noncomputable def g22 : Sh := .agg 6 4562440617622195218641171605700291324906636315178502527678766542897481013336196154332701599174307240262464217217473149818850281782405713290331947587588067393537807589975845598609886539014996017
noncomputable def g23 : Sh := .agg 6 4562440617622195218641171605700291324906636315178502527678766542897481013336196154332701599174307240262464217217475002492278078841532490426092086594113714268774587103985061505960294240797851697
noncomputable def g24 : Sh := .agg 6 4562440617622195218641171605700291324906636315178502527678766542897481013336826586431843910841703704904066515038356278320605525988219663120560018142457664194039344629047804742219481380351377457
noncomputable def g25 : Sh := .agg 6 4562440617622195218641171605700291324906636315178502527678766542897481013336196154332701599174307240262464217217476855165705875900659267561852225600639366588529237353009692827304420850872090657
noncomputable def g26 : Sh := .agg 6 4562440617622195218641171605700291324906636315178502527678766542897481013336826586431843910841703704904066515038356278320605525988219663120560018142457669638557215364063220156213200288642760737
noncomputable def g27 : Sh := .agg 6 4562440617622195218641171605700291325121161242057584081271950942868774551376496439561322204885280688003614739519533029949435514758890117963600527873441441007699406754038949861362419764448722977
noncomputable def g28 : Sh := .agg 6 77561490499577318716899917296904952523412817358034542970539031229257177226715334623655927185963223084461891692697043546920454790300897125935643108988996868019731321543803189062688406840394383377
noncomputable def r27 : Sh := .row 1 2 27562871720596015540533343201973225127953
noncomputable def r28 : Sh := .row 1 2 22118353849861000125119349483064933744673
noncomputable def r29 : Sh := .row 1 3 7526485800425552702532114025564714010468333803504292616443620328840693486190609
noncomputable def r30 : Sh := .row 1 2 16673835979125984709705355764156642361393
noncomputable def r31 : Sh := .row 1 3 5673812372628493575754978265425707484821458566724778607227712978432991703334929
noncomputable def r32 : Sh := .row 1 4 1930698303623329481401672964907037076450875689769841262051667083553188061236874694498852592031910522695985634788507665
noncomputable def r33 : Sh := .row 1 3 3821138944831434448977842505286700959169138812074529582596391634306381629095969
noncomputable def r34 : Sh := .row 1 4 1300266204481017814005208323304739255571452534870191174491271524845395519418571644470874580978383193787206197017837585
noncomputable def r35 : Sh := .row 1 5 442457661688105704285942824940792922207488906184887687611486271324520654427115374267576798808185134808388376284703003633107474204669830030422483956299464721
noncomputable def r36 : Sh := .row 1 6 77561490499577318716899917296904952523412817358034542970539031229257177226715334623655927185963223084461891692697043546920454790300897125935643108988996868019731321543803189062688406840394383377
noncomputable def r37 : Sh := .row 1 2 5784800237655953878877368326340059594833
noncomputable def r38 : Sh := .row 1 2 11229318108390969294291362045248350978113
noncomputable def r39 : Sh := .row 1 3 1968465517034375322200706745147694433511374539553545542549656296460863263473729
noncomputable def r40 : Sh := .row 1 3 1968465517034375322200706745147694433516819057424280557965070290179771554857009
noncomputable def r41 : Sh := .row 1 4 669834105338706146608743681702441434688324033114946968677321694617324964548963954933596071875593222190173539098689585
noncomputable def r42 : Sh := .row 1 4 669834105338706146608743681702441434688324033114946968677321694617324964548969399451466806891008636183892447390072865
noncomputable def r43 : Sh := .row 1 5 227932734809024150692758424969499384167819053055409393567909288224972429945938622638746810037514679965347866553719226819447412079678684911279545572202119201
noncomputable def t1_0 : List Memo := [(132, [r0, g0, tk], 17)]
theorem t1_0_ok : allW Try.prog noSums t1_0 = true := by kernel_rfl
noncomputable def t1S : Sums := onF 132 (preS r0 (memoS t1_0))
theorem t1A : Always Try.prog t1S := onF_always (grp_always (noSums_always _) t1_0_ok)
noncomputable def e1_0 : List Memo := [(107, [r0, r0], 17)]
theorem e1_0_ok : allW Try.prog t1S e1_0 = true := by kernel_rfl
noncomputable def e1S : Sums := onF 107 (preS r0 (memoS e1_0))
theorem e1A : Always Try.prog e1S := onF_always (grp_always t1A e1_0_ok)
noncomputable def s1_0 : List Memo := [(131, [r0, r0], 17)]
theorem s1_0_ok : allW Try.prog noSums s1_0 = true := by kernel_rfl
noncomputable def s1S : Sums := onF 131 (preS r0 (memoS s1_0))
theorem s1A : Always Try.prog s1S := onF_always (grp_always (noSums_always _) s1_0_ok)
noncomputable def m1 : Sums := orS e1S s1S
theorem m1A : Always Try.prog m1 := orS_always e1A s1A
noncomputable def t2_0 : List Memo := [(132, [r1, g1, tk], 17), (132, [r1, g2, tk], 1)]
theorem t2_0_ok : allW Try.prog t1S t2_0 = true := by kernel_rfl
noncomputable def t2_1 : List Memo := [(132, [r2, g1, tk], 17), (132, [r2, g2, tk], 17)]
theorem t2_1_ok : allW Try.prog t1S t2_1 = true := by kernel_rfl
noncomputable def t2S : Sums := onF 132 (orS (preS r1 (memoS t2_0)) (preS r2 (memoS t2_1)))
theorem t2A : Always Try.prog t2S := onF_always (orS_always (grp_always t1A t2_0_ok) (grp_always t1A t2_1_ok))
noncomputable def e2_0 : List Memo := [(107, [r1, r1], 17), (107, [r1, r2], 17)]
theorem e2_0_ok : allW Try.prog t2S e2_0 = true := by kernel_rfl
noncomputable def e2_1 : List Memo := [(107, [r2, r1], 1), (107, [r2, r2], 17)]
theorem e2_1_ok : allW Try.prog t2S e2_1 = true := by kernel_rfl
noncomputable def e2S : Sums := onF 107 (orS (preS r1 (memoS e2_0)) (preS r2 (memoS e2_1)))
theorem e2A : Always Try.prog e2S := onF_always (orS_always (grp_always t2A e2_0_ok) (grp_always t2A e2_1_ok))
noncomputable def s2_0 : List Memo := [(131, [r1, r1], 17), (131, [r1, r2], 17)]
theorem s2_0_ok : allW Try.prog s1S s2_0 = true := by kernel_rfl
noncomputable def s2_1 : List Memo := [(131, [r2, r1], 1), (131, [r2, r2], 17)]
theorem s2_1_ok : allW Try.prog s1S s2_1 = true := by kernel_rfl
noncomputable def s2S : Sums := onF 131 (orS (preS r1 (memoS s2_0)) (preS r2 (memoS s2_1)))
theorem s2A : Always Try.prog s2S := onF_always (orS_always (grp_always s1A s2_0_ok) (grp_always s1A s2_1_ok))
noncomputable def lt2 : Sums := orS t2S t1S
theorem lt2A : Always Try.prog lt2 := orS_always t2A t1A
noncomputable def ls2 : Sums := orS s2S s1S
theorem ls2A : Always Try.prog ls2 := orS_always s2A s1A
noncomputable def m2 : Sums := orS e2S s2S
theorem m2A : Always Try.prog m2 := orS_always e2A s2A
noncomputable def t3_0 : List Memo := [(132, [r3, g3, tk], 17), (132, [r3, g4, tk], 1), (132, [r3, g5, tk], 1)]
theorem t3_0_ok : allW Try.prog lt2 t3_0 = true := by kernel_rfl
noncomputable def t3_1 : List Memo := [(132, [r4, g3, tk], 17), (132, [r4, g4, tk], 17), (132, [r4, g5, tk], 1)]
theorem t3_1_ok : allW Try.prog lt2 t3_1 = true := by kernel_rfl
noncomputable def t3_2 : List Memo := [(132, [r5, g3, tk], 17), (132, [r5, g4, tk], 33), (132, [r5, g5, tk], 17)]
theorem t3_2_ok : allW Try.prog lt2 t3_2 = true := by kernel_rfl
noncomputable def t3S : Sums := onF 132 (orS (preS r3 (memoS t3_0)) (orS (preS r4 (memoS t3_1)) (preS r5 (memoS t3_2))))
theorem t3A : Always Try.prog t3S := onF_always (orS_always (grp_always lt2A t3_0_ok) (orS_always (grp_always lt2A t3_1_ok) (grp_always lt2A t3_2_ok)))
noncomputable def e3_0 : List Memo := [(107, [r3, r3], 17), (107, [r3, r6], 17), (107, [r3, r5], 17)]
theorem e3_0_ok : allW Try.prog t3S e3_0 = true := by kernel_rfl
noncomputable def e3_1 : List Memo := [(107, [r6, r3], 1), (107, [r6, r6], 17), (107, [r6, r5], 33)]
theorem e3_1_ok : allW Try.prog t3S e3_1 = true := by kernel_rfl
noncomputable def e3_2 : List Memo := [(107, [r5, r3], 1), (107, [r5, r6], 1), (107, [r5, r5], 17)]
theorem e3_2_ok : allW Try.prog t3S e3_2 = true := by kernel_rfl
noncomputable def e3S : Sums := onF 107 (orS (preS r3 (memoS e3_0)) (orS (preS r6 (memoS e3_1)) (preS r5 (memoS e3_2))))
theorem e3A : Always Try.prog e3S := onF_always (orS_always (grp_always t3A e3_0_ok) (orS_always (grp_always t3A e3_1_ok) (grp_always t3A e3_2_ok)))
noncomputable def s3_0 : List Memo := [(131, [r3, r3], 17), (131, [r3, r6], 17), (131, [r3, r5], 17)]
theorem s3_0_ok : allW Try.prog ls2 s3_0 = true := by kernel_rfl
noncomputable def s3_1 : List Memo := [(131, [r6, r3], 1), (131, [r6, r6], 17), (131, [r6, r5], 33)]
theorem s3_1_ok : allW Try.prog ls2 s3_1 = true := by kernel_rfl
noncomputable def s3_2 : List Memo := [(131, [r5, r3], 1), (131, [r5, r6], 1), (131, [r5, r5], 17)]
theorem s3_2_ok : allW Try.prog ls2 s3_2 = true := by kernel_rfl
noncomputable def s3S : Sums := onF 131 (orS (preS r3 (memoS s3_0)) (orS (preS r6 (memoS s3_1)) (preS r5 (memoS s3_2))))
theorem s3A : Always Try.prog s3S := onF_always (orS_always (grp_always ls2A s3_0_ok) (orS_always (grp_always ls2A s3_1_ok) (grp_always ls2A s3_2_ok)))
noncomputable def lt3 : Sums := orS t3S lt2
theorem lt3A : Always Try.prog lt3 := orS_always t3A lt2A
noncomputable def ls3 : Sums := orS s3S ls2
theorem ls3A : Always Try.prog ls3 := orS_always s3A ls2A
noncomputable def m3 : Sums := orS e3S s3S
theorem m3A : Always Try.prog m3 := orS_always e3A s3A
noncomputable def t4_0 : List Memo := [(132, [r7, g6, tk], 17), (132, [r7, g7, tk], 1), (132, [r7, g8, tk], 1), (132, [r7, g9, tk], 1), (132, [r7, g10, tk], 1)]
theorem t4_0_ok : allW Try.prog lt3 t4_0 = true := by kernel_rfl
noncomputable def t4_1 : List Memo := [(132, [r8, g6, tk], 17), (132, [r8, g7, tk], 17), (132, [r8, g8, tk], 1), (132, [r8, g9, tk], 1), (132, [r8, g10, tk], 1)]
theorem t4_1_ok : allW Try.prog lt3 t4_1 = true := by kernel_rfl
noncomputable def t4_2 : List Memo := [(132, [r9, g6, tk], 17), (132, [r9, g7, tk], 17), (132, [r9, g8, tk], 17), (132, [r9, g9, tk], 1), (132, [r9, g10, tk], 1)]
theorem t4_2_ok : allW Try.prog lt3 t4_2 = true := by kernel_rfl
noncomputable def t4_3 : List Memo := [(132, [r10, g6, tk], 17), (132, [r10, g7, tk], 33), (132, [r10, g8, tk], 17), (132, [r10, g9, tk], 17), (132, [r10, g10, tk], 1)]
theorem t4_3_ok : allW Try.prog lt3 t4_3 = true := by kernel_rfl
noncomputable def t4_4 : List Memo := [(132, [r11, g6, tk], 17), (132, [r11, g7, tk], 49), (132, [r11, g8, tk], 33), (132, [r11, g9, tk], 49), (132, [r11, g10, tk], 17)]
theorem t4_4_ok : allW Try.prog lt3 t4_4 = true := by kernel_rfl
noncomputable def t4S : Sums := onF 132 (orS (preS r7 (memoS t4_0)) (orS (preS r8 (memoS t4_1)) (orS (preS r9 (memoS t4_2)) (orS (preS r10 (memoS t4_3)) (preS r11 (memoS t4_4))))))
theorem t4A : Always Try.prog t4S := onF_always (orS_always (grp_always lt3A t4_0_ok) (orS_always (grp_always lt3A t4_1_ok) (orS_always (grp_always lt3A t4_2_ok) (orS_always (grp_always lt3A t4_3_ok) (grp_always lt3A t4_4_ok)))))
noncomputable def e4_0 : List Memo := [(107, [r7, r7], 17), (107, [r7, r12], 17), (107, [r7, r9], 17), (107, [r7, r13], 17), (107, [r7, r11], 17)]
theorem e4_0_ok : allW Try.prog t4S e4_0 = true := by kernel_rfl
noncomputable def e4_1 : List Memo := [(107, [r12, r7], 1), (107, [r12, r12], 17), (107, [r12, r9], 17), (107, [r12, r13], 33), (107, [r12, r11], 49)]
theorem e4_1_ok : allW Try.prog t4S e4_1 = true := by kernel_rfl
noncomputable def e4_2 : List Memo := [(107, [r9, r7], 1), (107, [r9, r12], 1), (107, [r9, r9], 17), (107, [r9, r13], 17), (107, [r9, r11], 33)]
theorem e4_2_ok : allW Try.prog t4S e4_2 = true := by kernel_rfl
noncomputable def e4_3 : List Memo := [(107, [r13, r7], 1), (107, [r13, r12], 1), (107, [r13, r9], 1), (107, [r13, r13], 17), (107, [r13, r11], 49)]
theorem e4_3_ok : allW Try.prog t4S e4_3 = true := by kernel_rfl
noncomputable def e4_4 : List Memo := [(107, [r11, r7], 1), (107, [r11, r12], 1), (107, [r11, r9], 1), (107, [r11, r13], 1), (107, [r11, r11], 17)]
theorem e4_4_ok : allW Try.prog t4S e4_4 = true := by kernel_rfl
noncomputable def e4S : Sums := onF 107 (orS (preS r7 (memoS e4_0)) (orS (preS r12 (memoS e4_1)) (orS (preS r9 (memoS e4_2)) (orS (preS r13 (memoS e4_3)) (preS r11 (memoS e4_4))))))
theorem e4A : Always Try.prog e4S := onF_always (orS_always (grp_always t4A e4_0_ok) (orS_always (grp_always t4A e4_1_ok) (orS_always (grp_always t4A e4_2_ok) (orS_always (grp_always t4A e4_3_ok) (grp_always t4A e4_4_ok)))))
noncomputable def s4_0 : List Memo := [(131, [r7, r7], 17), (131, [r7, r12], 17), (131, [r7, r9], 17), (131, [r7, r13], 17), (131, [r7, r11], 17)]
theorem s4_0_ok : allW Try.prog ls3 s4_0 = true := by kernel_rfl
noncomputable def s4_1 : List Memo := [(131, [r12, r7], 1), (131, [r12, r12], 17), (131, [r12, r9], 17), (131, [r12, r13], 33), (131, [r12, r11], 49)]
theorem s4_1_ok : allW Try.prog ls3 s4_1 = true := by kernel_rfl
noncomputable def s4_2 : List Memo := [(131, [r9, r7], 1), (131, [r9, r12], 1), (131, [r9, r9], 17), (131, [r9, r13], 17), (131, [r9, r11], 33)]
theorem s4_2_ok : allW Try.prog ls3 s4_2 = true := by kernel_rfl
noncomputable def s4_3 : List Memo := [(131, [r13, r7], 1), (131, [r13, r12], 1), (131, [r13, r9], 1), (131, [r13, r13], 17), (131, [r13, r11], 49)]
theorem s4_3_ok : allW Try.prog ls3 s4_3 = true := by kernel_rfl
noncomputable def s4_4 : List Memo := [(131, [r11, r7], 1), (131, [r11, r12], 1), (131, [r11, r9], 1), (131, [r11, r13], 1), (131, [r11, r11], 17)]
theorem s4_4_ok : allW Try.prog ls3 s4_4 = true := by kernel_rfl
noncomputable def s4S : Sums := onF 131 (orS (preS r7 (memoS s4_0)) (orS (preS r12 (memoS s4_1)) (orS (preS r9 (memoS s4_2)) (orS (preS r13 (memoS s4_3)) (preS r11 (memoS s4_4))))))
theorem s4A : Always Try.prog s4S := onF_always (orS_always (grp_always ls3A s4_0_ok) (orS_always (grp_always ls3A s4_1_ok) (orS_always (grp_always ls3A s4_2_ok) (orS_always (grp_always ls3A s4_3_ok) (grp_always ls3A s4_4_ok)))))
noncomputable def lt4 : Sums := orS t4S lt3
theorem lt4A : Always Try.prog lt4 := orS_always t4A lt3A
noncomputable def ls4 : Sums := orS s4S ls3
theorem ls4A : Always Try.prog ls4 := orS_always s4A ls3A
noncomputable def m4 : Sums := orS e4S s4S
theorem m4A : Always Try.prog m4 := orS_always e4A s4A
noncomputable def t5_0 : List Memo := [(132, [r14, g11, tk], 17), (132, [r14, g12, tk], 1), (132, [r14, g13, tk], 1), (132, [r14, g14, tk], 1), (132, [r14, g15, tk], 1), (132, [r14, g16, tk], 1), (132, [r14, g17, tk], 1)]
theorem t5_0_ok : allW Try.prog lt4 t5_0 = true := by kernel_rfl
noncomputable def t5_1 : List Memo := [(132, [r15, g11, tk], 17), (132, [r15, g12, tk], 17), (132, [r15, g13, tk], 1), (132, [r15, g14, tk], 1), (132, [r15, g15, tk], 1), (132, [r15, g16, tk], 1), (132, [r15, g17, tk], 1)]
theorem t5_1_ok : allW Try.prog lt4 t5_1 = true := by kernel_rfl
noncomputable def t5_2 : List Memo := [(132, [r16, g11, tk], 17), (132, [r16, g12, tk], 17), (132, [r16, g13, tk], 17), (132, [r16, g14, tk], 1), (132, [r16, g15, tk], 1), (132, [r16, g16, tk], 1), (132, [r16, g17, tk], 1)]
theorem t5_2_ok : allW Try.prog lt4 t5_2 = true := by kernel_rfl
noncomputable def t5_3 : List Memo := [(132, [r17, g11, tk], 17), (132, [r17, g12, tk], 33), (132, [r17, g13, tk], 17), (132, [r17, g14, tk], 17), (132, [r17, g15, tk], 1), (132, [r17, g16, tk], 1), (132, [r17, g17, tk], 1)]
theorem t5_3_ok : allW Try.prog lt4 t5_3 = true := by kernel_rfl
noncomputable def t5_4 : List Memo := [(132, [r18, g11, tk], 17), (132, [r18, g12, tk], 33), (132, [r18, g13, tk], 33), (132, [r18, g14, tk], 17), (132, [r18, g15, tk], 17), (132, [r18, g16, tk], 1), (132, [r18, g17, tk], 1)]
theorem t5_4_ok : allW Try.prog lt4 t5_4 = true := by kernel_rfl
noncomputable def t5_5 : List Memo := [(132, [r19, g11, tk], 17), (132, [r19, g12, tk], 49), (132, [r19, g13, tk], 49), (132, [r19, g14, tk], 49), (132, [r19, g15, tk], 33), (132, [r19, g16, tk], 17), (132, [r19, g17, tk], 1)]
theorem t5_5_ok : allW Try.prog lt4 t5_5 = true := by kernel_rfl
noncomputable def t5_6 : List Memo := [(132, [r20, g11, tk], 17), (132, [r20, g12, tk], 65), (132, [r20, g13, tk], 81), (132, [r20, g14, tk], 97), (132, [r20, g15, tk], 81), (132, [r20, g16, tk], 65), (132, [r20, g17, tk], 17)]
theorem t5_6_ok : allW Try.prog lt4 t5_6 = true := by kernel_rfl
noncomputable def t5S : Sums := onF 132 (orS (preS r14 (memoS t5_0)) (orS (preS r15 (memoS t5_1)) (orS (preS r16 (memoS t5_2)) (orS (preS r17 (memoS t5_3)) (orS (preS r18 (memoS t5_4)) (orS (preS r19 (memoS t5_5)) (preS r20 (memoS t5_6))))))))
theorem t5A : Always Try.prog t5S := onF_always (orS_always (grp_always lt4A t5_0_ok) (orS_always (grp_always lt4A t5_1_ok) (orS_always (grp_always lt4A t5_2_ok) (orS_always (grp_always lt4A t5_3_ok) (orS_always (grp_always lt4A t5_4_ok) (orS_always (grp_always lt4A t5_5_ok) (grp_always lt4A t5_6_ok)))))))
noncomputable def e5_0 : List Memo := [(107, [r14, r14], 17), (107, [r14, r21], 17), (107, [r14, r22], 17), (107, [r14, r23], 17), (107, [r14, r24], 17), (107, [r14, r25], 17), (107, [r14, r20], 17)]
theorem e5_0_ok : allW Try.prog t5S e5_0 = true := by kernel_rfl
noncomputable def e5_1 : List Memo := [(107, [r21, r14], 1), (107, [r21, r21], 17), (107, [r21, r22], 17), (107, [r21, r23], 33), (107, [r21, r24], 33), (107, [r21, r25], 49), (107, [r21, r20], 65)]
theorem e5_1_ok : allW Try.prog t5S e5_1 = true := by kernel_rfl
noncomputable def e5_2 : List Memo := [(107, [r22, r14], 1), (107, [r22, r21], 1), (107, [r22, r22], 17), (107, [r22, r23], 17), (107, [r22, r24], 33), (107, [r22, r25], 49), (107, [r22, r20], 81)]
theorem e5_2_ok : allW Try.prog t5S e5_2 = true := by kernel_rfl
noncomputable def e5_3 : List Memo := [(107, [r23, r14], 1), (107, [r23, r21], 1), (107, [r23, r22], 1), (107, [r23, r23], 17), (107, [r23, r24], 17), (107, [r23, r25], 49), (107, [r23, r20], 97)]
theorem e5_3_ok : allW Try.prog t5S e5_3 = true := by kernel_rfl
noncomputable def e5_4 : List Memo := [(107, [r24, r14], 1), (107, [r24, r21], 1), (107, [r24, r22], 1), (107, [r24, r23], 1), (107, [r24, r24], 17), (107, [r24, r25], 33), (107, [r24, r20], 81)]
theorem e5_4_ok : allW Try.prog t5S e5_4 = true := by kernel_rfl
noncomputable def e5_5 : List Memo := [(107, [r25, r14], 1), (107, [r25, r21], 1), (107, [r25, r22], 1), (107, [r25, r23], 1), (107, [r25, r24], 1), (107, [r25, r25], 17), (107, [r25, r20], 65)]
theorem e5_5_ok : allW Try.prog t5S e5_5 = true := by kernel_rfl
noncomputable def e5_6 : List Memo := [(107, [r20, r14], 1), (107, [r20, r21], 1), (107, [r20, r22], 1), (107, [r20, r23], 1), (107, [r20, r24], 1), (107, [r20, r25], 1), (107, [r20, r20], 17)]
theorem e5_6_ok : allW Try.prog t5S e5_6 = true := by kernel_rfl
noncomputable def e5S : Sums := onF 107 (orS (preS r14 (memoS e5_0)) (orS (preS r21 (memoS e5_1)) (orS (preS r22 (memoS e5_2)) (orS (preS r23 (memoS e5_3)) (orS (preS r24 (memoS e5_4)) (orS (preS r25 (memoS e5_5)) (preS r20 (memoS e5_6))))))))
theorem e5A : Always Try.prog e5S := onF_always (orS_always (grp_always t5A e5_0_ok) (orS_always (grp_always t5A e5_1_ok) (orS_always (grp_always t5A e5_2_ok) (orS_always (grp_always t5A e5_3_ok) (orS_always (grp_always t5A e5_4_ok) (orS_always (grp_always t5A e5_5_ok) (grp_always t5A e5_6_ok)))))))
noncomputable def s5_0 : List Memo := [(131, [r14, r14], 17), (131, [r14, r21], 17), (131, [r14, r22], 17), (131, [r14, r23], 17), (131, [r14, r24], 17), (131, [r14, r25], 17), (131, [r14, r20], 17)]
theorem s5_0_ok : allW Try.prog ls4 s5_0 = true := by kernel_rfl
noncomputable def s5_1 : List Memo := [(131, [r21, r14], 1), (131, [r21, r21], 17), (131, [r21, r22], 17), (131, [r21, r23], 33), (131, [r21, r24], 33), (131, [r21, r25], 49), (131, [r21, r20], 65)]
theorem s5_1_ok : allW Try.prog ls4 s5_1 = true := by kernel_rfl
noncomputable def s5_2 : List Memo := [(131, [r22, r14], 1), (131, [r22, r21], 1), (131, [r22, r22], 17), (131, [r22, r23], 17), (131, [r22, r24], 33), (131, [r22, r25], 49), (131, [r22, r20], 81)]
theorem s5_2_ok : allW Try.prog ls4 s5_2 = true := by kernel_rfl
noncomputable def s5_3 : List Memo := [(131, [r23, r14], 1), (131, [r23, r21], 1), (131, [r23, r22], 1), (131, [r23, r23], 17), (131, [r23, r24], 17), (131, [r23, r25], 49), (131, [r23, r20], 97)]
theorem s5_3_ok : allW Try.prog ls4 s5_3 = true := by kernel_rfl
noncomputable def s5_4 : List Memo := [(131, [r24, r14], 1), (131, [r24, r21], 1), (131, [r24, r22], 1), (131, [r24, r23], 1), (131, [r24, r24], 17), (131, [r24, r25], 33), (131, [r24, r20], 81)]
theorem s5_4_ok : allW Try.prog ls4 s5_4 = true := by kernel_rfl
noncomputable def s5_5 : List Memo := [(131, [r25, r14], 1), (131, [r25, r21], 1), (131, [r25, r22], 1), (131, [r25, r23], 1), (131, [r25, r24], 1), (131, [r25, r25], 17), (131, [r25, r20], 65)]
theorem s5_5_ok : allW Try.prog ls4 s5_5 = true := by kernel_rfl
noncomputable def s5_6 : List Memo := [(131, [r20, r14], 1), (131, [r20, r21], 1), (131, [r20, r22], 1), (131, [r20, r23], 1), (131, [r20, r24], 1), (131, [r20, r25], 1), (131, [r20, r20], 17)]
theorem s5_6_ok : allW Try.prog ls4 s5_6 = true := by kernel_rfl
noncomputable def s5S : Sums := onF 131 (orS (preS r14 (memoS s5_0)) (orS (preS r21 (memoS s5_1)) (orS (preS r22 (memoS s5_2)) (orS (preS r23 (memoS s5_3)) (orS (preS r24 (memoS s5_4)) (orS (preS r25 (memoS s5_5)) (preS r20 (memoS s5_6))))))))
theorem s5A : Always Try.prog s5S := onF_always (orS_always (grp_always ls4A s5_0_ok) (orS_always (grp_always ls4A s5_1_ok) (orS_always (grp_always ls4A s5_2_ok) (orS_always (grp_always ls4A s5_3_ok) (orS_always (grp_always ls4A s5_4_ok) (orS_always (grp_always ls4A s5_5_ok) (grp_always ls4A s5_6_ok)))))))
noncomputable def lt5 : Sums := orS t5S lt4
theorem lt5A : Always Try.prog lt5 := orS_always t5A lt4A
noncomputable def ls5 : Sums := orS s5S ls4
theorem ls5A : Always Try.prog ls5 := orS_always s5A ls4A
noncomputable def m5 : Sums := orS e5S s5S
theorem m5A : Always Try.prog m5 := orS_always e5A s5A
noncomputable def t6_0 : List Memo := [(132, [r26, g18, tk], 17), (132, [r26, g19, tk], 1), (132, [r26, g20, tk], 1), (132, [r26, g21, tk], 1), (132, [r26, g22, tk], 1), (132, [r26, g23, tk], 1), (132, [r26, g24, tk], 1), (132, [r26, g25, tk], 1), (132, [r26, g26, tk], 1), (132, [r26, g27, tk], 1), (132, [r26, g28, tk], 1)]
theorem t6_0_ok : allW Try.prog lt5 t6_0 = true := by kernel_rfl
noncomputable def t6_1 : List Memo := [(132, [r27, g18, tk], 17), (132, [r27, g19, tk], 17), (132, [r27, g20, tk], 1), (132, [r27, g21, tk], 1), (132, [r27, g22, tk], 1), (132, [r27, g23, tk], 1), (132, [r27, g24, tk], 1), (132, [r27, g25, tk], 1), (132, [r27, g26, tk], 1), (132, [r27, g27, tk], 1), (132, [r27, g28, tk], 1)]
theorem t6_1_ok : allW Try.prog lt5 t6_1 = true := by kernel_rfl
noncomputable def t6_2 : List Memo := [(132, [r28, g18, tk], 17), (132, [r28, g19, tk], 17), (132, [r28, g20, tk], 17), (132, [r28, g21, tk], 1), (132, [r28, g22, tk], 1), (132, [r28, g23, tk], 1), (132, [r28, g24, tk], 1), (132, [r28, g25, tk], 1), (132, [r28, g26, tk], 1), (132, [r28, g27, tk], 1), (132, [r28, g28, tk], 1)]
theorem t6_2_ok : allW Try.prog lt5 t6_2 = true := by kernel_rfl
noncomputable def t6_3 : List Memo := [(132, [r29, g18, tk], 17), (132, [r29, g19, tk], 33), (132, [r29, g20, tk], 17), (132, [r29, g21, tk], 17), (132, [r29, g22, tk], 1), (132, [r29, g23, tk], 1), (132, [r29, g24, tk], 1), (132, [r29, g25, tk], 1), (132, [r29, g26, tk], 1), (132, [r29, g27, tk], 1), (132, [r29, g28, tk], 1)]
theorem t6_3_ok : allW Try.prog lt5 t6_3 = true := by kernel_rfl
noncomputable def t6_4 : List Memo := [(132, [r30, g18, tk], 17), (132, [r30, g19, tk], 17), (132, [r30, g20, tk], 17), (132, [r30, g21, tk], 1), (132, [r30, g22, tk], 17), (132, [r30, g23, tk], 1), (132, [r30, g24, tk], 1), (132, [r30, g25, tk], 1), (132, [r30, g26, tk], 1), (132, [r30, g27, tk], 1), (132, [r30, g28, tk], 1)]
theorem t6_4_ok : allW Try.prog lt5 t6_4 = true := by kernel_rfl
noncomputable def t6_5 : List Memo := [(132, [r31, g18, tk], 17), (132, [r31, g19, tk], 33), (132, [r31, g20, tk], 33), (132, [r31, g21, tk], 17), (132, [r31, g22, tk], 17), (132, [r31, g23, tk], 17), (132, [r31, g24, tk], 1), (132, [r31, g25, tk], 1), (132, [r31, g26, tk], 1), (132, [r31, g27, tk], 1), (132, [r31, g28, tk], 1)]
theorem t6_5_ok : allW Try.prog lt5 t6_5 = true := by kernel_rfl
noncomputable def t6_6 : List Memo := [(132, [r32, g18, tk], 17), (132, [r32, g19, tk], 49), (132, [r32, g20, tk], 49), (132, [r32, g21, tk], 49), (132, [r32, g22, tk], 17), (132, [r32, g23, tk], 33), (132, [r32, g24, tk], 17), (132, [r32, g25, tk], 1), (132, [r32, g26, tk], 1), (132, [r32, g27, tk], 1), (132, [r32, g28, tk], 1)]
theorem t6_6_ok : allW Try.prog lt5 t6_6 = true := by kernel_rfl
noncomputable def t6_7 : List Memo := [(132, [r33, g18, tk], 17), (132, [r33, g19, tk], 33), (132, [r33, g20, tk], 49), (132, [r33, g21, tk], 17), (132, [r33, g22, tk], 17), (132, [r33, g23, tk], 33), (132, [r33, g24, tk], 1), (132, [r33, g25, tk], 17), (132, [r33, g26, tk], 1), (132, [r33, g27, tk], 1), (132, [r33, g28, tk], 1)]
theorem t6_7_ok : allW Try.prog lt5 t6_7 = true := by kernel_rfl
noncomputable def t6_8 : List Memo := [(132, [r34, g18, tk], 17), (132, [r34, g19, tk], 49), (132, [r34, g20, tk], 65), (132, [r34, g21, tk], 49), (132, [r34, g22, tk], 33), (132, [r34, g23, tk], 65), (132, [r34, g24, tk], 17), (132, [r34, g25, tk], 17), (132, [r34, g26, tk], 17), (132, [r34, g27, tk], 1), (132, [r34, g28, tk], 1)]
theorem t6_8_ok : allW Try.prog lt5 t6_8 = true := by kernel_rfl
noncomputable def t6_9 : List Memo := [(132, [r35, g18, tk], 17), (132, [r35, g19, tk], 65), (132, [r35, g20, tk], 97), (132, [r35, g21, tk], 97), (132, [r35, g22, tk], 49), (132, [r35, g23, tk], 129), (132, [r35, g24, tk], 65), (132, [r35, g25, tk], 33), (132, [r35, g26, tk], 49), (132, [r35, g27, tk], 17), (132, [r35, g28, tk], 1)]
theorem t6_9_ok : allW Try.prog lt5 t6_9 = true := by kernel_rfl
noncomputable def t6_10 : List Memo := [(132, [r36, g18, tk], 17), (132, [r36, g19, tk], 81), (132, [r36, g20, tk], 145), (132, [r36, g21, tk], 161), (132, [r36, g22, tk], 81), (132, [r36, g23, tk], 257), (132, [r36, g24, tk], 161), (132, [r36, g25, tk], 81), (132, [r36, g26, tk], 145), (132, [r36, g27, tk], 81), (132, [r36, g28, tk], 17)]
theorem t6_10_ok : allW Try.prog lt5 t6_10 = true := by kernel_rfl
noncomputable def t6S : Sums := onF 132 (orS (preS r26 (memoS t6_0)) (orS (preS r27 (memoS t6_1)) (orS (preS r28 (memoS t6_2)) (orS (preS r29 (memoS t6_3)) (orS (preS r30 (memoS t6_4)) (orS (preS r31 (memoS t6_5)) (orS (preS r32 (memoS t6_6)) (orS (preS r33 (memoS t6_7)) (orS (preS r34 (memoS t6_8)) (orS (preS r35 (memoS t6_9)) (preS r36 (memoS t6_10))))))))))))
theorem t6A : Always Try.prog t6S := onF_always (orS_always (grp_always lt5A t6_0_ok) (orS_always (grp_always lt5A t6_1_ok) (orS_always (grp_always lt5A t6_2_ok) (orS_always (grp_always lt5A t6_3_ok) (orS_always (grp_always lt5A t6_4_ok) (orS_always (grp_always lt5A t6_5_ok) (orS_always (grp_always lt5A t6_6_ok) (orS_always (grp_always lt5A t6_7_ok) (orS_always (grp_always lt5A t6_8_ok) (orS_always (grp_always lt5A t6_9_ok) (grp_always lt5A t6_10_ok)))))))))))
noncomputable def e6_0 : List Memo := [(107, [r26, r26], 17), (107, [r26, r37], 17), (107, [r26, r38], 17), (107, [r26, r39], 17), (107, [r26, r30], 17), (107, [r26, r40], 17), (107, [r26, r41], 17), (107, [r26, r33], 17), (107, [r26, r42], 17), (107, [r26, r43], 17), (107, [r26, r36], 17)]
theorem e6_0_ok : allW Try.prog t6S e6_0 = true := by kernel_rfl
noncomputable def e6_1 : List Memo := [(107, [r37, r26], 1), (107, [r37, r37], 17), (107, [r37, r38], 17), (107, [r37, r39], 33), (107, [r37, r30], 17), (107, [r37, r40], 33), (107, [r37, r41], 49), (107, [r37, r33], 33), (107, [r37, r42], 49), (107, [r37, r43], 65), (107, [r37, r36], 81)]
theorem e6_1_ok : allW Try.prog t6S e6_1 = true := by kernel_rfl
noncomputable def e6_2 : List Memo := [(107, [r38, r26], 1), (107, [r38, r37], 1), (107, [r38, r38], 17), (107, [r38, r39], 17), (107, [r38, r30], 17), (107, [r38, r40], 33), (107, [r38, r41], 49), (107, [r38, r33], 49), (107, [r38, r42], 65), (107, [r38, r43], 97), (107, [r38, r36], 145)]
theorem e6_2_ok : allW Try.prog t6S e6_2 = true := by kernel_rfl
noncomputable def e6_3 : List Memo := [(107, [r39, r26], 1), (107, [r39, r37], 1), (107, [r39, r38], 1), (107, [r39, r39], 17), (107, [r39, r30], 1), (107, [r39, r40], 17), (107, [r39, r41], 49), (107, [r39, r33], 17), (107, [r39, r42], 49), (107, [r39, r43], 97), (107, [r39, r36], 161)]
theorem e6_3_ok : allW Try.prog t6S e6_3 = true := by kernel_rfl
noncomputable def e6_4 : List Memo := [(107, [r30, r26], 1), (107, [r30, r37], 1), (107, [r30, r38], 1), (107, [r30, r39], 1), (107, [r30, r30], 17), (107, [r30, r40], 17), (107, [r30, r41], 17), (107, [r30, r33], 17), (107, [r30, r42], 33), (107, [r30, r43], 49), (107, [r30, r36], 81)]
theorem e6_4_ok : allW Try.prog t6S e6_4 = true := by kernel_rfl
noncomputable def e6_5 : List Memo := [(107, [r40, r26], 1), (107, [r40, r37], 1), (107, [r40, r38], 1), (107, [r40, r39], 1), (107, [r40, r30], 1), (107, [r40, r40], 17), (107, [r40, r41], 33), (107, [r40, r33], 33), (107, [r40, r42], 65), (107, [r40, r43], 129), (107, [r40, r36], 257)]
theorem e6_5_ok : allW Try.prog t6S e6_5 = true := by kernel_rfl
noncomputable def e6_6 : List Memo := [(107, [r41, r26], 1), (107, [r41, r37], 1), (107, [r41, r38], 1), (107, [r41, r39], 1), (107, [r41, r30], 1), (107, [r41, r40], 1), (107, [r41, r41], 17), (107, [r41, r33], 1), (107, [r41, r42], 17), (107, [r41, r43], 65), (107, [r41, r36], 161)]
theorem e6_6_ok : allW Try.prog t6S e6_6 = true := by kernel_rfl
noncomputable def e6_7 : List Memo := [(107, [r33, r26], 1), (107, [r33, r37], 1), (107, [r33, r38], 1), (107, [r33, r39], 1), (107, [r33, r30], 1), (107, [r33, r40], 1), (107, [r33, r41], 1), (107, [r33, r33], 17), (107, [r33, r42], 17), (107, [r33, r43], 33), (107, [r33, r36], 81)]
theorem e6_7_ok : allW Try.prog t6S e6_7 = true := by kernel_rfl
noncomputable def e6_8 : List Memo := [(107, [r42, r26], 1), (107, [r42, r37], 1), (107, [r42, r38], 1), (107, [r42, r39], 1), (107, [r42, r30], 1), (107, [r42, r40], 1), (107, [r42, r41], 1), (107, [r42, r33], 1), (107, [r42, r42], 17), (107, [r42, r43], 49), (107, [r42, r36], 145)]
theorem e6_8_ok : allW Try.prog t6S e6_8 = true := by kernel_rfl
noncomputable def e6_9 : List Memo := [(107, [r43, r26], 1), (107, [r43, r37], 1), (107, [r43, r38], 1), (107, [r43, r39], 1), (107, [r43, r30], 1), (107, [r43, r40], 1), (107, [r43, r41], 1), (107, [r43, r33], 1), (107, [r43, r42], 1), (107, [r43, r43], 17), (107, [r43, r36], 81)]
theorem e6_9_ok : allW Try.prog t6S e6_9 = true := by kernel_rfl
noncomputable def e6_10 : List Memo := [(107, [r36, r26], 1), (107, [r36, r37], 1), (107, [r36, r38], 1), (107, [r36, r39], 1), (107, [r36, r30], 1), (107, [r36, r40], 1), (107, [r36, r41], 1), (107, [r36, r33], 1), (107, [r36, r42], 1), (107, [r36, r43], 1), (107, [r36, r36], 17)]
theorem e6_10_ok : allW Try.prog t6S e6_10 = true := by kernel_rfl
noncomputable def e6S : Sums := onF 107 (orS (preS r26 (memoS e6_0)) (orS (preS r37 (memoS e6_1)) (orS (preS r38 (memoS e6_2)) (orS (preS r39 (memoS e6_3)) (orS (preS r30 (memoS e6_4)) (orS (preS r40 (memoS e6_5)) (orS (preS r41 (memoS e6_6)) (orS (preS r33 (memoS e6_7)) (orS (preS r42 (memoS e6_8)) (orS (preS r43 (memoS e6_9)) (preS r36 (memoS e6_10))))))))))))
theorem e6A : Always Try.prog e6S := onF_always (orS_always (grp_always t6A e6_0_ok) (orS_always (grp_always t6A e6_1_ok) (orS_always (grp_always t6A e6_2_ok) (orS_always (grp_always t6A e6_3_ok) (orS_always (grp_always t6A e6_4_ok) (orS_always (grp_always t6A e6_5_ok) (orS_always (grp_always t6A e6_6_ok) (orS_always (grp_always t6A e6_7_ok) (orS_always (grp_always t6A e6_8_ok) (orS_always (grp_always t6A e6_9_ok) (grp_always t6A e6_10_ok)))))))))))
noncomputable def s6_0 : List Memo := [(131, [r26, r26], 17), (131, [r26, r37], 17), (131, [r26, r38], 17), (131, [r26, r39], 17), (131, [r26, r30], 17), (131, [r26, r40], 17), (131, [r26, r41], 17), (131, [r26, r33], 17), (131, [r26, r42], 17), (131, [r26, r43], 17), (131, [r26, r36], 17)]
theorem s6_0_ok : allW Try.prog ls5 s6_0 = true := by kernel_rfl
noncomputable def s6_1 : List Memo := [(131, [r37, r26], 1), (131, [r37, r37], 17), (131, [r37, r38], 17), (131, [r37, r39], 33), (131, [r37, r30], 17), (131, [r37, r40], 33), (131, [r37, r41], 49), (131, [r37, r33], 33), (131, [r37, r42], 49), (131, [r37, r43], 65), (131, [r37, r36], 81)]
theorem s6_1_ok : allW Try.prog ls5 s6_1 = true := by kernel_rfl
noncomputable def s6_2 : List Memo := [(131, [r38, r26], 1), (131, [r38, r37], 1), (131, [r38, r38], 17), (131, [r38, r39], 17), (131, [r38, r30], 17), (131, [r38, r40], 33), (131, [r38, r41], 49), (131, [r38, r33], 49), (131, [r38, r42], 65), (131, [r38, r43], 97), (131, [r38, r36], 145)]
theorem s6_2_ok : allW Try.prog ls5 s6_2 = true := by kernel_rfl
noncomputable def s6_3 : List Memo := [(131, [r39, r26], 1), (131, [r39, r37], 1), (131, [r39, r38], 1), (131, [r39, r39], 17), (131, [r39, r30], 1), (131, [r39, r40], 17), (131, [r39, r41], 49), (131, [r39, r33], 17), (131, [r39, r42], 49), (131, [r39, r43], 97), (131, [r39, r36], 161)]
theorem s6_3_ok : allW Try.prog ls5 s6_3 = true := by kernel_rfl
noncomputable def s6_4 : List Memo := [(131, [r30, r26], 1), (131, [r30, r37], 1), (131, [r30, r38], 1), (131, [r30, r39], 1), (131, [r30, r30], 17), (131, [r30, r40], 17), (131, [r30, r41], 17), (131, [r30, r33], 17), (131, [r30, r42], 33), (131, [r30, r43], 49), (131, [r30, r36], 81)]
theorem s6_4_ok : allW Try.prog ls5 s6_4 = true := by kernel_rfl
noncomputable def s6_5 : List Memo := [(131, [r40, r26], 1), (131, [r40, r37], 1), (131, [r40, r38], 1), (131, [r40, r39], 1), (131, [r40, r30], 1), (131, [r40, r40], 17), (131, [r40, r41], 33), (131, [r40, r33], 33), (131, [r40, r42], 65), (131, [r40, r43], 129), (131, [r40, r36], 257)]
theorem s6_5_ok : allW Try.prog ls5 s6_5 = true := by kernel_rfl
noncomputable def s6_6 : List Memo := [(131, [r41, r26], 1), (131, [r41, r37], 1), (131, [r41, r38], 1), (131, [r41, r39], 1), (131, [r41, r30], 1), (131, [r41, r40], 1), (131, [r41, r41], 17), (131, [r41, r33], 1), (131, [r41, r42], 17), (131, [r41, r43], 65), (131, [r41, r36], 161)]
theorem s6_6_ok : allW Try.prog ls5 s6_6 = true := by kernel_rfl
noncomputable def s6_7 : List Memo := [(131, [r33, r26], 1), (131, [r33, r37], 1), (131, [r33, r38], 1), (131, [r33, r39], 1), (131, [r33, r30], 1), (131, [r33, r40], 1), (131, [r33, r41], 1), (131, [r33, r33], 17), (131, [r33, r42], 17), (131, [r33, r43], 33), (131, [r33, r36], 81)]
theorem s6_7_ok : allW Try.prog ls5 s6_7 = true := by kernel_rfl
noncomputable def s6_8 : List Memo := [(131, [r42, r26], 1), (131, [r42, r37], 1), (131, [r42, r38], 1), (131, [r42, r39], 1), (131, [r42, r30], 1), (131, [r42, r40], 1), (131, [r42, r41], 1), (131, [r42, r33], 1), (131, [r42, r42], 17), (131, [r42, r43], 49), (131, [r42, r36], 145)]
theorem s6_8_ok : allW Try.prog ls5 s6_8 = true := by kernel_rfl
noncomputable def s6_9 : List Memo := [(131, [r43, r26], 1), (131, [r43, r37], 1), (131, [r43, r38], 1), (131, [r43, r39], 1), (131, [r43, r30], 1), (131, [r43, r40], 1), (131, [r43, r41], 1), (131, [r43, r33], 1), (131, [r43, r42], 1), (131, [r43, r43], 17), (131, [r43, r36], 81)]
theorem s6_9_ok : allW Try.prog ls5 s6_9 = true := by kernel_rfl
noncomputable def s6_10 : List Memo := [(131, [r36, r26], 1), (131, [r36, r37], 1), (131, [r36, r38], 1), (131, [r36, r39], 1), (131, [r36, r30], 1), (131, [r36, r40], 1), (131, [r36, r41], 1), (131, [r36, r33], 1), (131, [r36, r42], 1), (131, [r36, r43], 1), (131, [r36, r36], 17)]
theorem s6_10_ok : allW Try.prog ls5 s6_10 = true := by kernel_rfl
noncomputable def s6S : Sums := onF 131 (orS (preS r26 (memoS s6_0)) (orS (preS r37 (memoS s6_1)) (orS (preS r38 (memoS s6_2)) (orS (preS r39 (memoS s6_3)) (orS (preS r30 (memoS s6_4)) (orS (preS r40 (memoS s6_5)) (orS (preS r41 (memoS s6_6)) (orS (preS r33 (memoS s6_7)) (orS (preS r42 (memoS s6_8)) (orS (preS r43 (memoS s6_9)) (preS r36 (memoS s6_10))))))))))))
theorem s6A : Always Try.prog s6S := onF_always (orS_always (grp_always ls5A s6_0_ok) (orS_always (grp_always ls5A s6_1_ok) (orS_always (grp_always ls5A s6_2_ok) (orS_always (grp_always ls5A s6_3_ok) (orS_always (grp_always ls5A s6_4_ok) (orS_always (grp_always ls5A s6_5_ok) (orS_always (grp_always ls5A s6_6_ok) (orS_always (grp_always ls5A s6_7_ok) (orS_always (grp_always ls5A s6_8_ok) (orS_always (grp_always ls5A s6_9_ok) (grp_always ls5A s6_10_ok)))))))))))
noncomputable def m6 : Sums := orS e6S s6S
theorem m6A : Always Try.prog m6 := orS_always e6A s6A
end Go.Proofs.Ytadmpiidofncpac.td
