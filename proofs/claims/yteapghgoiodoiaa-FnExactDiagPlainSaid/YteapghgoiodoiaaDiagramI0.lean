/- What is known of calls of the program at a seat. -/
import Derived.Test.YteapghgoiodoiaaDiagramH
namespace Go.Proofs.Yteapghgoiodoiaa.tabDiagram
open Go Go.Eng
set_option linter.unusedVariables false
set_option linter.unusedSectionVars false
set_option linter.unusedSimpArgs false
noncomputable def zI0_0 : Nat := 4562440617622195218641171605700291324906636315178502527678766542897481013336196154332701599174307240262464217217473149818850281782405713290331947587588056504502066119945014770622448722432229393
noncomputable def zI0_1 : Nat := 4562440617622195218641171605700291324906636315178502527678766542897481013336196154332701599174307240262464217217473149818850281782405713290331947587588051059984195384929599356628729814140846113
noncomputable def zI0_2 : Nat := 4562440617622195218641171605700291324906636315178502527678766542897481013336196154332701599174307240262464217217475002492278078841532490426092086594113708824256716368969646091966575332506468369
noncomputable def zI0_3 : Nat := 4562440617622195218641171605700291324906636315178502527678766542897481013336196154332701599174307240262464217217473149818850281782405713290331947587588056504502066119945014770622448722432229409
noncomputable def zI0_4 : Nat := 4562440617622195218641171605700291324906636315178502527678766542897481013336196154332701599174307240262464217217473149818850281782405713290331947587588051059984195384929599356628729814140846129
noncomputable def zI0_5 : Nat := 4562440617622195218641171605700291324906636315178502527678766542897481013336826586431843910841703704904066515038356278320605525988219663120560018142457664194039344629047804742219481380351377425
noncomputable def zI0_6 : Nat := 4562440617622195218641171605700291324906636315178502527678766542897481013336196154332701599174307240262464217217475002492278078841532490426092086594113708824256716368969646091966575332506468385
noncomputable def zI0_7 : Nat := 4562440617622195218641171605700291324906636315178502527678766542897481013336196154332701599174307240262464217217473149818850281782405713290331947587588061949019936854960430184616167630723612705
noncomputable def zI0_8 : Nat := 4562440617622195218641171605700291324906636315178502527678766542897481013336196154332701599174307240262464217217473149818850281782405713290331947587588056504502066119945014770622448722432229425
noncomputable def zI0_9 : Nat := 4562440617622195218641171605700291324906636315178502527678766542897481013336196154332701599174307240262464217217473149818850281782405713290331947587588051059984195384929599356628729814140846145
noncomputable def zI0_10 : Nat := 4562440617622195218641171605700291325121161242057584081271950942868774551376496439561322204885280688003614739519533029949435514758890117963600527873441441007699406754038949861362419764448722961
noncomputable def zI0_11 : Nat := 4562440617622195218641171605700291324906636315178502527678766542897481013336826586431843910841703704904066515038356278320605525988219663120560018142457664194039344629047804742219481380351377441
noncomputable def zI0_12 : Nat := 4562440617622195218641171605700291324906636315178502527678766542897481013336196154332701599174307240262464217217475002492278078841532490426092086594113714268774587103985061505960294240797851681
noncomputable def zI0_13 : Nat := 4562440617622195218641171605700291324906636315178502527678766542897481013336196154332701599174307240262464217217475002492278078841532490426092086594113708824256716368969646091966575332506468401
noncomputable def zI0_14 : Nat := 4562440617622195218641171605700291324906636315178502527678766542897481013336196154332701599174307240262464217217473149818850281782405713290331947587588061949019936854960430184616167630723612721
noncomputable def zI0_15 : Nat := 4562440617622195218641171605700291324906636315178502527678766542897481013336196154332701599174307240262464217217473149818850281782405713290331947587588056504502066119945014770622448722432229441
noncomputable def zI0_16 : Nat := 4562440617622195218641171605700291324906636315178502527678766542897481013336196154332701599174307240262464217217473149818850281782405713290331947587588051059984195384929599356628729814140846161
noncomputable def zI0_17 : Nat := 77561490499577318716899917296904952523412817358034542970539031229257177226715334623655927185963223084461891692697043546920454790300897125935643108988996868019731321543803189062688406840394383377
noncomputable def zI0_18 : Nat := 4562440617622195218641171605700291325121161242057584081271950942868774551376496439561322204885280688003614739519533029949435514758890117963600527873441441007699406754038949861362419764448722977
noncomputable def zI0_19 : Nat := 4562440617622195218641171605700291324906636315178502527678766542897481013336826586431843910841703704904066515038356278320605525988219663120560018142457669638557215364063220156213200288642760737
noncomputable def zI0_20 : Nat := 4562440617622195218641171605700291324906636315178502527678766542897481013336196154332701599174307240262464217217476855165705875900659267561852225600639366588529237353009692827304420850872090657
noncomputable def zI0_21 : Nat := 4562440617622195218641171605700291324906636315178502527678766542897481013336826586431843910841703704904066515038356278320605525988219663120560018142457664194039344629047804742219481380351377457
noncomputable def zI0_22 : Nat := 4562440617622195218641171605700291324906636315178502527678766542897481013336196154332701599174307240262464217217475002492278078841532490426092086594113714268774587103985061505960294240797851697
noncomputable def zI0_23 : Nat := 4562440617622195218641171605700291324906636315178502527678766542897481013336196154332701599174307240262464217217473149818850281782405713290331947587588067393537807589975845598609886539014996017
noncomputable def zI0_24 : Nat := 4562440617622195218641171605700291324906636315178502527678766542897481013336196154332701599174307240262464217217475002492278078841532490426092086594113708824256716368969646091966575332506468417
noncomputable def zI0_25 : Nat := 4562440617622195218641171605700291324906636315178502527678766542897481013336196154332701599174307240262464217217473149818850281782405713290331947587588061949019936854960430184616167630723612737
noncomputable def zI0_26 : Nat := 4562440617622195218641171605700291324906636315178502527678766542897481013336196154332701599174307240262464217217473149818850281782405713290331947587588056504502066119945014770622448722432229457
noncomputable def zI0_27 : Nat := 4562440617622195218641171605700291324906636315178502527678766542897481013336196154332701599174307240262464217217473149818850281782405713290331947587588051059984195384929599356628729814140846177
noncomputable def zI0_28 : Nat := 5784800237655953878877368326340059594769
noncomputable def zI0_29 : Nat := 11229318108390969294291362045248350978065
noncomputable def zI0_30 : Nat := 16673835979125984709705355764156642361361
noncomputable def zI0_31 : Nat := 22118353849861000125119349483064933744657
noncomputable def zI0_32 : Nat := 27562871720596015540533343201973225127953
noncomputable def zI0_33 : Nat := 11229318108390969294291362045248350978081
noncomputable def zI0_34 : Nat := 16673835979125984709705355764156642361377
noncomputable def zI0_35 : Nat := 22118353849861000125119349483064933744673
noncomputable def zI0_36 : Nat := 16673835979125984709705355764156642361393
noncomputable def zI0_37 : Nat := 1968465517034375322200706745147694433511374539553545542549656296460863263473681
noncomputable def zI0_38 : Nat := 3821138944831434448977842505286700959163694294203794567180977640587473337712657
noncomputable def zI0_39 : Nat := 5673812372628493575754978265425707484816014048854043591812298984714083411951633
noncomputable def zI0_40 : Nat := 7526485800425552702532114025564714010468333803504292616443620328840693486190609
noncomputable def zI0_41 : Nat := 3821138944831434448977842505286700959169138812074529582596391634306381629095953
noncomputable def zI0_42 : Nat := 5673812372628493575754978265425707484821458566724778607227712978432991703334929
noncomputable def zI0_43 : Nat := 3821138944831434448977842505286700959169138812074529582596391634306381629095969
noncomputable def zI0_44 : Nat := 669834105338706146608743681702441434688324033114946968677321694617324964548963954933596071875593222190173539098689553
noncomputable def zI0_45 : Nat := 1300266204481017814005208323304739255569599861442394115364494389085256512892919324716224331953751872443079586943598609
noncomputable def zI0_46 : Nat := 1930698303623329481401672964907037076450875689769841262051667083553188061236874694498852592031910522695985634788507665
noncomputable def zI0_47 : Nat := 1300266204481017814005208323304739255571452534870191174491271524845395519418571644470874580978383193787206197017837585
noncomputable def zI0_48 : Nat := 227932734809024150692758424969499384167819053055409393567909288224972429945938622638746810037514679965347866553719226819447412079678684911279545572202119185
noncomputable def zI0_49 : Nat := 442457661688105704285942824940792922207488906184887687611486271324520654427115374267576798808185134808388376284703003633107474204669830030422483956299464721
noncomputable def i1_0_0 : List Memo2 := [(108, [.row 1 1 17, .agg 6 4562440617622195218641171605700291324906636315178502527678766542897481013336196154332701599174307240262464217217473149818850281782405713290331947587588051059984195384929599356628729814140846097, .lit 2184], .lit 17)]
set_option maxRecDepth 100000 in
theorem i1_0_0_ok : allM Try.prog noSums i1_0_0 = true := by kernel_rfl
noncomputable def i1_1_0 : List Memo2 := [(108, [.row 1 1 33, .agg 6 zI0_0, .lit 2184], .lit 1), (108, [.row 1 1 33, .agg 6 zI0_1, .lit 2184], .lit 17)]
set_option maxRecDepth 100000 in
theorem i1_1_0_ok : allM Try.prog noSums i1_1_0 = true := by kernel_rfl
noncomputable def i1_2_0 : List Memo2 := [(108, [.row 1 1 49, .agg 6 zI0_2, .lit 2184], .lit 1), (108, [.row 1 1 49, .agg 6 zI0_3, .lit 2184], .lit 1), (108, [.row 1 1 49, .agg 6 zI0_4, .lit 2184], .lit 17)]
set_option maxRecDepth 100000 in
theorem i1_2_0_ok : allM Try.prog noSums i1_2_0 = true := by kernel_rfl
noncomputable def i1_3_0 : List Memo2 := [(108, [.row 1 1 65, .agg 6 zI0_5, .lit 2184], .lit 1), (108, [.row 1 1 65, .agg 6 zI0_6, .lit 2184], .lit 1), (108, [.row 1 1 65, .agg 6 zI0_7, .lit 2184], .lit 1), (108, [.row 1 1 65, .agg 6 zI0_8, .lit 2184], .lit 1), (108, [.row 1 1 65, .agg 6 zI0_9, .lit 2184], .lit 17)]
set_option maxRecDepth 100000 in
theorem i1_3_0_ok : allM Try.prog noSums i1_3_0 = true := by kernel_rfl
noncomputable def i1_4_0 : List Memo2 := [(108, [.row 1 1 81, .agg 6 zI0_10, .lit 2184], .lit 1), (108, [.row 1 1 81, .agg 6 zI0_11, .lit 2184], .lit 1), (108, [.row 1 1 81, .agg 6 zI0_12, .lit 2184], .lit 1), (108, [.row 1 1 81, .agg 6 zI0_13, .lit 2184], .lit 1), (108, [.row 1 1 81, .agg 6 zI0_14, .lit 2184], .lit 1), (108, [.row 1 1 81, .agg 6 zI0_15, .lit 2184], .lit 1), (108, [.row 1 1 81, .agg 6 zI0_16, .lit 2184], .lit 17)]
set_option maxRecDepth 100000 in
theorem i1_4_0_ok : allM Try.prog noSums i1_4_0 = true := by kernel_rfl
noncomputable def i1_5_0 : List Memo2 := [(108, [.row 1 1 97, .agg 6 zI0_17, .lit 2184], .lit 1), (108, [.row 1 1 97, .agg 6 zI0_18, .lit 2184], .lit 1), (108, [.row 1 1 97, .agg 6 zI0_19, .lit 2184], .lit 1), (108, [.row 1 1 97, .agg 6 zI0_20, .lit 2184], .lit 1), (108, [.row 1 1 97, .agg 6 zI0_21, .lit 2184], .lit 1), (108, [.row 1 1 97, .agg 6 zI0_22, .lit 2184], .lit 1), (108, [.row 1 1 97, .agg 6 zI0_23, .lit 2184], .lit 1), (108, [.row 1 1 97, .agg 6 zI0_24, .lit 2184], .lit 1)]
set_option maxRecDepth 100000 in
theorem i1_5_0_ok : allM Try.prog noSums i1_5_0 = true := by kernel_rfl
noncomputable def i1_5_1 : List Memo2 := [(108, [.row 1 1 97, .agg 6 zI0_25, .lit 2184], .lit 1), (108, [.row 1 1 97, .agg 6 zI0_26, .lit 2184], .lit 1), (108, [.row 1 1 97, .agg 6 zI0_27, .lit 2184], .lit 17)]
set_option maxRecDepth 100000 in
theorem i1_5_1_ok : allM Try.prog noSums i1_5_1 = true := by kernel_rfl
noncomputable def i1S : Sums := onF 108 (orS (preS (.row 1 1 17) (memo2S i1_0_0)) (orS (preS (.row 1 1 33) (memo2S i1_1_0)) (orS (preS (.row 1 1 49) (memo2S i1_2_0)) (orS (preS (.row 1 1 65) (memo2S i1_3_0)) (orS (preS (.row 1 1 81) (memo2S i1_4_0)) (preS (.row 1 1 97) (orS (memo2S i1_5_0) (memo2S i1_5_1))))))))
theorem i1S_always : Always Try.prog i1S := onF_always (orS_always (preS_always (memo2S_always _ (allM_all (noSums_always _) _ i1_0_0_ok))) (orS_always (preS_always (memo2S_always _ (allM_all (noSums_always _) _ i1_1_0_ok))) (orS_always (preS_always (memo2S_always _ (allM_all (noSums_always _) _ i1_2_0_ok))) (orS_always (preS_always (memo2S_always _ (allM_all (noSums_always _) _ i1_3_0_ok))) (orS_always (preS_always (memo2S_always _ (allM_all (noSums_always _) _ i1_4_0_ok))) (preS_always (orS_always (memo2S_always _ (allM_all (noSums_always _) _ i1_5_0_ok)) (memo2S_always _ (allM_all (noSums_always _) _ i1_5_1_ok)))))))))
noncomputable def i2_0_0 : List Memo2 := [(108, [.row 1 2 zI0_28, .agg 6 zI0_0, .lit 2184], .lit 17), (108, [.row 1 2 zI0_28, .agg 6 zI0_1, .lit 2184], .lit 17)]
set_option maxRecDepth 100000 in
theorem i2_0_0_ok : allM Try.prog i1S i2_0_0 = true := by kernel_rfl
noncomputable def i2_1_0 : List Memo2 := [(108, [.row 1 2 zI0_29, .agg 6 zI0_2, .lit 2184], .lit 1), (108, [.row 1 2 zI0_29, .agg 6 zI0_3, .lit 2184], .lit 17), (108, [.row 1 2 zI0_29, .agg 6 zI0_4, .lit 2184], .lit 17)]
set_option maxRecDepth 100000 in
theorem i2_1_0_ok : allM Try.prog i1S i2_1_0 = true := by kernel_rfl
noncomputable def i2_2_0 : List Memo2 := [(108, [.row 1 2 zI0_30, .agg 6 zI0_5, .lit 2184], .lit 1), (108, [.row 1 2 zI0_30, .agg 6 zI0_6, .lit 2184], .lit 1), (108, [.row 1 2 zI0_30, .agg 6 zI0_7, .lit 2184], .lit 1), (108, [.row 1 2 zI0_30, .agg 6 zI0_8, .lit 2184], .lit 17), (108, [.row 1 2 zI0_30, .agg 6 zI0_9, .lit 2184], .lit 17)]
set_option maxRecDepth 100000 in
theorem i2_2_0_ok : allM Try.prog i1S i2_2_0 = true := by kernel_rfl
noncomputable def i2_3_0 : List Memo2 := [(108, [.row 1 2 zI0_31, .agg 6 zI0_10, .lit 2184], .lit 1), (108, [.row 1 2 zI0_31, .agg 6 zI0_11, .lit 2184], .lit 1), (108, [.row 1 2 zI0_31, .agg 6 zI0_12, .lit 2184], .lit 1), (108, [.row 1 2 zI0_31, .agg 6 zI0_13, .lit 2184], .lit 1), (108, [.row 1 2 zI0_31, .agg 6 zI0_14, .lit 2184], .lit 1), (108, [.row 1 2 zI0_31, .agg 6 zI0_15, .lit 2184], .lit 17), (108, [.row 1 2 zI0_31, .agg 6 zI0_16, .lit 2184], .lit 17)]
set_option maxRecDepth 100000 in
theorem i2_3_0_ok : allM Try.prog i1S i2_3_0 = true := by kernel_rfl
noncomputable def i2_4_0 : List Memo2 := [(108, [.row 1 2 zI0_32, .agg 6 zI0_17, .lit 2184], .lit 1), (108, [.row 1 2 zI0_32, .agg 6 zI0_18, .lit 2184], .lit 1), (108, [.row 1 2 zI0_32, .agg 6 zI0_19, .lit 2184], .lit 1), (108, [.row 1 2 zI0_32, .agg 6 zI0_20, .lit 2184], .lit 1), (108, [.row 1 2 zI0_32, .agg 6 zI0_21, .lit 2184], .lit 1), (108, [.row 1 2 zI0_32, .agg 6 zI0_22, .lit 2184], .lit 1), (108, [.row 1 2 zI0_32, .agg 6 zI0_23, .lit 2184], .lit 1), (108, [.row 1 2 zI0_32, .agg 6 zI0_24, .lit 2184], .lit 1)]
set_option maxRecDepth 100000 in
theorem i2_4_0_ok : allM Try.prog i1S i2_4_0 = true := by kernel_rfl
noncomputable def i2_4_1 : List Memo2 := [(108, [.row 1 2 zI0_32, .agg 6 zI0_25, .lit 2184], .lit 1), (108, [.row 1 2 zI0_32, .agg 6 zI0_26, .lit 2184], .lit 17), (108, [.row 1 2 zI0_32, .agg 6 zI0_27, .lit 2184], .lit 17)]
set_option maxRecDepth 100000 in
theorem i2_4_1_ok : allM Try.prog i1S i2_4_1 = true := by kernel_rfl
noncomputable def i2_5_0 : List Memo2 := [(108, [.row 1 2 zI0_33, .agg 6 zI0_5, .lit 2184], .lit 1), (108, [.row 1 2 zI0_33, .agg 6 zI0_6, .lit 2184], .lit 1), (108, [.row 1 2 zI0_33, .agg 6 zI0_7, .lit 2184], .lit 17), (108, [.row 1 2 zI0_33, .agg 6 zI0_8, .lit 2184], .lit 17), (108, [.row 1 2 zI0_33, .agg 6 zI0_9, .lit 2184], .lit 17)]
set_option maxRecDepth 100000 in
theorem i2_5_0_ok : allM Try.prog i1S i2_5_0 = true := by kernel_rfl
noncomputable def i2_6_0 : List Memo2 := [(108, [.row 1 2 zI0_34, .agg 6 zI0_10, .lit 2184], .lit 1), (108, [.row 1 2 zI0_34, .agg 6 zI0_11, .lit 2184], .lit 1), (108, [.row 1 2 zI0_34, .agg 6 zI0_12, .lit 2184], .lit 1), (108, [.row 1 2 zI0_34, .agg 6 zI0_13, .lit 2184], .lit 1), (108, [.row 1 2 zI0_34, .agg 6 zI0_14, .lit 2184], .lit 17), (108, [.row 1 2 zI0_34, .agg 6 zI0_15, .lit 2184], .lit 17), (108, [.row 1 2 zI0_34, .agg 6 zI0_16, .lit 2184], .lit 17)]
set_option maxRecDepth 100000 in
theorem i2_6_0_ok : allM Try.prog i1S i2_6_0 = true := by kernel_rfl
noncomputable def i2_7_0 : List Memo2 := [(108, [.row 1 2 zI0_35, .agg 6 zI0_17, .lit 2184], .lit 1), (108, [.row 1 2 zI0_35, .agg 6 zI0_18, .lit 2184], .lit 1), (108, [.row 1 2 zI0_35, .agg 6 zI0_19, .lit 2184], .lit 1), (108, [.row 1 2 zI0_35, .agg 6 zI0_20, .lit 2184], .lit 1), (108, [.row 1 2 zI0_35, .agg 6 zI0_21, .lit 2184], .lit 1), (108, [.row 1 2 zI0_35, .agg 6 zI0_22, .lit 2184], .lit 1), (108, [.row 1 2 zI0_35, .agg 6 zI0_23, .lit 2184], .lit 1), (108, [.row 1 2 zI0_35, .agg 6 zI0_24, .lit 2184], .lit 1)]
set_option maxRecDepth 100000 in
theorem i2_7_0_ok : allM Try.prog i1S i2_7_0 = true := by kernel_rfl
noncomputable def i2_7_1 : List Memo2 := [(108, [.row 1 2 zI0_35, .agg 6 zI0_25, .lit 2184], .lit 17), (108, [.row 1 2 zI0_35, .agg 6 zI0_26, .lit 2184], .lit 17), (108, [.row 1 2 zI0_35, .agg 6 zI0_27, .lit 2184], .lit 17)]
set_option maxRecDepth 100000 in
theorem i2_7_1_ok : allM Try.prog i1S i2_7_1 = true := by kernel_rfl
noncomputable def i2_8_0 : List Memo2 := [(108, [.row 1 2 zI0_36, .agg 6 zI0_17, .lit 2184], .lit 1), (108, [.row 1 2 zI0_36, .agg 6 zI0_18, .lit 2184], .lit 1), (108, [.row 1 2 zI0_36, .agg 6 zI0_19, .lit 2184], .lit 1), (108, [.row 1 2 zI0_36, .agg 6 zI0_20, .lit 2184], .lit 1), (108, [.row 1 2 zI0_36, .agg 6 zI0_21, .lit 2184], .lit 1), (108, [.row 1 2 zI0_36, .agg 6 zI0_22, .lit 2184], .lit 1), (108, [.row 1 2 zI0_36, .agg 6 zI0_23, .lit 2184], .lit 17), (108, [.row 1 2 zI0_36, .agg 6 zI0_24, .lit 2184], .lit 1)]
set_option maxRecDepth 100000 in
theorem i2_8_0_ok : allM Try.prog i1S i2_8_0 = true := by kernel_rfl
noncomputable def i2_8_1 : List Memo2 := [(108, [.row 1 2 zI0_36, .agg 6 zI0_25, .lit 2184], .lit 17), (108, [.row 1 2 zI0_36, .agg 6 zI0_26, .lit 2184], .lit 17), (108, [.row 1 2 zI0_36, .agg 6 zI0_27, .lit 2184], .lit 17)]
set_option maxRecDepth 100000 in
theorem i2_8_1_ok : allM Try.prog i1S i2_8_1 = true := by kernel_rfl
noncomputable def i2S : Sums := onF 108 (orS (preS (.row 1 2 zI0_28) (memo2S i2_0_0)) (orS (preS (.row 1 2 zI0_29) (memo2S i2_1_0)) (orS (preS (.row 1 2 zI0_30) (memo2S i2_2_0)) (orS (preS (.row 1 2 zI0_31) (memo2S i2_3_0)) (orS (preS (.row 1 2 zI0_32) (orS (memo2S i2_4_0) (memo2S i2_4_1))) (orS (preS (.row 1 2 zI0_33) (memo2S i2_5_0)) (orS (preS (.row 1 2 zI0_34) (memo2S i2_6_0)) (orS (preS (.row 1 2 zI0_35) (orS (memo2S i2_7_0) (memo2S i2_7_1))) (preS (.row 1 2 zI0_36) (orS (memo2S i2_8_0) (memo2S i2_8_1)))))))))))
theorem i2S_always : Always Try.prog i2S := onF_always (orS_always (preS_always (memo2S_always _ (allM_all i1S_always _ i2_0_0_ok))) (orS_always (preS_always (memo2S_always _ (allM_all i1S_always _ i2_1_0_ok))) (orS_always (preS_always (memo2S_always _ (allM_all i1S_always _ i2_2_0_ok))) (orS_always (preS_always (memo2S_always _ (allM_all i1S_always _ i2_3_0_ok))) (orS_always (preS_always (orS_always (memo2S_always _ (allM_all i1S_always _ i2_4_0_ok)) (memo2S_always _ (allM_all i1S_always _ i2_4_1_ok)))) (orS_always (preS_always (memo2S_always _ (allM_all i1S_always _ i2_5_0_ok))) (orS_always (preS_always (memo2S_always _ (allM_all i1S_always _ i2_6_0_ok))) (orS_always (preS_always (orS_always (memo2S_always _ (allM_all i1S_always _ i2_7_0_ok)) (memo2S_always _ (allM_all i1S_always _ i2_7_1_ok)))) (preS_always (orS_always (memo2S_always _ (allM_all i1S_always _ i2_8_0_ok)) (memo2S_always _ (allM_all i1S_always _ i2_8_1_ok))))))))))))
noncomputable def i3_0_0 : List Memo2 := [(108, [.row 1 3 zI0_37, .agg 6 zI0_2, .lit 2184], .lit 17), (108, [.row 1 3 zI0_37, .agg 6 zI0_3, .lit 2184], .lit 33), (108, [.row 1 3 zI0_37, .agg 6 zI0_4, .lit 2184], .lit 17)]
set_option maxRecDepth 100000 in
theorem i3_0_0_ok : allM Try.prog i2S i3_0_0 = true := by kernel_rfl
noncomputable def i3_1_0 : List Memo2 := [(108, [.row 1 3 zI0_38, .agg 6 zI0_5, .lit 2184], .lit 1), (108, [.row 1 3 zI0_38, .agg 6 zI0_6, .lit 2184], .lit 17), (108, [.row 1 3 zI0_38, .agg 6 zI0_7, .lit 2184], .lit 17), (108, [.row 1 3 zI0_38, .agg 6 zI0_8, .lit 2184], .lit 33), (108, [.row 1 3 zI0_38, .agg 6 zI0_9, .lit 2184], .lit 17)]
set_option maxRecDepth 100000 in
theorem i3_1_0_ok : allM Try.prog i2S i3_1_0 = true := by kernel_rfl
noncomputable def i3_2_0 : List Memo2 := [(108, [.row 1 3 zI0_39, .agg 6 zI0_10, .lit 2184], .lit 1), (108, [.row 1 3 zI0_39, .agg 6 zI0_11, .lit 2184], .lit 1), (108, [.row 1 3 zI0_39, .agg 6 zI0_12, .lit 2184], .lit 1), (108, [.row 1 3 zI0_39, .agg 6 zI0_13, .lit 2184], .lit 17), (108, [.row 1 3 zI0_39, .agg 6 zI0_14, .lit 2184], .lit 17), (108, [.row 1 3 zI0_39, .agg 6 zI0_15, .lit 2184], .lit 33), (108, [.row 1 3 zI0_39, .agg 6 zI0_16, .lit 2184], .lit 17)]
set_option maxRecDepth 100000 in
theorem i3_2_0_ok : allM Try.prog i2S i3_2_0 = true := by kernel_rfl
noncomputable def i3_3_0 : List Memo2 := [(108, [.row 1 3 zI0_40, .agg 6 zI0_17, .lit 2184], .lit 1), (108, [.row 1 3 zI0_40, .agg 6 zI0_18, .lit 2184], .lit 1), (108, [.row 1 3 zI0_40, .agg 6 zI0_19, .lit 2184], .lit 1), (108, [.row 1 3 zI0_40, .agg 6 zI0_20, .lit 2184], .lit 1), (108, [.row 1 3 zI0_40, .agg 6 zI0_21, .lit 2184], .lit 1), (108, [.row 1 3 zI0_40, .agg 6 zI0_22, .lit 2184], .lit 1), (108, [.row 1 3 zI0_40, .agg 6 zI0_23, .lit 2184], .lit 1), (108, [.row 1 3 zI0_40, .agg 6 zI0_24, .lit 2184], .lit 17)]
set_option maxRecDepth 100000 in
theorem i3_3_0_ok : allM Try.prog i2S i3_3_0 = true := by kernel_rfl
noncomputable def i3_3_1 : List Memo2 := [(108, [.row 1 3 zI0_40, .agg 6 zI0_25, .lit 2184], .lit 17), (108, [.row 1 3 zI0_40, .agg 6 zI0_26, .lit 2184], .lit 33), (108, [.row 1 3 zI0_40, .agg 6 zI0_27, .lit 2184], .lit 17)]
set_option maxRecDepth 100000 in
theorem i3_3_1_ok : allM Try.prog i2S i3_3_1 = true := by kernel_rfl
noncomputable def i3_4_0 : List Memo2 := [(108, [.row 1 3 zI0_41, .agg 6 zI0_10, .lit 2184], .lit 1), (108, [.row 1 3 zI0_41, .agg 6 zI0_11, .lit 2184], .lit 1), (108, [.row 1 3 zI0_41, .agg 6 zI0_12, .lit 2184], .lit 17), (108, [.row 1 3 zI0_41, .agg 6 zI0_13, .lit 2184], .lit 17), (108, [.row 1 3 zI0_41, .agg 6 zI0_14, .lit 2184], .lit 33), (108, [.row 1 3 zI0_41, .agg 6 zI0_15, .lit 2184], .lit 33), (108, [.row 1 3 zI0_41, .agg 6 zI0_16, .lit 2184], .lit 17)]
set_option maxRecDepth 100000 in
theorem i3_4_0_ok : allM Try.prog i2S i3_4_0 = true := by kernel_rfl
noncomputable def i3_5_0 : List Memo2 := [(108, [.row 1 3 zI0_42, .agg 6 zI0_17, .lit 2184], .lit 1), (108, [.row 1 3 zI0_42, .agg 6 zI0_18, .lit 2184], .lit 1), (108, [.row 1 3 zI0_42, .agg 6 zI0_19, .lit 2184], .lit 1), (108, [.row 1 3 zI0_42, .agg 6 zI0_20, .lit 2184], .lit 1), (108, [.row 1 3 zI0_42, .agg 6 zI0_21, .lit 2184], .lit 1), (108, [.row 1 3 zI0_42, .agg 6 zI0_22, .lit 2184], .lit 17), (108, [.row 1 3 zI0_42, .agg 6 zI0_23, .lit 2184], .lit 17), (108, [.row 1 3 zI0_42, .agg 6 zI0_24, .lit 2184], .lit 17)]
set_option maxRecDepth 100000 in
theorem i3_5_0_ok : allM Try.prog i2S i3_5_0 = true := by kernel_rfl
noncomputable def i3_5_1 : List Memo2 := [(108, [.row 1 3 zI0_42, .agg 6 zI0_25, .lit 2184], .lit 33), (108, [.row 1 3 zI0_42, .agg 6 zI0_26, .lit 2184], .lit 33), (108, [.row 1 3 zI0_42, .agg 6 zI0_27, .lit 2184], .lit 17)]
set_option maxRecDepth 100000 in
theorem i3_5_1_ok : allM Try.prog i2S i3_5_1 = true := by kernel_rfl
noncomputable def i3_6_0 : List Memo2 := [(108, [.row 1 3 zI0_43, .agg 6 zI0_17, .lit 2184], .lit 1), (108, [.row 1 3 zI0_43, .agg 6 zI0_18, .lit 2184], .lit 1), (108, [.row 1 3 zI0_43, .agg 6 zI0_19, .lit 2184], .lit 1), (108, [.row 1 3 zI0_43, .agg 6 zI0_20, .lit 2184], .lit 17), (108, [.row 1 3 zI0_43, .agg 6 zI0_21, .lit 2184], .lit 1), (108, [.row 1 3 zI0_43, .agg 6 zI0_22, .lit 2184], .lit 33), (108, [.row 1 3 zI0_43, .agg 6 zI0_23, .lit 2184], .lit 17), (108, [.row 1 3 zI0_43, .agg 6 zI0_24, .lit 2184], .lit 17)]
set_option maxRecDepth 100000 in
theorem i3_6_0_ok : allM Try.prog i2S i3_6_0 = true := by kernel_rfl
noncomputable def i3_6_1 : List Memo2 := [(108, [.row 1 3 zI0_43, .agg 6 zI0_25, .lit 2184], .lit 49), (108, [.row 1 3 zI0_43, .agg 6 zI0_26, .lit 2184], .lit 33), (108, [.row 1 3 zI0_43, .agg 6 zI0_27, .lit 2184], .lit 17)]
set_option maxRecDepth 100000 in
theorem i3_6_1_ok : allM Try.prog i2S i3_6_1 = true := by kernel_rfl
noncomputable def i3S : Sums := onF 108 (orS (preS (.row 1 3 zI0_37) (memo2S i3_0_0)) (orS (preS (.row 1 3 zI0_38) (memo2S i3_1_0)) (orS (preS (.row 1 3 zI0_39) (memo2S i3_2_0)) (orS (preS (.row 1 3 zI0_40) (orS (memo2S i3_3_0) (memo2S i3_3_1))) (orS (preS (.row 1 3 zI0_41) (memo2S i3_4_0)) (orS (preS (.row 1 3 zI0_42) (orS (memo2S i3_5_0) (memo2S i3_5_1))) (preS (.row 1 3 zI0_43) (orS (memo2S i3_6_0) (memo2S i3_6_1)))))))))
theorem i3S_always : Always Try.prog i3S := onF_always (orS_always (preS_always (memo2S_always _ (allM_all i2S_always _ i3_0_0_ok))) (orS_always (preS_always (memo2S_always _ (allM_all i2S_always _ i3_1_0_ok))) (orS_always (preS_always (memo2S_always _ (allM_all i2S_always _ i3_2_0_ok))) (orS_always (preS_always (orS_always (memo2S_always _ (allM_all i2S_always _ i3_3_0_ok)) (memo2S_always _ (allM_all i2S_always _ i3_3_1_ok)))) (orS_always (preS_always (memo2S_always _ (allM_all i2S_always _ i3_4_0_ok))) (orS_always (preS_always (orS_always (memo2S_always _ (allM_all i2S_always _ i3_5_0_ok)) (memo2S_always _ (allM_all i2S_always _ i3_5_1_ok)))) (preS_always (orS_always (memo2S_always _ (allM_all i2S_always _ i3_6_0_ok)) (memo2S_always _ (allM_all i2S_always _ i3_6_1_ok))))))))))
noncomputable def i4_0_0 : List Memo2 := [(108, [.row 1 4 zI0_44, .agg 6 zI0_5, .lit 2184], .lit 17), (108, [.row 1 4 zI0_44, .agg 6 zI0_6, .lit 2184], .lit 49), (108, [.row 1 4 zI0_44, .agg 6 zI0_7, .lit 2184], .lit 33), (108, [.row 1 4 zI0_44, .agg 6 zI0_8, .lit 2184], .lit 49), (108, [.row 1 4 zI0_44, .agg 6 zI0_9, .lit 2184], .lit 17)]
set_option maxRecDepth 100000 in
theorem i4_0_0_ok : allM Try.prog i3S i4_0_0 = true := by kernel_rfl
noncomputable def i4_1_0 : List Memo2 := [(108, [.row 1 4 zI0_45, .agg 6 zI0_10, .lit 2184], .lit 1), (108, [.row 1 4 zI0_45, .agg 6 zI0_11, .lit 2184], .lit 17), (108, [.row 1 4 zI0_45, .agg 6 zI0_12, .lit 2184], .lit 33), (108, [.row 1 4 zI0_45, .agg 6 zI0_13, .lit 2184], .lit 49), (108, [.row 1 4 zI0_45, .agg 6 zI0_14, .lit 2184], .lit 49), (108, [.row 1 4 zI0_45, .agg 6 zI0_15, .lit 2184], .lit 49), (108, [.row 1 4 zI0_45, .agg 6 zI0_16, .lit 2184], .lit 17)]
set_option maxRecDepth 100000 in
theorem i4_1_0_ok : allM Try.prog i3S i4_1_0 = true := by kernel_rfl
noncomputable def i4_2_0 : List Memo2 := [(108, [.row 1 4 zI0_46, .agg 6 zI0_17, .lit 2184], .lit 1), (108, [.row 1 4 zI0_46, .agg 6 zI0_18, .lit 2184], .lit 1), (108, [.row 1 4 zI0_46, .agg 6 zI0_19, .lit 2184], .lit 1), (108, [.row 1 4 zI0_46, .agg 6 zI0_20, .lit 2184], .lit 1), (108, [.row 1 4 zI0_46, .agg 6 zI0_21, .lit 2184], .lit 17), (108, [.row 1 4 zI0_46, .agg 6 zI0_22, .lit 2184], .lit 33), (108, [.row 1 4 zI0_46, .agg 6 zI0_23, .lit 2184], .lit 17), (108, [.row 1 4 zI0_46, .agg 6 zI0_24, .lit 2184], .lit 49)]
set_option maxRecDepth 100000 in
theorem i4_2_0_ok : allM Try.prog i3S i4_2_0 = true := by kernel_rfl
noncomputable def i4_2_1 : List Memo2 := [(108, [.row 1 4 zI0_46, .agg 6 zI0_25, .lit 2184], .lit 49), (108, [.row 1 4 zI0_46, .agg 6 zI0_26, .lit 2184], .lit 49), (108, [.row 1 4 zI0_46, .agg 6 zI0_27, .lit 2184], .lit 17)]
set_option maxRecDepth 100000 in
theorem i4_2_1_ok : allM Try.prog i3S i4_2_1 = true := by kernel_rfl
noncomputable def i4_3_0 : List Memo2 := [(108, [.row 1 4 zI0_47, .agg 6 zI0_17, .lit 2184], .lit 1), (108, [.row 1 4 zI0_47, .agg 6 zI0_18, .lit 2184], .lit 1), (108, [.row 1 4 zI0_47, .agg 6 zI0_19, .lit 2184], .lit 17), (108, [.row 1 4 zI0_47, .agg 6 zI0_20, .lit 2184], .lit 17), (108, [.row 1 4 zI0_47, .agg 6 zI0_21, .lit 2184], .lit 17), (108, [.row 1 4 zI0_47, .agg 6 zI0_22, .lit 2184], .lit 65), (108, [.row 1 4 zI0_47, .agg 6 zI0_23, .lit 2184], .lit 33), (108, [.row 1 4 zI0_47, .agg 6 zI0_24, .lit 2184], .lit 49)]
set_option maxRecDepth 100000 in
theorem i4_3_0_ok : allM Try.prog i3S i4_3_0 = true := by kernel_rfl
noncomputable def i4_3_1 : List Memo2 := [(108, [.row 1 4 zI0_47, .agg 6 zI0_25, .lit 2184], .lit 65), (108, [.row 1 4 zI0_47, .agg 6 zI0_26, .lit 2184], .lit 49), (108, [.row 1 4 zI0_47, .agg 6 zI0_27, .lit 2184], .lit 17)]
set_option maxRecDepth 100000 in
theorem i4_3_1_ok : allM Try.prog i3S i4_3_1 = true := by kernel_rfl
noncomputable def i4S : Sums := onF 108 (orS (preS (.row 1 4 zI0_44) (memo2S i4_0_0)) (orS (preS (.row 1 4 zI0_45) (memo2S i4_1_0)) (orS (preS (.row 1 4 zI0_46) (orS (memo2S i4_2_0) (memo2S i4_2_1))) (preS (.row 1 4 zI0_47) (orS (memo2S i4_3_0) (memo2S i4_3_1))))))
theorem i4S_always : Always Try.prog i4S := onF_always (orS_always (preS_always (memo2S_always _ (allM_all i3S_always _ i4_0_0_ok))) (orS_always (preS_always (memo2S_always _ (allM_all i3S_always _ i4_1_0_ok))) (orS_always (preS_always (orS_always (memo2S_always _ (allM_all i3S_always _ i4_2_0_ok)) (memo2S_always _ (allM_all i3S_always _ i4_2_1_ok)))) (preS_always (orS_always (memo2S_always _ (allM_all i3S_always _ i4_3_0_ok)) (memo2S_always _ (allM_all i3S_always _ i4_3_1_ok)))))))
noncomputable def i5_0_0 : List Memo2 := [(108, [.row 1 5 zI0_48, .agg 6 zI0_10, .lit 2184], .lit 17), (108, [.row 1 5 zI0_48, .agg 6 zI0_11, .lit 2184], .lit 65), (108, [.row 1 5 zI0_48, .agg 6 zI0_12, .lit 2184], .lit 81), (108, [.row 1 5 zI0_48, .agg 6 zI0_13, .lit 2184], .lit 97), (108, [.row 1 5 zI0_48, .agg 6 zI0_14, .lit 2184], .lit 81), (108, [.row 1 5 zI0_48, .agg 6 zI0_15, .lit 2184], .lit 65), (108, [.row 1 5 zI0_48, .agg 6 zI0_16, .lit 2184], .lit 17)]
set_option maxRecDepth 100000 in
theorem i5_0_0_ok : allM Try.prog i4S i5_0_0 = true := by kernel_rfl
noncomputable def i5_1_0 : List Memo2 := [(108, [.row 1 5 zI0_49, .agg 6 zI0_17, .lit 2184], .lit 1), (108, [.row 1 5 zI0_49, .agg 6 zI0_18, .lit 2184], .lit 17), (108, [.row 1 5 zI0_49, .agg 6 zI0_19, .lit 2184], .lit 49), (108, [.row 1 5 zI0_49, .agg 6 zI0_20, .lit 2184], .lit 33), (108, [.row 1 5 zI0_49, .agg 6 zI0_21, .lit 2184], .lit 65), (108, [.row 1 5 zI0_49, .agg 6 zI0_22, .lit 2184], .lit 129), (108, [.row 1 5 zI0_49, .agg 6 zI0_23, .lit 2184], .lit 49), (108, [.row 1 5 zI0_49, .agg 6 zI0_24, .lit 2184], .lit 97)]
set_option maxRecDepth 100000 in
theorem i5_1_0_ok : allM Try.prog i4S i5_1_0 = true := by kernel_rfl
noncomputable def i5_1_1 : List Memo2 := [(108, [.row 1 5 zI0_49, .agg 6 zI0_25, .lit 2184], .lit 97), (108, [.row 1 5 zI0_49, .agg 6 zI0_26, .lit 2184], .lit 65), (108, [.row 1 5 zI0_49, .agg 6 zI0_27, .lit 2184], .lit 17)]
set_option maxRecDepth 100000 in
theorem i5_1_1_ok : allM Try.prog i4S i5_1_1 = true := by kernel_rfl
noncomputable def i5S : Sums := onF 108 (orS (preS (.row 1 5 zI0_48) (memo2S i5_0_0)) (preS (.row 1 5 zI0_49) (orS (memo2S i5_1_0) (memo2S i5_1_1))))
theorem i5S_always : Always Try.prog i5S := onF_always (orS_always (preS_always (memo2S_always _ (allM_all i4S_always _ i5_0_0_ok))) (preS_always (orS_always (memo2S_always _ (allM_all i4S_always _ i5_1_0_ok)) (memo2S_always _ (allM_all i4S_always _ i5_1_1_ok)))))
noncomputable def i6_0_0 : List Memo2 := [(108, [.row 1 6 zI0_17, .agg 6 zI0_17, .lit 2184], .lit 17), (108, [.row 1 6 zI0_17, .agg 6 zI0_18, .lit 2184], .lit 81), (108, [.row 1 6 zI0_17, .agg 6 zI0_19, .lit 2184], .lit 145), (108, [.row 1 6 zI0_17, .agg 6 zI0_20, .lit 2184], .lit 81), (108, [.row 1 6 zI0_17, .agg 6 zI0_21, .lit 2184], .lit 161), (108, [.row 1 6 zI0_17, .agg 6 zI0_22, .lit 2184], .lit 257), (108, [.row 1 6 zI0_17, .agg 6 zI0_23, .lit 2184], .lit 81), (108, [.row 1 6 zI0_17, .agg 6 zI0_24, .lit 2184], .lit 161)]
set_option maxRecDepth 100000 in
theorem i6_0_0_ok : allM Try.prog i5S i6_0_0 = true := by kernel_rfl
noncomputable def i6_0_1 : List Memo2 := [(108, [.row 1 6 zI0_17, .agg 6 zI0_25, .lit 2184], .lit 145), (108, [.row 1 6 zI0_17, .agg 6 zI0_26, .lit 2184], .lit 81), (108, [.row 1 6 zI0_17, .agg 6 zI0_27, .lit 2184], .lit 17)]
set_option maxRecDepth 100000 in
theorem i6_0_1_ok : allM Try.prog i5S i6_0_1 = true := by kernel_rfl
noncomputable def i6S : Sums := onF 108 (preS (.row 1 6 zI0_17) (orS (memo2S i6_0_0) (memo2S i6_0_1)))
theorem i6S_always : Always Try.prog i6S := onF_always (preS_always (orS_always (memo2S_always _ (allM_all i5S_always _ i6_0_0_ok)) (memo2S_always _ (allM_all i5S_always _ i6_0_1_ok))))
end Go.Proofs.Yteapghgoiodoiaa.tabDiagram
