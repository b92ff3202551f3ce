/- What is known of calls of the program at a seat. -/
import Derived.Test.YtliimffphokmpaaDhK2
namespace Go.Proofs.Ytliimffphokmpaa.dhM
open Go Go.Eng
set_option linter.unusedVariables false
set_option linter.unusedSectionVars false
set_option linter.unusedSimpArgs false
noncomputable def e3_0 : List MemoP := [(68, [.row [17], .row [42535295865126979339478698981903564860, 42535295865146322152592533048698863676, 42535295865165664965706367115494162492]], true, [.poly (polyN [1, 8, 64]) 0 72 1 0 18446744073709551615])]
set_option maxRecDepth 100000 in
theorem e3_0_ok : allP Try.prog (orS (Go.Proofs.Ytliimffphokmpaa.memo.allsS) (k2S)) e3_0 = true := by kernel_rfl
noncomputable def e3_1 : List MemoP := [(68, [.row [33], .row [42535295865126979339478698981903564860, 42535295865146322152592533048698863676, 42535295865165664965706367115494162492]], true, [.poly (polyN [2, 9, 16, 65, 72, 128]) 0 200 2 0 18446744073709551615])]
set_option maxRecDepth 100000 in
theorem e3_1_ok : allP Try.prog (orS (Go.Proofs.Ytliimffphokmpaa.memo.allsS) (k2S)) e3_1 = true := by kernel_rfl
noncomputable def e3_2 : List MemoP := [(68, [.row [17, 17], .row [42535295865126979339478698981903564860, 42535295865146322152592533048698863676, 42535295865165664965706367115494162492]], true, [.poly (polyN [9, 65, 72]) 0 172 2 0 18446744073709551615])]
set_option maxRecDepth 100000 in
theorem e3_2_ok : allP Try.prog (orS (Go.Proofs.Ytliimffphokmpaa.memo.allsS) (k2S)) e3_2 = true := by kernel_rfl
noncomputable def e3_3 : List MemoP := [(68, [.row [49], .row [42535295865126979339478698981903564860, 42535295865146322152592533048698863676, 42535295865165664965706367115494162492]], true, [.poly (polyN [3, 10, 17, 24, 66, 73, 80, 129, 136, 192]) 0 408 3 0 18446744073709551615])]
set_option maxRecDepth 100000 in
theorem e3_3_ok : allP Try.prog (orS (Go.Proofs.Ytliimffphokmpaa.memo.allsS) (k2S)) e3_3 = true := by kernel_rfl
noncomputable def e3_4 : List MemoP := [(68, [.row [33, 17], .row [42535295865126979339478698981903564860, 42535295865146322152592533048698863676, 42535295865165664965706367115494162492]], true, [.poly (polyN [10, 17, 66, 73, 73, 80, 129, 136]) 0 548 3 0 18446744073709551615])]
set_option maxRecDepth 100000 in
theorem e3_4_ok : allP Try.prog (orS (Go.Proofs.Ytliimffphokmpaa.memo.allsS) (k2S)) e3_4 = true := by kernel_rfl
noncomputable def e3_5 : List MemoP := [(68, [.row [17, 17, 17], .row [42535295865126979339478698981903564860, 42535295865146322152592533048698863676, 42535295865165664965706367115494162492]], true, [.poly (polyN [73]) 0 212 3 0 18446744073709551615])]
set_option maxRecDepth 100000 in
theorem e3_5_ok : allP Try.prog (orS (Go.Proofs.Ytliimffphokmpaa.memo.allsS) (k2S)) e3_5 = true := by kernel_rfl
noncomputable def e3_6 : List MemoP := [(68, [.row [65], .row [42535295865126979339478698981903564860, 42535295865146322152592533048698863676, 42535295865165664965706367115494162492]], true, [.poly (polyN [4, 11, 18, 25, 32, 67, 74, 81, 88, 130, 137, 144, 193, 200, 256]) 0 712 4 0 18446744073709551615])]
set_option maxRecDepth 100000 in
theorem e3_6_ok : allP Try.prog (orS (Go.Proofs.Ytliimffphokmpaa.memo.allsS) (k2S)) e3_6 = true := by kernel_rfl
noncomputable def e3_7 : List MemoP := [(68, [.row [49, 17], .row [42535295865126979339478698981903564860, 42535295865146322152592533048698863676, 42535295865165664965706367115494162492]], true, [.poly (polyN [11, 18, 25, 67, 74, 74, 81, 81, 88, 130, 137, 137, 144, 193, 200]) 0 1196 4 0 18446744073709551615])]
set_option maxRecDepth 100000 in
theorem e3_7_ok : allP Try.prog (orS (Go.Proofs.Ytliimffphokmpaa.memo.allsS) (k2S)) e3_7 = true := by kernel_rfl
noncomputable def e3_8 : List MemoP := [(68, [.row [33, 33], .row [42535295865126979339478698981903564860, 42535295865146322152592533048698863676, 42535295865165664965706367115494162492]], true, [.poly (polyN [18, 74, 81, 130, 137, 144]) 0 596 4 0 18446744073709551615])]
set_option maxRecDepth 100000 in
theorem e3_8_ok : allP Try.prog (orS (Go.Proofs.Ytliimffphokmpaa.memo.allsS) (k2S)) e3_8 = true := by kernel_rfl
noncomputable def e3_9 : List MemoP := [(68, [.row [33, 17, 17], .row [42535295865126979339478698981903564860, 42535295865146322152592533048698863676, 42535295865165664965706367115494162492]], true, [.poly (polyN [74, 81, 137]) 0 724 4 0 18446744073709551615])]
set_option maxRecDepth 100000 in
theorem e3_9_ok : allP Try.prog (orS (Go.Proofs.Ytliimffphokmpaa.memo.allsS) (k2S)) e3_9 = true := by kernel_rfl
noncomputable def e3_10 : List MemoP := [(68, [.row [17, 17, 17, 17], .row [42535295865126979339478698981903564860, 42535295865146322152592533048698863676, 42535295865165664965706367115494162492]], true, [.lit 1])]
set_option maxRecDepth 100000 in
theorem e3_10_ok : allP Try.prog (orS (Go.Proofs.Ytliimffphokmpaa.memo.allsS) (k2S)) e3_10 = true := by kernel_rfl
noncomputable def e3_11 : List MemoP := [(68, [.row [81], .row [42535295865126979339478698981903564860, 42535295865146322152592533048698863676, 42535295865165664965706367115494162492]], true, [.poly (polyN [5, 12, 19, 26, 33, 40, 68, 75, 82, 89, 96, 131, 138, 145, 152, 194, 201, 208, 257, 264, 320]) 0 1128 5 0 18446744073709551615])]
set_option maxRecDepth 100000 in
theorem e3_11_ok : allP Try.prog (orS (Go.Proofs.Ytliimffphokmpaa.memo.allsS) (k2S)) e3_11 = true := by kernel_rfl
noncomputable def e3_12 : List MemoP := [(68, [.row [65, 17], .row [42535295865126979339478698981903564860, 42535295865146322152592533048698863676, 42535295865165664965706367115494162492]], true, [.poly (polyN [12, 19, 26, 33, 68, 75, 75, 82, 82, 89, 89, 96, 131, 138, 138, 145, 145, 152, 194, 201, 201, 208, 257, 264]) 0 2180 5 0 18446744073709551615])]
set_option maxRecDepth 100000 in
theorem e3_12_ok : allP Try.prog (orS (Go.Proofs.Ytliimffphokmpaa.memo.allsS) (k2S)) e3_12 = true := by kernel_rfl
noncomputable def e3_13 : List MemoP := [(68, [.row [49, 33], .row [42535295865126979339478698981903564860, 42535295865146322152592533048698863676, 42535295865165664965706367115494162492]], true, [.poly (polyN [19, 26, 75, 82, 82, 89, 131, 138, 138, 145, 145, 152, 194, 201, 208]) 0 1764 5 0 18446744073709551615])]
set_option maxRecDepth 100000 in
theorem e3_13_ok : allP Try.prog (orS (Go.Proofs.Ytliimffphokmpaa.memo.allsS) (k2S)) e3_13 = true := by kernel_rfl
noncomputable def e3_14 : List MemoP := [(68, [.row [49, 17, 17], .row [42535295865126979339478698981903564860, 42535295865146322152592533048698863676, 42535295865165664965706367115494162492]], true, [.poly (polyN [75, 82, 89, 138, 145, 201]) 0 1652 5 0 18446744073709551615])]
set_option maxRecDepth 100000 in
theorem e3_14_ok : allP Try.prog (orS (Go.Proofs.Ytliimffphokmpaa.memo.allsS) (k2S)) e3_14 = true := by kernel_rfl
noncomputable def e3_15 : List MemoP := [(68, [.row [33, 33, 17], .row [42535295865126979339478698981903564860, 42535295865146322152592533048698863676, 42535295865165664965706367115494162492]], true, [.poly (polyN [82, 138, 145]) 0 1044 5 0 18446744073709551615])]
set_option maxRecDepth 100000 in
theorem e3_15_ok : allP Try.prog (orS (Go.Proofs.Ytliimffphokmpaa.memo.allsS) (k2S)) e3_15 = true := by kernel_rfl
noncomputable def e3_16 : List MemoP := [(68, [.row [33, 17, 17, 17], .row [42535295865126979339478698981903564860, 42535295865146322152592533048698863676, 42535295865165664965706367115494162492]], true, [.lit 1])]
set_option maxRecDepth 100000 in
theorem e3_16_ok : allP Try.prog (orS (Go.Proofs.Ytliimffphokmpaa.memo.allsS) (k2S)) e3_16 = true := by kernel_rfl
noncomputable def e3_17 : List MemoP := [(68, [.row [17, 17, 17, 17, 17], .row [42535295865126979339478698981903564860, 42535295865146322152592533048698863676, 42535295865165664965706367115494162492]], true, [.lit 1])]
set_option maxRecDepth 100000 in
theorem e3_17_ok : allP Try.prog (orS (Go.Proofs.Ytliimffphokmpaa.memo.allsS) (k2S)) e3_17 = true := by kernel_rfl
noncomputable def e3_18 : List MemoP := [(68, [.row [97], .row [42535295865126979339478698981903564860, 42535295865146322152592533048698863676, 42535295865165664965706367115494162492]], true, [.poly (polyN [6, 13, 20, 27, 34, 41, 48, 69, 76, 83, 90, 97, 104, 132, 139, 146, 153, 160, 195, 202, 209, 216, 258, 265, 272, 321, 328, 384]) 0 1672 6 0 18446744073709551615])]
set_option maxRecDepth 100000 in
theorem e3_18_ok : allP Try.prog (orS (Go.Proofs.Ytliimffphokmpaa.memo.allsS) (k2S)) e3_18 = true := by kernel_rfl
noncomputable def e3_19 : List MemoP := [(68, [.row [81, 17], .row [42535295865126979339478698981903564860, 42535295865146322152592533048698863676, 42535295865165664965706367115494162492]], true, [.poly (polyN [13, 20, 27, 34, 41, 69, 76, 76, 83, 83, 90, 90, 97, 97, 104, 132, 139, 139, 146, 146, 153, 153, 160, 195, 202, 202, 209, 209, 216, 258, 265, 265, 272, 321, 328]) 0 3564 6 0 18446744073709551615])]
set_option maxRecDepth 100000 in
theorem e3_19_ok : allP Try.prog (orS (Go.Proofs.Ytliimffphokmpaa.memo.allsS) (k2S)) e3_19 = true := by kernel_rfl
noncomputable def e3_20 : List MemoP := [(68, [.row [65, 33], .row [42535295865126979339478698981903564860, 42535295865146322152592533048698863676, 42535295865165664965706367115494162492]], true, [.poly (polyN [20, 27, 34, 76, 83, 83, 90, 90, 97, 132, 139, 139, 146, 146, 146, 153, 153, 160, 195, 202, 202, 209, 209, 216, 258, 265, 272]) 0 3668 6 0 18446744073709551615])]
set_option maxRecDepth 100000 in
theorem e3_20_ok : allP Try.prog (orS (Go.Proofs.Ytliimffphokmpaa.memo.allsS) (k2S)) e3_20 = true := by kernel_rfl
noncomputable def e3_21 : List MemoP := [(68, [.row [65, 17, 17], .row [42535295865126979339478698981903564860, 42535295865146322152592533048698863676, 42535295865165664965706367115494162492]], true, [.poly (polyN [76, 83, 90, 97, 139, 146, 153, 202, 209, 265]) 0 3108 6 0 18446744073709551615])]
set_option maxRecDepth 100000 in
theorem e3_21_ok : allP Try.prog (orS (Go.Proofs.Ytliimffphokmpaa.memo.allsS) (k2S)) e3_21 = true := by kernel_rfl
noncomputable def e3_22 : List MemoP := [(68, [.row [49, 49], .row [42535295865126979339478698981903564860, 42535295865146322152592533048698863676, 42535295865165664965706367115494162492]], true, [.poly (polyN [27, 83, 90, 139, 146, 153, 195, 202, 209, 216]) 0 1564 6 0 18446744073709551615])]
set_option maxRecDepth 100000 in
theorem e3_22_ok : allP Try.prog (orS (Go.Proofs.Ytliimffphokmpaa.memo.allsS) (k2S)) e3_22 = true := by kernel_rfl
noncomputable def e3_23 : List MemoP := [(68, [.row [49, 33, 17], .row [42535295865126979339478698981903564860, 42535295865146322152592533048698863676, 42535295865165664965706367115494162492]], true, [.poly (polyN [83, 90, 139, 146, 146, 153, 202, 209]) 0 3284 6 0 18446744073709551615])]
set_option maxRecDepth 100000 in
theorem e3_23_ok : allP Try.prog (orS (Go.Proofs.Ytliimffphokmpaa.memo.allsS) (k2S)) e3_23 = true := by kernel_rfl
noncomputable def e3_24 : List MemoP := [(68, [.row [49, 17, 17, 17], .row [42535295865126979339478698981903564860, 42535295865146322152592533048698863676, 42535295865165664965706367115494162492]], true, [.lit 1])]
set_option maxRecDepth 100000 in
theorem e3_24_ok : allP Try.prog (orS (Go.Proofs.Ytliimffphokmpaa.memo.allsS) (k2S)) e3_24 = true := by kernel_rfl
noncomputable def e3_25 : List MemoP := [(68, [.row [33, 33, 33], .row [42535295865126979339478698981903564860, 42535295865146322152592533048698863676, 42535295865165664965706367115494162492]], true, [.poly (polyN [146]) 0 748 6 0 18446744073709551615])]
set_option maxRecDepth 100000 in
theorem e3_25_ok : allP Try.prog (orS (Go.Proofs.Ytliimffphokmpaa.memo.allsS) (k2S)) e3_25 = true := by kernel_rfl
noncomputable def e3_26 : List MemoP := [(68, [.row [33, 33, 17, 17], .row [42535295865126979339478698981903564860, 42535295865146322152592533048698863676, 42535295865165664965706367115494162492]], true, [.lit 1])]
set_option maxRecDepth 100000 in
theorem e3_26_ok : allP Try.prog (orS (Go.Proofs.Ytliimffphokmpaa.memo.allsS) (k2S)) e3_26 = true := by kernel_rfl
noncomputable def e3_27 : List MemoP := [(68, [.row [33, 17, 17, 17, 17], .row [42535295865126979339478698981903564860, 42535295865146322152592533048698863676, 42535295865165664965706367115494162492]], true, [.lit 1])]
set_option maxRecDepth 100000 in
theorem e3_27_ok : allP Try.prog (orS (Go.Proofs.Ytliimffphokmpaa.memo.allsS) (k2S)) e3_27 = true := by kernel_rfl
noncomputable def e3_28 : List MemoP := [(68, [.row [17, 17, 17, 17, 17, 17], .row [42535295865126979339478698981903564860, 42535295865146322152592533048698863676, 42535295865165664965706367115494162492]], true, [.lit 1])]
set_option maxRecDepth 100000 in
theorem e3_28_ok : allP Try.prog (orS (Go.Proofs.Ytliimffphokmpaa.memo.allsS) (k2S)) e3_28 = true := by kernel_rfl
noncomputable def k3L : List MemoP := e3_0 ++ e3_1 ++ e3_2 ++ e3_3 ++ e3_4 ++ e3_5 ++ e3_6 ++ e3_7 ++ e3_8 ++ e3_9 ++ e3_10 ++ e3_11 ++ e3_12 ++ e3_13 ++ e3_14 ++ e3_15 ++ e3_16 ++ e3_17 ++ e3_18 ++ e3_19 ++ e3_20 ++ e3_21 ++ e3_22 ++ e3_23 ++ e3_24 ++ e3_25 ++ e3_26 ++ e3_27 ++ e3_28
theorem k3_all : ∀ e ∈ k3L, ∀ E, MemoPK E Try.prog e := by
  intro e he
  unfold k3L at he
  simp only [List.mem_append] at he
  rcases he with ((((((((((((((((((((((((((((he | he) | he) | he) | he) | he) | he) | he) | he) | he) | he) | he) | he) | he) | he) | he) | he) | he) | he) | he) | he) | he) | he) | he) | he) | he) | he) | he) | he)
  · exact allP_all (orS_always (Go.Proofs.Ytliimffphokmpaa.memo.allsS_always) (k2_always)) _ e3_0_ok e he
  · exact allP_all (orS_always (Go.Proofs.Ytliimffphokmpaa.memo.allsS_always) (k2_always)) _ e3_1_ok e he
  · exact allP_all (orS_always (Go.Proofs.Ytliimffphokmpaa.memo.allsS_always) (k2_always)) _ e3_2_ok e he
  · exact allP_all (orS_always (Go.Proofs.Ytliimffphokmpaa.memo.allsS_always) (k2_always)) _ e3_3_ok e he
  · exact allP_all (orS_always (Go.Proofs.Ytliimffphokmpaa.memo.allsS_always) (k2_always)) _ e3_4_ok e he
  · exact allP_all (orS_always (Go.Proofs.Ytliimffphokmpaa.memo.allsS_always) (k2_always)) _ e3_5_ok e he
  · exact allP_all (orS_always (Go.Proofs.Ytliimffphokmpaa.memo.allsS_always) (k2_always)) _ e3_6_ok e he
  · exact allP_all (orS_always (Go.Proofs.Ytliimffphokmpaa.memo.allsS_always) (k2_always)) _ e3_7_ok e he
  · exact allP_all (orS_always (Go.Proofs.Ytliimffphokmpaa.memo.allsS_always) (k2_always)) _ e3_8_ok e he
  · exact allP_all (orS_always (Go.Proofs.Ytliimffphokmpaa.memo.allsS_always) (k2_always)) _ e3_9_ok e he
  · exact allP_all (orS_always (Go.Proofs.Ytliimffphokmpaa.memo.allsS_always) (k2_always)) _ e3_10_ok e he
  · exact allP_all (orS_always (Go.Proofs.Ytliimffphokmpaa.memo.allsS_always) (k2_always)) _ e3_11_ok e he
  · exact allP_all (orS_always (Go.Proofs.Ytliimffphokmpaa.memo.allsS_always) (k2_always)) _ e3_12_ok e he
  · exact allP_all (orS_always (Go.Proofs.Ytliimffphokmpaa.memo.allsS_always) (k2_always)) _ e3_13_ok e he
  · exact allP_all (orS_always (Go.Proofs.Ytliimffphokmpaa.memo.allsS_always) (k2_always)) _ e3_14_ok e he
  · exact allP_all (orS_always (Go.Proofs.Ytliimffphokmpaa.memo.allsS_always) (k2_always)) _ e3_15_ok e he
  · exact allP_all (orS_always (Go.Proofs.Ytliimffphokmpaa.memo.allsS_always) (k2_always)) _ e3_16_ok e he
  · exact allP_all (orS_always (Go.Proofs.Ytliimffphokmpaa.memo.allsS_always) (k2_always)) _ e3_17_ok e he
  · exact allP_all (orS_always (Go.Proofs.Ytliimffphokmpaa.memo.allsS_always) (k2_always)) _ e3_18_ok e he
  · exact allP_all (orS_always (Go.Proofs.Ytliimffphokmpaa.memo.allsS_always) (k2_always)) _ e3_19_ok e he
  · exact allP_all (orS_always (Go.Proofs.Ytliimffphokmpaa.memo.allsS_always) (k2_always)) _ e3_20_ok e he
  · exact allP_all (orS_always (Go.Proofs.Ytliimffphokmpaa.memo.allsS_always) (k2_always)) _ e3_21_ok e he
  · exact allP_all (orS_always (Go.Proofs.Ytliimffphokmpaa.memo.allsS_always) (k2_always)) _ e3_22_ok e he
  · exact allP_all (orS_always (Go.Proofs.Ytliimffphokmpaa.memo.allsS_always) (k2_always)) _ e3_23_ok e he
  · exact allP_all (orS_always (Go.Proofs.Ytliimffphokmpaa.memo.allsS_always) (k2_always)) _ e3_24_ok e he
  · exact allP_all (orS_always (Go.Proofs.Ytliimffphokmpaa.memo.allsS_always) (k2_always)) _ e3_25_ok e he
  · exact allP_all (orS_always (Go.Proofs.Ytliimffphokmpaa.memo.allsS_always) (k2_always)) _ e3_26_ok e he
  · exact allP_all (orS_always (Go.Proofs.Ytliimffphokmpaa.memo.allsS_always) (k2_always)) _ e3_27_ok e he
  · exact allP_all (orS_always (Go.Proofs.Ytliimffphokmpaa.memo.allsS_always) (k2_always)) _ e3_28_ok e he
noncomputable def k3S : Sums := onF 68 (memoP k3L)
theorem k3_always : Always Try.prog k3S := onF_always (memoP_always _ k3_all)
end Go.Proofs.Ytliimffphokmpaa.dhM
