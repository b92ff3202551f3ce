/- What is known of calls of the program at a seat. -/
import Derived.Test.YtliimffphokmpaaDhK1
namespace Go.Proofs.Ytliimffphokmpaa.dhM
open Go Go.Eng
set_option linter.unusedVariables false
set_option linter.unusedSectionVars false
set_option linter.unusedSimpArgs false
noncomputable def e2_0 : List MemoP := [(68, [.row [17], .row [42535295865126979339478698981903564860, 42535295865146322152592533048698863676]], true, [.poly (polyN [1, 8]) 0 32 1 0 18446744073709551615])]
set_option maxRecDepth 100000 in
theorem e2_0_ok : allP Try.prog (orS (Go.Proofs.Ytliimffphokmpaa.memo.allsS) (k1S)) e2_0 = true := by kernel_rfl
noncomputable def e2_1 : List MemoP := [(68, [.row [33], .row [42535295865126979339478698981903564860, 42535295865146322152592533048698863676]], true, [.poly (polyN [2, 9, 16]) 0 64 2 0 18446744073709551615])]
set_option maxRecDepth 100000 in
theorem e2_1_ok : allP Try.prog (orS (Go.Proofs.Ytliimffphokmpaa.memo.allsS) (k1S)) e2_1 = true := by kernel_rfl
noncomputable def e2_2 : List MemoP := [(68, [.row [17, 17], .row [42535295865126979339478698981903564860, 42535295865146322152592533048698863676]], true, [.poly (polyN [9]) 0 52 2 0 18446744073709551615])]
set_option maxRecDepth 100000 in
theorem e2_2_ok : allP Try.prog (orS (Go.Proofs.Ytliimffphokmpaa.memo.allsS) (k1S)) e2_2 = true := by kernel_rfl
noncomputable def e2_3 : List MemoP := [(68, [.row [49], .row [42535295865126979339478698981903564860, 42535295865146322152592533048698863676]], true, [.poly (polyN [3, 10, 17, 24]) 0 104 3 0 18446744073709551615])]
set_option maxRecDepth 100000 in
theorem e2_3_ok : allP Try.prog (orS (Go.Proofs.Ytliimffphokmpaa.memo.allsS) (k1S)) e2_3 = true := by kernel_rfl
noncomputable def e2_4 : List MemoP := [(68, [.row [33, 17], .row [42535295865126979339478698981903564860, 42535295865146322152592533048698863676]], true, [.poly (polyN [10, 17]) 0 124 3 0 18446744073709551615])]
set_option maxRecDepth 100000 in
theorem e2_4_ok : allP Try.prog (orS (Go.Proofs.Ytliimffphokmpaa.memo.allsS) (k1S)) e2_4 = true := by kernel_rfl
noncomputable def e2_5 : List MemoP := [(68, [.row [17, 17, 17], .row [42535295865126979339478698981903564860, 42535295865146322152592533048698863676]], true, [.lit 1])]
set_option maxRecDepth 100000 in
theorem e2_5_ok : allP Try.prog (orS (Go.Proofs.Ytliimffphokmpaa.memo.allsS) (k1S)) e2_5 = true := by kernel_rfl
noncomputable def e2_6 : List MemoP := [(68, [.row [65], .row [42535295865126979339478698981903564860, 42535295865146322152592533048698863676]], true, [.poly (polyN [4, 11, 18, 25, 32]) 0 152 4 0 18446744073709551615])]
set_option maxRecDepth 100000 in
theorem e2_6_ok : allP Try.prog (orS (Go.Proofs.Ytliimffphokmpaa.memo.allsS) (k1S)) e2_6 = true := by kernel_rfl
noncomputable def e2_7 : List MemoP := [(68, [.row [49, 17], .row [42535295865126979339478698981903564860, 42535295865146322152592533048698863676]], true, [.poly (polyN [11, 18, 25]) 0 220 4 0 18446744073709551615])]
set_option maxRecDepth 100000 in
theorem e2_7_ok : allP Try.prog (orS (Go.Proofs.Ytliimffphokmpaa.memo.allsS) (k1S)) e2_7 = true := by kernel_rfl
noncomputable def e2_8 : List MemoP := [(68, [.row [33, 33], .row [42535295865126979339478698981903564860, 42535295865146322152592533048698863676]], true, [.poly (polyN [18]) 0 108 4 0 18446744073709551615])]
set_option maxRecDepth 100000 in
theorem e2_8_ok : allP Try.prog (orS (Go.Proofs.Ytliimffphokmpaa.memo.allsS) (k1S)) e2_8 = true := by kernel_rfl
noncomputable def e2_9 : List MemoP := [(68, [.row [33, 17, 17], .row [42535295865126979339478698981903564860, 42535295865146322152592533048698863676]], true, [.lit 1])]
set_option maxRecDepth 100000 in
theorem e2_9_ok : allP Try.prog (orS (Go.Proofs.Ytliimffphokmpaa.memo.allsS) (k1S)) e2_9 = true := by kernel_rfl
noncomputable def e2_10 : List MemoP := [(68, [.row [17, 17, 17, 17], .row [42535295865126979339478698981903564860, 42535295865146322152592533048698863676]], true, [.lit 1])]
set_option maxRecDepth 100000 in
theorem e2_10_ok : allP Try.prog (orS (Go.Proofs.Ytliimffphokmpaa.memo.allsS) (k1S)) e2_10 = true := by kernel_rfl
noncomputable def e2_11 : List MemoP := [(68, [.row [81], .row [42535295865126979339478698981903564860, 42535295865146322152592533048698863676]], true, [.poly (polyN [5, 12, 19, 26, 33, 40]) 0 208 5 0 18446744073709551615])]
set_option maxRecDepth 100000 in
theorem e2_11_ok : allP Try.prog (orS (Go.Proofs.Ytliimffphokmpaa.memo.allsS) (k1S)) e2_11 = true := by kernel_rfl
noncomputable def e2_12 : List MemoP := [(68, [.row [65, 17], .row [42535295865126979339478698981903564860, 42535295865146322152592533048698863676]], true, [.poly (polyN [12, 19, 26, 33]) 0 340 5 0 18446744073709551615])]
set_option maxRecDepth 100000 in
theorem e2_12_ok : allP Try.prog (orS (Go.Proofs.Ytliimffphokmpaa.memo.allsS) (k1S)) e2_12 = true := by kernel_rfl
noncomputable def e2_13 : List MemoP := [(68, [.row [49, 33], .row [42535295865126979339478698981903564860, 42535295865146322152592533048698863676]], true, [.poly (polyN [19, 26]) 0 260 5 0 18446744073709551615])]
set_option maxRecDepth 100000 in
theorem e2_13_ok : allP Try.prog (orS (Go.Proofs.Ytliimffphokmpaa.memo.allsS) (k1S)) e2_13 = true := by kernel_rfl
noncomputable def e2_14 : List MemoP := [(68, [.row [49, 17, 17], .row [42535295865126979339478698981903564860, 42535295865146322152592533048698863676]], true, [.lit 1])]
set_option maxRecDepth 100000 in
theorem e2_14_ok : allP Try.prog (orS (Go.Proofs.Ytliimffphokmpaa.memo.allsS) (k1S)) e2_14 = true := by kernel_rfl
noncomputable def e2_15 : List MemoP := [(68, [.row [33, 33, 17], .row [42535295865126979339478698981903564860, 42535295865146322152592533048698863676]], true, [.lit 1])]
set_option maxRecDepth 100000 in
theorem e2_15_ok : allP Try.prog (orS (Go.Proofs.Ytliimffphokmpaa.memo.allsS) (k1S)) e2_15 = true := by kernel_rfl
noncomputable def e2_16 : List MemoP := [(68, [.row [33, 17, 17, 17], .row [42535295865126979339478698981903564860, 42535295865146322152592533048698863676]], true, [.lit 1])]
set_option maxRecDepth 100000 in
theorem e2_16_ok : allP Try.prog (orS (Go.Proofs.Ytliimffphokmpaa.memo.allsS) (k1S)) e2_16 = true := by kernel_rfl
noncomputable def e2_17 : List MemoP := [(68, [.row [17, 17, 17, 17, 17], .row [42535295865126979339478698981903564860, 42535295865146322152592533048698863676]], true, [.lit 1])]
set_option maxRecDepth 100000 in
theorem e2_17_ok : allP Try.prog (orS (Go.Proofs.Ytliimffphokmpaa.memo.allsS) (k1S)) e2_17 = true := by kernel_rfl
noncomputable def e2_18 : List MemoP := [(68, [.row [97], .row [42535295865126979339478698981903564860, 42535295865146322152592533048698863676]], true, [.poly (polyN [6, 13, 20, 27, 34, 41, 48]) 0 272 6 0 18446744073709551615])]
set_option maxRecDepth 100000 in
theorem e2_18_ok : allP Try.prog (orS (Go.Proofs.Ytliimffphokmpaa.memo.allsS) (k1S)) e2_18 = true := by kernel_rfl
noncomputable def e2_19 : List MemoP := [(68, [.row [81, 17], .row [42535295865126979339478698981903564860, 42535295865146322152592533048698863676]], true, [.poly (polyN [13, 20, 27, 34, 41]) 0 484 6 0 18446744073709551615])]
set_option maxRecDepth 100000 in
theorem e2_19_ok : allP Try.prog (orS (Go.Proofs.Ytliimffphokmpaa.memo.allsS) (k1S)) e2_19 = true := by kernel_rfl
noncomputable def e2_20 : List MemoP := [(68, [.row [65, 33], .row [42535295865126979339478698981903564860, 42535295865146322152592533048698863676]], true, [.poly (polyN [20, 27, 34]) 0 460 6 0 18446744073709551615])]
set_option maxRecDepth 100000 in
theorem e2_20_ok : allP Try.prog (orS (Go.Proofs.Ytliimffphokmpaa.memo.allsS) (k1S)) e2_20 = true := by kernel_rfl
noncomputable def e2_21 : List MemoP := [(68, [.row [65, 17, 17], .row [42535295865126979339478698981903564860, 42535295865146322152592533048698863676]], true, [.lit 1])]
set_option maxRecDepth 100000 in
theorem e2_21_ok : allP Try.prog (orS (Go.Proofs.Ytliimffphokmpaa.memo.allsS) (k1S)) e2_21 = true := by kernel_rfl
noncomputable def e2_22 : List MemoP := [(68, [.row [49, 49], .row [42535295865126979339478698981903564860, 42535295865146322152592533048698863676]], true, [.poly (polyN [27]) 0 196 6 0 18446744073709551615])]
set_option maxRecDepth 100000 in
theorem e2_22_ok : allP Try.prog (orS (Go.Proofs.Ytliimffphokmpaa.memo.allsS) (k1S)) e2_22 = true := by kernel_rfl
noncomputable def e2_23 : List MemoP := [(68, [.row [49, 33, 17], .row [42535295865126979339478698981903564860, 42535295865146322152592533048698863676]], true, [.lit 1])]
set_option maxRecDepth 100000 in
theorem e2_23_ok : allP Try.prog (orS (Go.Proofs.Ytliimffphokmpaa.memo.allsS) (k1S)) e2_23 = true := by kernel_rfl
noncomputable def e2_24 : List MemoP := [(68, [.row [49, 17, 17, 17], .row [42535295865126979339478698981903564860, 42535295865146322152592533048698863676]], true, [.lit 1])]
set_option maxRecDepth 100000 in
theorem e2_24_ok : allP Try.prog (orS (Go.Proofs.Ytliimffphokmpaa.memo.allsS) (k1S)) e2_24 = true := by kernel_rfl
noncomputable def e2_25 : List MemoP := [(68, [.row [33, 33, 33], .row [42535295865126979339478698981903564860, 42535295865146322152592533048698863676]], true, [.lit 1])]
set_option maxRecDepth 100000 in
theorem e2_25_ok : allP Try.prog (orS (Go.Proofs.Ytliimffphokmpaa.memo.allsS) (k1S)) e2_25 = true := by kernel_rfl
noncomputable def e2_26 : List MemoP := [(68, [.row [33, 33, 17, 17], .row [42535295865126979339478698981903564860, 42535295865146322152592533048698863676]], true, [.lit 1])]
set_option maxRecDepth 100000 in
theorem e2_26_ok : allP Try.prog (orS (Go.Proofs.Ytliimffphokmpaa.memo.allsS) (k1S)) e2_26 = true := by kernel_rfl
noncomputable def e2_27 : List MemoP := [(68, [.row [33, 17, 17, 17, 17], .row [42535295865126979339478698981903564860, 42535295865146322152592533048698863676]], true, [.lit 1])]
set_option maxRecDepth 100000 in
theorem e2_27_ok : allP Try.prog (orS (Go.Proofs.Ytliimffphokmpaa.memo.allsS) (k1S)) e2_27 = true := by kernel_rfl
noncomputable def e2_28 : List MemoP := [(68, [.row [17, 17, 17, 17, 17, 17], .row [42535295865126979339478698981903564860, 42535295865146322152592533048698863676]], true, [.lit 1])]
set_option maxRecDepth 100000 in
theorem e2_28_ok : allP Try.prog (orS (Go.Proofs.Ytliimffphokmpaa.memo.allsS) (k1S)) e2_28 = true := by kernel_rfl
noncomputable def k2L : List MemoP := e2_0 ++ e2_1 ++ e2_2 ++ e2_3 ++ e2_4 ++ e2_5 ++ e2_6 ++ e2_7 ++ e2_8 ++ e2_9 ++ e2_10 ++ e2_11 ++ e2_12 ++ e2_13 ++ e2_14 ++ e2_15 ++ e2_16 ++ e2_17 ++ e2_18 ++ e2_19 ++ e2_20 ++ e2_21 ++ e2_22 ++ e2_23 ++ e2_24 ++ e2_25 ++ e2_26 ++ e2_27 ++ e2_28
theorem k2_all : ∀ e ∈ k2L, ∀ E, MemoPK E Try.prog e := by
  intro e he
  unfold k2L at he
  simp only [List.mem_append] at he
  rcases he with ((((((((((((((((((((((((((((he | he) | he) | he) | he) | he) | he) | he) | he) | he) | he) | he) | he) | he) | he) | he) | he) | he) | he) | he) | he) | he) | he) | he) | he) | he) | he) | he) | he)
  · exact allP_all (orS_always (Go.Proofs.Ytliimffphokmpaa.memo.allsS_always) (k1_always)) _ e2_0_ok e he
  · exact allP_all (orS_always (Go.Proofs.Ytliimffphokmpaa.memo.allsS_always) (k1_always)) _ e2_1_ok e he
  · exact allP_all (orS_always (Go.Proofs.Ytliimffphokmpaa.memo.allsS_always) (k1_always)) _ e2_2_ok e he
  · exact allP_all (orS_always (Go.Proofs.Ytliimffphokmpaa.memo.allsS_always) (k1_always)) _ e2_3_ok e he
  · exact allP_all (orS_always (Go.Proofs.Ytliimffphokmpaa.memo.allsS_always) (k1_always)) _ e2_4_ok e he
  · exact allP_all (orS_always (Go.Proofs.Ytliimffphokmpaa.memo.allsS_always) (k1_always)) _ e2_5_ok e he
  · exact allP_all (orS_always (Go.Proofs.Ytliimffphokmpaa.memo.allsS_always) (k1_always)) _ e2_6_ok e he
  · exact allP_all (orS_always (Go.Proofs.Ytliimffphokmpaa.memo.allsS_always) (k1_always)) _ e2_7_ok e he
  · exact allP_all (orS_always (Go.Proofs.Ytliimffphokmpaa.memo.allsS_always) (k1_always)) _ e2_8_ok e he
  · exact allP_all (orS_always (Go.Proofs.Ytliimffphokmpaa.memo.allsS_always) (k1_always)) _ e2_9_ok e he
  · exact allP_all (orS_always (Go.Proofs.Ytliimffphokmpaa.memo.allsS_always) (k1_always)) _ e2_10_ok e he
  · exact allP_all (orS_always (Go.Proofs.Ytliimffphokmpaa.memo.allsS_always) (k1_always)) _ e2_11_ok e he
  · exact allP_all (orS_always (Go.Proofs.Ytliimffphokmpaa.memo.allsS_always) (k1_always)) _ e2_12_ok e he
  · exact allP_all (orS_always (Go.Proofs.Ytliimffphokmpaa.memo.allsS_always) (k1_always)) _ e2_13_ok e he
  · exact allP_all (orS_always (Go.Proofs.Ytliimffphokmpaa.memo.allsS_always) (k1_always)) _ e2_14_ok e he
  · exact allP_all (orS_always (Go.Proofs.Ytliimffphokmpaa.memo.allsS_always) (k1_always)) _ e2_15_ok e he
  · exact allP_all (orS_always (Go.Proofs.Ytliimffphokmpaa.memo.allsS_always) (k1_always)) _ e2_16_ok e he
  · exact allP_all (orS_always (Go.Proofs.Ytliimffphokmpaa.memo.allsS_always) (k1_always)) _ e2_17_ok e he
  · exact allP_all (orS_always (Go.Proofs.Ytliimffphokmpaa.memo.allsS_always) (k1_always)) _ e2_18_ok e he
  · exact allP_all (orS_always (Go.Proofs.Ytliimffphokmpaa.memo.allsS_always) (k1_always)) _ e2_19_ok e he
  · exact allP_all (orS_always (Go.Proofs.Ytliimffphokmpaa.memo.allsS_always) (k1_always)) _ e2_20_ok e he
  · exact allP_all (orS_always (Go.Proofs.Ytliimffphokmpaa.memo.allsS_always) (k1_always)) _ e2_21_ok e he
  · exact allP_all (orS_always (Go.Proofs.Ytliimffphokmpaa.memo.allsS_always) (k1_always)) _ e2_22_ok e he
  · exact allP_all (orS_always (Go.Proofs.Ytliimffphokmpaa.memo.allsS_always) (k1_always)) _ e2_23_ok e he
  · exact allP_all (orS_always (Go.Proofs.Ytliimffphokmpaa.memo.allsS_always) (k1_always)) _ e2_24_ok e he
  · exact allP_all (orS_always (Go.Proofs.Ytliimffphokmpaa.memo.allsS_always) (k1_always)) _ e2_25_ok e he
  · exact allP_all (orS_always (Go.Proofs.Ytliimffphokmpaa.memo.allsS_always) (k1_always)) _ e2_26_ok e he
  · exact allP_all (orS_always (Go.Proofs.Ytliimffphokmpaa.memo.allsS_always) (k1_always)) _ e2_27_ok e he
  · exact allP_all (orS_always (Go.Proofs.Ytliimffphokmpaa.memo.allsS_always) (k1_always)) _ e2_28_ok e he
noncomputable def k2S : Sums := onF 68 (memoP k2L)
theorem k2_always : Always Try.prog k2S := onF_always (memoP_always _ k2_all)
end Go.Proofs.Ytliimffphokmpaa.dhM
