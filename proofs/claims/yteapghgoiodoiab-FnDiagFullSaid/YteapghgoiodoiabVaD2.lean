/- What is known of calls of the program at a seat. -/
import Derived.Test.YteapghgoiodoiabVaD1
namespace Go.Proofs.Yteapghgoiodoiab.va
open Go Go.Eng
set_option linter.unusedVariables false
set_option linter.unusedSectionVars false
set_option linter.unusedSimpArgs false
set_option maxRecDepth 100000
noncomputable def sdiag2_0 : List MemoP := [(80, [.row [17], .row w0_2], true, [.poly (polyN [1, 8]) 0 2 1 0 18446744073709551615]), (80, [.row [33], .row w0_2], true, [.poly (polyN [2, 9, 16]) 0 3 2 0 18446744073709551615]), (80, [.row [17, 17], .row w0_2], true, [.poly (polyN [9]) 0 1 2 0 18446744073709551615]), (80, [.row [49], .row w0_2], true, [.poly (polyN [3, 10, 17, 24]) 0 4 3 0 18446744073709551615]), (80, [.row [33, 17], .row w0_2], true, [.poly (polyN [10, 17]) 0 2 3 0 18446744073709551615])]
theorem sdiag2_0_ok : allP Try.prog (orS sdiag1S (Go.Proofs.Yteapghgoiodoiab.memo.allsS)) sdiag2_0 = true := by kernel_rfl
noncomputable def sdiag2_1 : List MemoP := [(80, [.row [17, 17, 17], .row w0_2], true, [.lit 1]), (80, [.row [65], .row w0_2], true, [.poly (polyN [4, 11, 18, 25, 32]) 0 5 4 0 18446744073709551615]), (80, [.row [49, 17], .row w0_2], true, [.poly (polyN [11, 18, 25]) 0 3 4 0 18446744073709551615]), (80, [.row [33, 33], .row w0_2], true, [.poly (polyN [18]) 0 1 4 0 18446744073709551615]), (80, [.row [33, 17, 17], .row w0_2], true, [.lit 1])]
theorem sdiag2_1_ok : allP Try.prog (orS sdiag1S (Go.Proofs.Yteapghgoiodoiab.memo.allsS)) sdiag2_1 = true := by kernel_rfl
noncomputable def sdiag2_2 : List MemoP := [(80, [.row [17, 17, 17, 17], .row w0_2], true, [.lit 1]), (80, [.row [81], .row w0_2], true, [.poly (polyN [5, 12, 19, 26, 33, 40]) 0 6 5 0 18446744073709551615]), (80, [.row [65, 17], .row w0_2], true, [.poly (polyN [12, 19, 26, 33]) 0 4 5 0 18446744073709551615]), (80, [.row [49, 33], .row w0_2], true, [.poly (polyN [19, 26]) 0 2 5 0 18446744073709551615]), (80, [.row [49, 17, 17], .row w0_2], true, [.lit 1])]
theorem sdiag2_2_ok : allP Try.prog (orS sdiag1S (Go.Proofs.Yteapghgoiodoiab.memo.allsS)) sdiag2_2 = true := by kernel_rfl
noncomputable def sdiag2_3 : List MemoP := [(80, [.row [33, 33, 17], .row w0_2], true, [.lit 1]), (80, [.row [33, 17, 17, 17], .row w0_2], true, [.lit 1]), (80, [.row [17, 17, 17, 17, 17], .row w0_2], true, [.lit 1]), (80, [.row [97], .row w0_2], true, [.poly (polyN [6, 13, 20, 27, 34, 41, 48]) 0 7 6 0 18446744073709551615]), (80, [.row [81, 17], .row w0_2], true, [.poly (polyN [13, 20, 27, 34, 41]) 0 5 6 0 18446744073709551615])]
theorem sdiag2_3_ok : allP Try.prog (orS sdiag1S (Go.Proofs.Yteapghgoiodoiab.memo.allsS)) sdiag2_3 = true := by kernel_rfl
noncomputable def sdiag2_4 : List MemoP := [(80, [.row [65, 33], .row w0_2], true, [.poly (polyN [20, 27, 34]) 0 3 6 0 18446744073709551615]), (80, [.row [65, 17, 17], .row w0_2], true, [.lit 1]), (80, [.row [49, 49], .row w0_2], true, [.poly (polyN [27]) 0 1 6 0 18446744073709551615]), (80, [.row [49, 33, 17], .row w0_2], true, [.lit 1]), (80, [.row [49, 17, 17, 17], .row w0_2], true, [.lit 1])]
theorem sdiag2_4_ok : allP Try.prog (orS sdiag1S (Go.Proofs.Yteapghgoiodoiab.memo.allsS)) sdiag2_4 = true := by kernel_rfl
noncomputable def sdiag2_5 : List MemoP := [(80, [.row [33, 33, 33], .row w0_2], true, [.lit 1]), (80, [.row [33, 33, 17, 17], .row w0_2], true, [.lit 1]), (80, [.row [33, 17, 17, 17, 17], .row w0_2], true, [.lit 1]), (80, [.row [17, 17, 17, 17, 17, 17], .row w0_2], true, [.lit 1])]
theorem sdiag2_5_ok : allP Try.prog (orS sdiag1S (Go.Proofs.Yteapghgoiodoiab.memo.allsS)) sdiag2_5 = true := by kernel_rfl
noncomputable def sdiag2S : Sums := onF 80 (orS (memoP sdiag2_0) (orS (memoP sdiag2_1) (orS (memoP sdiag2_2) (orS (memoP sdiag2_3) (orS (memoP sdiag2_4) (memoP sdiag2_5))))))
theorem sdiag2_al : Always Try.prog sdiag2S := onF_always (orS_always (memoP_always _ (allP_all (orS_always sdiag1_al (Go.Proofs.Yteapghgoiodoiab.memo.allsS_always)) _ sdiag2_0_ok)) (orS_always (memoP_always _ (allP_all (orS_always sdiag1_al (Go.Proofs.Yteapghgoiodoiab.memo.allsS_always)) _ sdiag2_1_ok)) (orS_always (memoP_always _ (allP_all (orS_always sdiag1_al (Go.Proofs.Yteapghgoiodoiab.memo.allsS_always)) _ sdiag2_2_ok)) (orS_always (memoP_always _ (allP_all (orS_always sdiag1_al (Go.Proofs.Yteapghgoiodoiab.memo.allsS_always)) _ sdiag2_3_ok)) (orS_always (memoP_always _ (allP_all (orS_always sdiag1_al (Go.Proofs.Yteapghgoiodoiab.memo.allsS_always)) _ sdiag2_4_ok)) (memoP_always _ (allP_all (orS_always sdiag1_al (Go.Proofs.Yteapghgoiodoiab.memo.allsS_always)) _ sdiag2_5_ok)))))))
end Go.Proofs.Yteapghgoiodoiab.va
