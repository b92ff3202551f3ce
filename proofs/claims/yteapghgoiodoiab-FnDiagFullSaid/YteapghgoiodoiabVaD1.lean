/- What is known of calls of the program at a seat. -/
import Derived.Test.YteapghgoiodoiabVaH
import Derived.Test.YteapghgoiodoiabMemo
namespace Go.Proofs.Yteapghgoiodoiab.va
open Go Go.Eng
set_option linter.unusedVariables false
set_option linter.unusedSectionVars false
set_option linter.unusedSimpArgs false
set_option maxRecDepth 100000
noncomputable def sdiag1_0 : List MemoP := [(80, [.row [17], .row w0_1], true, [.poly (polyN [1]) 0 1 1 0 18446744073709551615]), (80, [.row [33], .row w0_1], true, [.poly (polyN [2]) 0 1 2 0 18446744073709551615]), (80, [.row [17, 17], .row w0_1], true, [.lit 1]), (80, [.row [49], .row w0_1], true, [.poly (polyN [3]) 0 1 3 0 18446744073709551615]), (80, [.row [33, 17], .row w0_1], true, [.lit 1])]
theorem sdiag1_0_ok : allP Try.prog (Go.Proofs.Yteapghgoiodoiab.memo.allsS) sdiag1_0 = true := by kernel_rfl
noncomputable def sdiag1_1 : List MemoP := [(80, [.row [17, 17, 17], .row w0_1], true, [.lit 1]), (80, [.row [65], .row w0_1], true, [.poly (polyN [4]) 0 1 4 0 18446744073709551615]), (80, [.row [49, 17], .row w0_1], true, [.lit 1]), (80, [.row [33, 33], .row w0_1], true, [.lit 1]), (80, [.row [33, 17, 17], .row w0_1], true, [.lit 1])]
theorem sdiag1_1_ok : allP Try.prog (Go.Proofs.Yteapghgoiodoiab.memo.allsS) sdiag1_1 = true := by kernel_rfl
noncomputable def sdiag1_2 : List MemoP := [(80, [.row [17, 17, 17, 17], .row w0_1], true, [.lit 1]), (80, [.row [81], .row w0_1], true, [.poly (polyN [5]) 0 1 5 0 18446744073709551615]), (80, [.row [65, 17], .row w0_1], true, [.lit 1]), (80, [.row [49, 33], .row w0_1], true, [.lit 1]), (80, [.row [49, 17, 17], .row w0_1], true, [.lit 1])]
theorem sdiag1_2_ok : allP Try.prog (Go.Proofs.Yteapghgoiodoiab.memo.allsS) sdiag1_2 = true := by kernel_rfl
noncomputable def sdiag1_3 : List MemoP := [(80, [.row [33, 33, 17], .row w0_1], true, [.lit 1]), (80, [.row [33, 17, 17, 17], .row w0_1], true, [.lit 1]), (80, [.row [17, 17, 17, 17, 17], .row w0_1], true, [.lit 1]), (80, [.row [97], .row w0_1], true, [.poly (polyN [6]) 0 1 6 0 18446744073709551615]), (80, [.row [81, 17], .row w0_1], true, [.lit 1])]
theorem sdiag1_3_ok : allP Try.prog (Go.Proofs.Yteapghgoiodoiab.memo.allsS) sdiag1_3 = true := by kernel_rfl
noncomputable def sdiag1_4 : List MemoP := [(80, [.row [65, 33], .row w0_1], true, [.lit 1]), (80, [.row [65, 17, 17], .row w0_1], true, [.lit 1]), (80, [.row [49, 49], .row w0_1], true, [.lit 1]), (80, [.row [49, 33, 17], .row w0_1], true, [.lit 1]), (80, [.row [49, 17, 17, 17], .row w0_1], true, [.lit 1])]
theorem sdiag1_4_ok : allP Try.prog (Go.Proofs.Yteapghgoiodoiab.memo.allsS) sdiag1_4 = true := by kernel_rfl
noncomputable def sdiag1_5 : List MemoP := [(80, [.row [33, 33, 33], .row w0_1], true, [.lit 1]), (80, [.row [33, 33, 17, 17], .row w0_1], true, [.lit 1]), (80, [.row [33, 17, 17, 17, 17], .row w0_1], true, [.lit 1]), (80, [.row [17, 17, 17, 17, 17, 17], .row w0_1], true, [.lit 1])]
theorem sdiag1_5_ok : allP Try.prog (Go.Proofs.Yteapghgoiodoiab.memo.allsS) sdiag1_5 = true := by kernel_rfl
noncomputable def sdiag1S : Sums := onF 80 (orS (memoP sdiag1_0) (orS (memoP sdiag1_1) (orS (memoP sdiag1_2) (orS (memoP sdiag1_3) (orS (memoP sdiag1_4) (memoP sdiag1_5))))))
theorem sdiag1_al : Always Try.prog sdiag1S := onF_always (orS_always (memoP_always _ (allP_all (Go.Proofs.Yteapghgoiodoiab.memo.allsS_always) _ sdiag1_0_ok)) (orS_always (memoP_always _ (allP_all (Go.Proofs.Yteapghgoiodoiab.memo.allsS_always) _ sdiag1_1_ok)) (orS_always (memoP_always _ (allP_all (Go.Proofs.Yteapghgoiodoiab.memo.allsS_always) _ sdiag1_2_ok)) (orS_always (memoP_always _ (allP_all (Go.Proofs.Yteapghgoiodoiab.memo.allsS_always) _ sdiag1_3_ok)) (orS_always (memoP_always _ (allP_all (Go.Proofs.Yteapghgoiodoiab.memo.allsS_always) _ sdiag1_4_ok)) (memoP_always _ (allP_all (Go.Proofs.Yteapghgoiodoiab.memo.allsS_always) _ sdiag1_5_ok)))))))
end Go.Proofs.Yteapghgoiodoiab.va
