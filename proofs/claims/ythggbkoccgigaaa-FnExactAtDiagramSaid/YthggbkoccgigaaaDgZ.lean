/- What is known of calls of the program at a seat. -/
import Derived.Test.YthggbkoccgigaaaDgK5
import Derived.Test.YthggbkoccgigaaaDgI0
import Derived.Test.YthggbkoccgigaaaDgI1
import Derived.Test.YthggbkoccgigaaaDgI2
namespace Go.Proofs.Ythggbkoccgigaaa.dgM
open Go Go.Eng
set_option linter.unusedVariables false
set_option linter.unusedSectionVars false
set_option linter.unusedSimpArgs false
noncomputable def sums : Sums := orS (k5S) (orS (k4S) (orS j0S (orS j1S (orS j2S (orS (Go.Proofs.Ythggbkoccgigaaa.memo.allsS) (Go.Proofs.Ythggbkoccgigaaa.memo.stripsS))))))
theorem sums_always : Always Try.prog sums := orS_always k5_always (orS_always k4_always (orS_always j0_always (orS_always j1_always (orS_always j2_always (orS_always (Go.Proofs.Ythggbkoccgigaaa.memo.allsS_always) (Go.Proofs.Ythggbkoccgigaaa.memo.stripsS_always))))))
end Go.Proofs.Ythggbkoccgigaaa.dgM
