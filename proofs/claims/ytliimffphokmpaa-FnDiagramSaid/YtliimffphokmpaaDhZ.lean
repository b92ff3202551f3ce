/- What is known of calls of the program at a seat. -/
import Derived.Test.YtliimffphokmpaaDhK4
import Derived.Test.YtliimffphokmpaaDhI0
import Derived.Test.YtliimffphokmpaaDhI1
namespace Go.Proofs.Ytliimffphokmpaa.dhM
open Go Go.Eng
set_option linter.unusedVariables false
set_option linter.unusedSectionVars false
set_option linter.unusedSimpArgs false
noncomputable def sums : Sums := orS (k4S) (orS j0S (orS j1S (orS (Go.Proofs.Ytliimffphokmpaa.memo.allsS) (Go.Proofs.Ytliimffphokmpaa.memo.stripsS))))
theorem sums_always : Always Try.prog sums := orS_always k4_always (orS_always j0_always (orS_always j1_always (orS_always (Go.Proofs.Ytliimffphokmpaa.memo.allsS_always) (Go.Proofs.Ytliimffphokmpaa.memo.stripsS_always))))
end Go.Proofs.Ytliimffphokmpaa.dhM
