/- What is known of calls of the program at a seat. -/
import Derived.Test.YthcdiaahpodkoabMemoW5
namespace Go.Proofs.Ythcdiaahpodkoab.memo
open Go Go.Eng
set_option linter.unusedVariables false
set_option linter.unusedSectionVars false
set_option linter.unusedSimpArgs false
noncomputable def sums : Sums := orS stripsS (orS w1S (orS w2S (orS w3S (orS w4S w5S))))
theorem sums_always : Always Try.prog sums := orS_always stripsS_always (orS_always w1S_always (orS_always w2S_always (orS_always w3S_always (orS_always w4S_always w5S_always))))
end Go.Proofs.Ythcdiaahpodkoab.memo
