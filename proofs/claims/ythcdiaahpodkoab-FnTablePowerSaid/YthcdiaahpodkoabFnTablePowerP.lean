/- Runs of the program at a seat. -/
import Derived.Test.YthcdiaahpodkoabPairA
import Derived.Test.YthcdiaahpodkoabPowerZ
namespace Go.Proofs.Ythcdiaahpodkoab.fnTablePowerRuns
open Go Go.Eng
set_option linter.unusedVariables false
set_option linter.unusedSectionVars false
set_option linter.unusedSimpArgs false
noncomputable def S0 : Sums := orS Go.Proofs.Ythcdiaahpodkoab.tabPower.sums (Go.Proofs.Ythcdiaahpodkoab.pairA.allsS)
theorem S0_always : Always Try.prog S0 := Go.Proofs.Ythcdiaahpodkoab.pairA.orS_always Go.Proofs.Ythcdiaahpodkoab.tabPower.sums_always (Go.Proofs.Ythcdiaahpodkoab.pairA.allsS_always)
noncomputable def run : Tab → OR := codeRun Try.prog S0 73 111 1000 60 14
end Go.Proofs.Ythcdiaahpodkoab.fnTablePowerRuns
