/- The runs of FnExactSumOf. -/
import Derived.Test.YthcdiaahpodkoafEngZd
import Derived.Test.YthcdiaahpodkoafProg
namespace Go.Proofs.Ythcdiaahpodkoaf.fnExactSumOfRuns
open Go.Eng
set_option linter.unusedVariables false
set_option linter.unusedSectionVars false
set_option linter.unusedSimpArgs false
noncomputable def run (c0 : SCls) (c1 : Cls) : Bool := isTrue (slRun Try.prog noSums (⟨14, 16, 37, 65, 70⟩ : Go.Eng.Fns) 1000 60 10 c0 c1)
end Go.Proofs.Ythcdiaahpodkoaf.fnExactSumOfRuns
