/- The runs of FnExactAtShare. -/
import Derived.Test.YthcdiaahpodkoaeEngZd
import Derived.Test.YthcdiaahpodkoaeProg
namespace Go.Proofs.Ythcdiaahpodkoae.fnExactAtShareRuns
open Go.Eng
set_option linter.unusedVariables false
set_option linter.unusedSectionVars false
set_option linter.unusedSimpArgs false
noncomputable def run (c0 : SCls) (c1 : Cls) (c2 : PCls) : Bool := isTrue (slptRun Try.prog noSums (⟨16, 18, 19, 46, 69⟩ : Go.Eng.Fns) 56 70 1000 60 10 c0 c1 c2)
end Go.Proofs.Ythcdiaahpodkoae.fnExactAtShareRuns
