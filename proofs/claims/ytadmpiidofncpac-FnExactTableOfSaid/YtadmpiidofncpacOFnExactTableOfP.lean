/- Runs of a law. -/
import Derived.Test.YtadmpiidofncpacOWg
import Derived.Test.YtadmpiidofncpacOEngO
namespace Go.Proofs.Ytadmpiidofncpac.fnExactTableOfRuns
open Go Go.Proofs Go.Eng
set_option maxRecDepth 100000
@[reducible] noncomputable def Sd (M : Sums) : Sums := orS M (tableS Try.prog (callN Try.prog M 1000 60) wg.tt)
theorem good {M : Sums} (h : Always Try.prog M) {l : List Nat} (r : isTrue (funE Try.prog (callN Try.prog (Sd M) 1000 60) 1000 9 l .nil 0) = true) : GoodRun Try.prog 158 9 l := ⟨Sd M, (h.alone).orS (wg.tableS_alone h), r⟩
abbrev Neg (c : SCls) : Prop := GoodRun Try.prog 158 9 [c.word 0, wV 0 0 549755813887]
abbrev Big (c : SCls) : Prop := GoodRun Try.prog 158 9 [c.word 0, wV 0 549755813895 0]
abbrev Is (c : SCls) (k : Nat) : Prop := GoodRun Try.prog 158 9 [c.word 0, wI k]
end Go.Proofs.Ytadmpiidofncpac.fnExactTableOfRuns
