/- Runs of a law. -/
import Derived.Test.YtadmpiidofncpacWg
import Derived.Test.YtadmpiidofncpacTd
namespace Go.Proofs.Ytadmpiidofncpac.fnExactTableBackRuns
open Go Go.Proofs Go.Eng
set_option maxRecDepth 100000
@[reducible] noncomputable def Sd (M : Sums) : Sums := orS M (tableS Try.prog (callN Try.prog M 1000 60) wg.tt)
theorem good {M : Sums} (h : Always Try.prog M) {a : Nat} (r : isTrue (funE Try.prog (callN Try.prog (Sd M) 1000 60) 1000 10 [a] .nil 0) = true) : GoodRun Try.prog 158 10 [a] := ⟨Sd M, (h.alone).orS (wg.tableS_alone h), r⟩
theorem neg : GoodRun Try.prog 158 10 [wV 0 0 549755813887] := good (noSums_always _) (by kernel_rfl)
theorem big : GoodRun Try.prog 158 10 [wV 0 549755813895 0] := good (noSums_always _) (by kernel_rfl)
theorem is0 : GoodRun Try.prog 158 10 [wI 0] := good (noSums_always _) (by kernel_rfl)
theorem is1 : GoodRun Try.prog 158 10 [wI 1] := good td.m1A (by kernel_rfl)
theorem is2 : GoodRun Try.prog 158 10 [wI 2] := good td.m2A (by kernel_rfl)
theorem is3 : GoodRun Try.prog 158 10 [wI 3] := good td.m3A (by kernel_rfl)
theorem is4 : GoodRun Try.prog 158 10 [wI 4] := good td.m4A (by kernel_rfl)
theorem is5 : GoodRun Try.prog 158 10 [wI 5] := good td.m5A (by kernel_rfl)
theorem is6 : GoodRun Try.prog 158 10 [wI 6] := good td.m6A (by kernel_rfl)
theorem all : ∀ k, k ≤ 6 → GoodRun Try.prog 158 10 [wI k]
  | 0, _ => is0
  | 1, _ => is1
  | 2, _ => is2
  | 3, _ => is3
  | 4, _ => is4
  | 5, _ => is5
  | 6, _ => is6
  | _ + 7, h => absurd h (by omega)
end Go.Proofs.Ytadmpiidofncpac.fnExactTableBackRuns
