/- The model tidies terms. -/
import Derived.Test.YtbpemgpbmabnbaaDoorTmY
import Derived.Test.YtbpemgpbmabnbaaDoorTmR
import Derived.Test.YtbpemgpbmabnbaaDoorTmX
import Derived.Test.YtbpemgpbmabnbaaDoorTmZ
namespace Go.Proofs.YtbpemgpbmabnbaaDoor.tm
open Go.ChangeShapes Go.WideShapes Go.ChangeAt Go.RowKit Go.Tm
set_option linter.unusedVariables false
set_option linter.unusedSimpArgs false
set_option maxRecDepth 10000
set_option maxHeartbeats 2000000


theorem head_at {T : ByteArray} {c : UInt8} {r : List UInt8} (h : T = ⟨(c :: r).toArray⟩) : ∀ h', T[0]'h' = c := by subst h; intro h'; rfl
theorem size_is {T : ByteArray} {l : List UInt8} (h : T = ⟨l.toArray⟩) : T.size = l.length := by subst h; rfl
theorem ih_at {t : Tm} (ih : STidy t) (hg : GoodT t) (hl : (txt t).length ≤ 40) {B : Nat} {w : World} {u : S4} (h : SRep B w t u) : ∀ W, Below w.heap.size w W → Calls Tryd.prog 18 #[.agg #[.int .u8 u.k, .slice u.p u.n u.c, .int .i64 u.d, .slice u.q u.m u.cq]] W fun e w' => ∃ T, Hid (T = ⟨(txt (tidy t)).toArray⟩) ∧ T.size ≤ 40 ∧ e = .returned (.string T) ∧ Below W.heap.size W w' := fun W hb => ih hg hl B W u (h.below hb)
end Go.Proofs.YtbpemgpbmabnbaaDoor.tm
