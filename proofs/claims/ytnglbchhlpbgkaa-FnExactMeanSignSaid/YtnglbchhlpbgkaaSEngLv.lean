/- Part of the evaluator: Lv. -/
import Derived.Conc.Holds
import Derived.Handed

/- A call that starts nobody, where the row lets others leave. -/
namespace Go.Eng
open Go
theorem only_leaving {P : Program} {m : Machine} (q : m.quiet) : m.OnlyLeaving P := by
  refine ⟨fun g hg => ⟨0, ?_⟩, q.2⟩
  have h := q.1
  unfold Machine.othersDone at h
  have h2 := List.all_eq_true.1 h g hg
  show g.status = .finished
  simpa using h2
/-- Whoever is alone at the return leaves nobody behind. -/
theorem leaving_of_handed {a : Assume} {C : Checked} {os : Os} {f : FuncId} {r : Reach} {Pre : World → Array Value → Prop} {Post : World → Array Value → Value → World → Prop}
    (h : ReturnsInHanded a C os f r Pre Post) : ReturnsInLeavingWide a C os f r Pre Post := fun enter => by
  obtain ⟨h1, h2, h3, h4, h5⟩ := h enter
  refine ⟨h1, h2, h3, h4, fun w tape i hf => ?_⟩
  obtain ⟨n, v, w', k1, k2, k3, k4, ⟨j, last, l1, l2, q, ho, he⟩, k6⟩ := h5 w tape i hf
  exact ⟨n, v, w', k1, k2, k3, k4, ⟨j, last, l1, l2, ho, only_leaving q, he⟩, k6⟩
end Go.Eng
