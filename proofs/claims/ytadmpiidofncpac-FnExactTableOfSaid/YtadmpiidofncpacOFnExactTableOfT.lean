/- Runs of a law. -/
import Derived.Test.YtadmpiidofncpacOFnExactTableOfR0
import Derived.Test.YtadmpiidofncpacOFnExactTableOfR1
import Derived.Test.YtadmpiidofncpacOFnExactTableOfR2
import Derived.Test.YtadmpiidofncpacOFnExactTableOfR3
import Derived.Test.YtadmpiidofncpacOFnExactTableOfR4
namespace Go.Proofs.Ytadmpiidofncpac.fnExactTableOfRuns
open Go Go.Proofs Go.Eng
set_option maxRecDepth 100000
theorem of (c : SCls) (hn : Neg c) (hb : Big c) (h : ∀ k, k ≤ 6 → Is c k) : Neg c ∧ Big c ∧ ∀ k, k ≤ 6 → Is c k := ⟨hn, hb, h⟩
theorem upto {p : Nat → Prop} (h0 : p 0) (h1 : p 1) (h2 : p 2) (h3 : p 3) (h4 : p 4) (h5 : p 5) (h6 : p 6) : ∀ k, k ≤ 6 → p k
  | 0, _ => h0
  | 1, _ => h1
  | 2, _ => h2
  | 3, _ => h3
  | 4, _ => h4
  | 5, _ => h5
  | 6, _ => h6
  | _ + 7, h => absurd h (by omega)
theorem all : ∀ c ∈ sclasses, Neg c ∧ Big c ∧ ∀ k, k ≤ 6 → Is c k := by
  intro c hc
  simp only [sclasses, List.mem_cons, List.not_mem_nil, or_false] at hc
  rcases hc with rfl | rfl | rfl | rfl | rfl | rfl | rfl | rfl
  · exact of _ n0 b0 (upto (p := Is (.known 0)) r0_0 r0_1 r0_2 r0_3 r0_4 r0_5 r0_6)
  · exact of _ n1 b1 (upto (p := Is (.known 1)) r1_0 r1_1 r1_2 r1_3 r1_4 r1_5 r1_6)
  · exact of _ n2 b2 (upto (p := Is (.known 2)) r2_0 r2_1 r2_2 r2_3 r2_4 r2_5 r2_6)
  · exact of _ n3 b3 (upto (p := Is (.known 3)) r3_0 r3_1 r3_2 r3_3 r3_4 r3_5 r3_6)
  · exact of _ n4 b4 (upto (p := Is (.known 4)) r4_0 r4_1 r4_2 r4_3 r4_4 r4_5 r4_6)
  · exact of _ n5 b5 (upto (p := Is (.known 5)) r5_0 r5_1 r5_2 r5_3 r5_4 r5_5 r5_6)
  · exact of _ n6 b6 (upto (p := Is (.other)) r6_0 r6_1 r6_2 r6_3 r6_4 r6_5 r6_6)
  · exact of _ n7 b7 (upto (p := Is (.long)) r7_0 r7_1 r7_2 r7_3 r7_4 r7_5 r7_6)
end Go.Proofs.Ytadmpiidofncpac.fnExactTableOfRuns
