/-
  No cell of these rows narrows 'for every input' (looked for: loops, veiled, ifaces, maps, wideKeys, modest, calm, conditions, laid).
  DERIVED. THE GIVEN ROWS OF THIS SEAT. 9 by the template 'for every input the law returns true; each argument reads behind the call as it read before'; 0 by the template 'total and deterministic' (their statements: YteapghgoiodoiaaTotals.lean).
  GIVEN WITH THE SEED: the statements are not yours to turn. If you find one false, say at which input.
  Laid BY PROGRAM, IN A SANDBOX (cutbox-rows.mjs): the forced cells as the released guide's own fill.sh prints them over the translation a769b26a7cd16219… (all of the seat's roots in one cut). By AI agents, Wed Nov 11 2026. No macro, syntax, notation, axiom, sorry.
-/
import Derived.Test.YteapghgoiodoiaaChecked
import GoSem.Claim
import GoSem.ClaimJoined
import GoSem.ClaimMapViews
import Derived.JoinedTies
import Derived.KernelRfl
namespace Go.Proofs.Yteapghgoiodoiaa
/- THE CELL 'sum', in the pinned program and in every row, IS THE sha256 OF THE DUMP (.gsa) THAT YteapghgoiodoiaaProg.lean LOADS. Nothing in Lean hashes anything: it is a label: what it is worth is what the hold of that sum in a sandbox is worth. -/
noncomputable def Try.pinned : Pinned := { name := "yteapghgoiodoiaa", sum := "a769b26a7cd162191ad83320119676e8056412fd09748f52342656f5e8c42850", checked := Try.checked }
namespace Rows
def none {H : Type} : Left H := { results := [], args := [] }

/-- 'laws.FnExactDiagFull': WHATEVER THE INPUT: true; the input reads as it did. -/
def fnExactDiagFullSpec : ChangeSpec := { name := "fnExactDiagFull", fn := fun _ => fun
  | [d1, d2] => { results := [.lit (.bool true)], args := [d1, d2] }
  | _ => none }
def fnExactDiagFullRow : OpenClaim := { program := "yteapghgoiodoiaa", sum := "a769b26a7cd162191ad83320119676e8056412fd09748f52342656f5e8c42850", func := "loop.example/symmetricsums/laws.FnExactDiagFull", spec := "fnExactDiagFull", unfollowed := true, recurses := true, plainKeys := false, apart := false }
def FnExactDiagFullSaid : Prop := fnExactDiagFullRow.holds Try.pinned (OpenSpec.ofChange fnExactDiagFullSpec)

/-- ITS FALSE NEIGHBOUR: 'it returns false'. Refute it at one input. -/
def fnExactDiagFullWrong : ChangeSpec := { name := "fnExactDiagFull", fn := fun _ => fun
  | [d1, d2] => { results := [.lit (.bool false)], args := [d1, d2] }
  | _ => none }
def FnExactDiagFullWrongFalsely : Prop := fnExactDiagFullRow.holds Try.pinned (OpenSpec.ofChange fnExactDiagFullWrong)

/-- 'laws.FnExactDiagChosen': WHATEVER THE INPUT: true; the input reads as it did. -/
def fnExactDiagChosenSpec : ChangeSpec := { name := "fnExactDiagChosen", fn := fun _ => fun
  | [d1, d2] => { results := [.lit (.bool true)], args := [d1, d2] }
  | _ => none }
def fnExactDiagChosenRow : OpenClaim := { program := "yteapghgoiodoiaa", sum := "a769b26a7cd162191ad83320119676e8056412fd09748f52342656f5e8c42850", func := "loop.example/symmetricsums/laws.FnExactDiagChosen", spec := "fnExactDiagChosen", unfollowed := true, recurses := true, plainKeys := false, apart := false }
def FnExactDiagChosenSaid : Prop := fnExactDiagChosenRow.holds Try.pinned (OpenSpec.ofChange fnExactDiagChosenSpec)

/-- ITS FALSE NEIGHBOUR: 'it returns false'. Refute it at one input. -/
def fnExactDiagChosenWrong : ChangeSpec := { name := "fnExactDiagChosen", fn := fun _ => fun
  | [d1, d2] => { results := [.lit (.bool false)], args := [d1, d2] }
  | _ => none }
def FnExactDiagChosenWrongFalsely : Prop := fnExactDiagChosenRow.holds Try.pinned (OpenSpec.ofChange fnExactDiagChosenWrong)

/-- 'laws.FnExactDiagQuotient': WHATEVER THE INPUT: true; the input reads as it did. -/
def fnExactDiagQuotientSpec : ChangeSpec := { name := "fnExactDiagQuotient", fn := fun _ => fun
  | [d1, d2] => { results := [.lit (.bool true)], args := [d1, d2] }
  | _ => none }
def fnExactDiagQuotientRow : OpenClaim := { program := "yteapghgoiodoiaa", sum := "a769b26a7cd162191ad83320119676e8056412fd09748f52342656f5e8c42850", func := "loop.example/symmetricsums/laws.FnExactDiagQuotient", spec := "fnExactDiagQuotient", unfollowed := true, recurses := true, plainKeys := false, apart := false }
def FnExactDiagQuotientSaid : Prop := fnExactDiagQuotientRow.holds Try.pinned (OpenSpec.ofChange fnExactDiagQuotientSpec)

/-- ITS FALSE NEIGHBOUR: 'it returns false'. Refute it at one input. -/
def fnExactDiagQuotientWrong : ChangeSpec := { name := "fnExactDiagQuotient", fn := fun _ => fun
  | [d1, d2] => { results := [.lit (.bool false)], args := [d1, d2] }
  | _ => none }
def FnExactDiagQuotientWrongFalsely : Prop := fnExactDiagQuotientRow.holds Try.pinned (OpenSpec.ofChange fnExactDiagQuotientWrong)

/-- 'laws.FnExactDiagPlain': WHATEVER THE INPUT: true; the input reads as it did. -/
def fnExactDiagPlainSpec : ChangeSpec := { name := "fnExactDiagPlain", fn := fun _ => fun
  | [d1, d2] => { results := [.lit (.bool true)], args := [d1, d2] }
  | _ => none }
def fnExactDiagPlainRow : OpenClaim := { program := "yteapghgoiodoiaa", sum := "a769b26a7cd162191ad83320119676e8056412fd09748f52342656f5e8c42850", func := "loop.example/symmetricsums/laws.FnExactDiagPlain", spec := "fnExactDiagPlain", unfollowed := true, recurses := true, plainKeys := false, apart := false }
def FnExactDiagPlainSaid : Prop := fnExactDiagPlainRow.holds Try.pinned (OpenSpec.ofChange fnExactDiagPlainSpec)

/-- ITS FALSE NEIGHBOUR: 'it returns false'. Refute it at one input. -/
def fnExactDiagPlainWrong : ChangeSpec := { name := "fnExactDiagPlain", fn := fun _ => fun
  | [d1, d2] => { results := [.lit (.bool false)], args := [d1, d2] }
  | _ => none }
def FnExactDiagPlainWrongFalsely : Prop := fnExactDiagPlainRow.holds Try.pinned (OpenSpec.ofChange fnExactDiagPlainWrong)

/-- 'laws.FnExactDiagPowers': WHATEVER THE INPUT: true; the input reads as it did. -/
def fnExactDiagPowersSpec : ChangeSpec := { name := "fnExactDiagPowers", fn := fun _ => fun
  | [d1, d2] => { results := [.lit (.bool true)], args := [d1, d2] }
  | _ => none }
def fnExactDiagPowersRow : OpenClaim := { program := "yteapghgoiodoiaa", sum := "a769b26a7cd162191ad83320119676e8056412fd09748f52342656f5e8c42850", func := "loop.example/symmetricsums/laws.FnExactDiagPowers", spec := "fnExactDiagPowers", unfollowed := true, recurses := true, plainKeys := false, apart := false }
def FnExactDiagPowersSaid : Prop := fnExactDiagPowersRow.holds Try.pinned (OpenSpec.ofChange fnExactDiagPowersSpec)

/-- ITS FALSE NEIGHBOUR: 'it returns false'. Refute it at one input. -/
def fnExactDiagPowersWrong : ChangeSpec := { name := "fnExactDiagPowers", fn := fun _ => fun
  | [d1, d2] => { results := [.lit (.bool false)], args := [d1, d2] }
  | _ => none }
def FnExactDiagPowersWrongFalsely : Prop := fnExactDiagPowersRow.holds Try.pinned (OpenSpec.ofChange fnExactDiagPowersWrong)

/-- 'laws.FnExactDiagHolds': WHATEVER THE INPUT: true; the input reads as it did. -/
def fnExactDiagHoldsSpec : ChangeSpec := { name := "fnExactDiagHolds", fn := fun _ => fun
  | [d1, d2] => { results := [.lit (.bool true)], args := [d1, d2] }
  | _ => none }
def fnExactDiagHoldsRow : OpenClaim := { program := "yteapghgoiodoiaa", sum := "a769b26a7cd162191ad83320119676e8056412fd09748f52342656f5e8c42850", func := "loop.example/symmetricsums/laws.FnExactDiagHolds", spec := "fnExactDiagHolds", plainKeys := false, apart := false }
def FnExactDiagHoldsSaid : Prop := fnExactDiagHoldsRow.holds Try.pinned (OpenSpec.ofChange fnExactDiagHoldsSpec)

/-- ITS FALSE NEIGHBOUR: 'it returns false'. Refute it at one input. -/
def fnExactDiagHoldsWrong : ChangeSpec := { name := "fnExactDiagHolds", fn := fun _ => fun
  | [d1, d2] => { results := [.lit (.bool false)], args := [d1, d2] }
  | _ => none }
def FnExactDiagHoldsWrongFalsely : Prop := fnExactDiagHoldsRow.holds Try.pinned (OpenSpec.ofChange fnExactDiagHoldsWrong)

/-- 'laws.FnExactDiagRest': WHATEVER THE INPUT: true; the input reads as it did. -/
def fnExactDiagRestSpec : ChangeSpec := { name := "fnExactDiagRest", fn := fun _ => fun
  | [d1, d2, d3] => { results := [.lit (.bool true)], args := [d1, d2, d3] }
  | _ => none }
def fnExactDiagRestRow : OpenClaim := { program := "yteapghgoiodoiaa", sum := "a769b26a7cd162191ad83320119676e8056412fd09748f52342656f5e8c42850", func := "loop.example/symmetricsums/laws.FnExactDiagRest", spec := "fnExactDiagRest", unfollowed := true, recurses := true, plainKeys := false, apart := false }
def FnExactDiagRestSaid : Prop := fnExactDiagRestRow.holds Try.pinned (OpenSpec.ofChange fnExactDiagRestSpec)

/-- ITS FALSE NEIGHBOUR: 'it returns false'. Refute it at one input. -/
def fnExactDiagRestWrong : ChangeSpec := { name := "fnExactDiagRest", fn := fun _ => fun
  | [d1, d2, d3] => { results := [.lit (.bool false)], args := [d1, d2, d3] }
  | _ => none }
def FnExactDiagRestWrongFalsely : Prop := fnExactDiagRestRow.holds Try.pinned (OpenSpec.ofChange fnExactDiagRestWrong)

/-- 'laws.FnExactDiagRestFull': WHATEVER THE INPUT: true; the input reads as it did. -/
def fnExactDiagRestFullSpec : ChangeSpec := { name := "fnExactDiagRestFull", fn := fun _ => fun
  | [d1, d2, d3] => { results := [.lit (.bool true)], args := [d1, d2, d3] }
  | _ => none }
def fnExactDiagRestFullRow : OpenClaim := { program := "yteapghgoiodoiaa", sum := "a769b26a7cd162191ad83320119676e8056412fd09748f52342656f5e8c42850", func := "loop.example/symmetricsums/laws.FnExactDiagRestFull", spec := "fnExactDiagRestFull", unfollowed := true, recurses := true, plainKeys := false, apart := false }
def FnExactDiagRestFullSaid : Prop := fnExactDiagRestFullRow.holds Try.pinned (OpenSpec.ofChange fnExactDiagRestFullSpec)

/-- ITS FALSE NEIGHBOUR: 'it returns false'. Refute it at one input. -/
def fnExactDiagRestFullWrong : ChangeSpec := { name := "fnExactDiagRestFull", fn := fun _ => fun
  | [d1, d2, d3] => { results := [.lit (.bool false)], args := [d1, d2, d3] }
  | _ => none }
def FnExactDiagRestFullWrongFalsely : Prop := fnExactDiagRestFullRow.holds Try.pinned (OpenSpec.ofChange fnExactDiagRestFullWrong)

/-- 'laws.FnExactSumAt': WHATEVER THE INPUT: true; the input reads as it did. -/
def fnExactSumAtSpec : ChangeSpec := { name := "fnExactSumAt", fn := fun _ => fun
  | [d1, d2] => { results := [.lit (.bool true)], args := [d1, d2] }
  | _ => none }
def fnExactSumAtRow : OpenClaim := { program := "yteapghgoiodoiaa", sum := "a769b26a7cd162191ad83320119676e8056412fd09748f52342656f5e8c42850", func := "loop.example/symmetricsums/laws.FnExactSumAt", spec := "fnExactSumAt", unfollowed := true, recurses := true, plainKeys := false, apart := false }
def FnExactSumAtSaid : Prop := fnExactSumAtRow.holds Try.pinned (OpenSpec.ofChange fnExactSumAtSpec)

/-- ITS FALSE NEIGHBOUR: 'it returns false'. Refute it at one input. -/
def fnExactSumAtWrong : ChangeSpec := { name := "fnExactSumAt", fn := fun _ => fun
  | [d1, d2] => { results := [.lit (.bool false)], args := [d1, d2] }
  | _ => none }
def FnExactSumAtWrongFalsely : Prop := fnExactSumAtRow.holds Try.pinned (OpenSpec.ofChange fnExactSumAtWrong)

/- THE SECOND FORM. 'bulk': how many values and letters a reading holds, each counted each time it is reached (what is shared counts as often as it is met; a slice's spare places count too). A statement '..UptoSaid' is the law's where the arguments, and the package variables that the reading takes, are together of bulk at most 1048576: NARROWER than '..Said'. Prove '..Said' where nothing that the law and all that it calls make is longer than what came in: it says more and counts as full. Else prove '..UptoSaid'. A law counts once. -/
mutual
def uptoBulk {H : Type} : DataW H → Nat
  | .lit (.string bytes) => bytes.length + 1
  | .lit _ => 1
  | .nil => 1
  | .ptr d => uptoBulk d + 1
  | .slice elems spare => uptoBulkAll elems + uptoBulkAll spare + 1
  | .agg parts => uptoBulkAll parts + 1
  | .iface _ d => uptoBulk d + 1
  | .map entries => uptoBulkEntries entries + 1
  | .held _ => 1
def uptoBulkAll {H : Type} : List (DataW H) → Nat
  | [] => 0
  | d :: r => uptoBulk d + uptoBulkAll r
def uptoBulkEntries {H : Type} : List (Lit × DataW H) → Nat
  | [] => 0
  | x :: r => uptoBulkEntry x + uptoBulkEntries r
def uptoBulkEntry {H : Type} : Lit × DataW H → Nat
  | (.string bytes, d) => bytes.length + uptoBulk d + 1
  | (_, d) => uptoBulk d + 1
 end
def uptoSmall : (H : Type) → List (DataW H) → Bool := fun _ ds => decide (uptoBulkAll ds ≤ 1048576)
def OpenSpec.upto (s : _root_.Go.ChangeSpec) : _root_.Go.OpenSpec := { _root_.Go.OpenSpec.ofChange s with cond := some uptoSmall }

/-- 'laws.FnExactDiagFull', WHERE WHAT IT READS IS OF BULK AT MOST 1048576: true; the input reads as it did. -/
def fnExactDiagFullUptoRow : OpenClaim := { program := "yteapghgoiodoiaa", sum := "a769b26a7cd162191ad83320119676e8056412fd09748f52342656f5e8c42850", func := "loop.example/symmetricsums/laws.FnExactDiagFull", spec := "fnExactDiagFull", unfollowed := true, recurses := true, plainKeys := false, apart := false, narrowed := true }
def FnExactDiagFullUptoSaid : Prop := fnExactDiagFullUptoRow.holds Try.pinned (OpenSpec.upto fnExactDiagFullSpec)

/-- 'laws.FnExactDiagChosen', WHERE WHAT IT READS IS OF BULK AT MOST 1048576: true; the input reads as it did. -/
def fnExactDiagChosenUptoRow : OpenClaim := { program := "yteapghgoiodoiaa", sum := "a769b26a7cd162191ad83320119676e8056412fd09748f52342656f5e8c42850", func := "loop.example/symmetricsums/laws.FnExactDiagChosen", spec := "fnExactDiagChosen", unfollowed := true, recurses := true, plainKeys := false, apart := false, narrowed := true }
def FnExactDiagChosenUptoSaid : Prop := fnExactDiagChosenUptoRow.holds Try.pinned (OpenSpec.upto fnExactDiagChosenSpec)

/-- 'laws.FnExactDiagQuotient', WHERE WHAT IT READS IS OF BULK AT MOST 1048576: true; the input reads as it did. -/
def fnExactDiagQuotientUptoRow : OpenClaim := { program := "yteapghgoiodoiaa", sum := "a769b26a7cd162191ad83320119676e8056412fd09748f52342656f5e8c42850", func := "loop.example/symmetricsums/laws.FnExactDiagQuotient", spec := "fnExactDiagQuotient", unfollowed := true, recurses := true, plainKeys := false, apart := false, narrowed := true }
def FnExactDiagQuotientUptoSaid : Prop := fnExactDiagQuotientUptoRow.holds Try.pinned (OpenSpec.upto fnExactDiagQuotientSpec)

/-- 'laws.FnExactDiagPlain', WHERE WHAT IT READS IS OF BULK AT MOST 1048576: true; the input reads as it did. -/
def fnExactDiagPlainUptoRow : OpenClaim := { program := "yteapghgoiodoiaa", sum := "a769b26a7cd162191ad83320119676e8056412fd09748f52342656f5e8c42850", func := "loop.example/symmetricsums/laws.FnExactDiagPlain", spec := "fnExactDiagPlain", unfollowed := true, recurses := true, plainKeys := false, apart := false, narrowed := true }
def FnExactDiagPlainUptoSaid : Prop := fnExactDiagPlainUptoRow.holds Try.pinned (OpenSpec.upto fnExactDiagPlainSpec)

/-- 'laws.FnExactDiagPowers', WHERE WHAT IT READS IS OF BULK AT MOST 1048576: true; the input reads as it did. -/
def fnExactDiagPowersUptoRow : OpenClaim := { program := "yteapghgoiodoiaa", sum := "a769b26a7cd162191ad83320119676e8056412fd09748f52342656f5e8c42850", func := "loop.example/symmetricsums/laws.FnExactDiagPowers", spec := "fnExactDiagPowers", unfollowed := true, recurses := true, plainKeys := false, apart := false, narrowed := true }
def FnExactDiagPowersUptoSaid : Prop := fnExactDiagPowersUptoRow.holds Try.pinned (OpenSpec.upto fnExactDiagPowersSpec)

/-- 'laws.FnExactDiagHolds', WHERE WHAT IT READS IS OF BULK AT MOST 1048576: true; the input reads as it did. -/
def fnExactDiagHoldsUptoRow : OpenClaim := { program := "yteapghgoiodoiaa", sum := "a769b26a7cd162191ad83320119676e8056412fd09748f52342656f5e8c42850", func := "loop.example/symmetricsums/laws.FnExactDiagHolds", spec := "fnExactDiagHolds", plainKeys := false, apart := false, narrowed := true }
def FnExactDiagHoldsUptoSaid : Prop := fnExactDiagHoldsUptoRow.holds Try.pinned (OpenSpec.upto fnExactDiagHoldsSpec)

/-- 'laws.FnExactDiagRest', WHERE WHAT IT READS IS OF BULK AT MOST 1048576: true; the input reads as it did. -/
def fnExactDiagRestUptoRow : OpenClaim := { program := "yteapghgoiodoiaa", sum := "a769b26a7cd162191ad83320119676e8056412fd09748f52342656f5e8c42850", func := "loop.example/symmetricsums/laws.FnExactDiagRest", spec := "fnExactDiagRest", unfollowed := true, recurses := true, plainKeys := false, apart := false, narrowed := true }
def FnExactDiagRestUptoSaid : Prop := fnExactDiagRestUptoRow.holds Try.pinned (OpenSpec.upto fnExactDiagRestSpec)

/-- 'laws.FnExactDiagRestFull', WHERE WHAT IT READS IS OF BULK AT MOST 1048576: true; the input reads as it did. -/
def fnExactDiagRestFullUptoRow : OpenClaim := { program := "yteapghgoiodoiaa", sum := "a769b26a7cd162191ad83320119676e8056412fd09748f52342656f5e8c42850", func := "loop.example/symmetricsums/laws.FnExactDiagRestFull", spec := "fnExactDiagRestFull", unfollowed := true, recurses := true, plainKeys := false, apart := false, narrowed := true }
def FnExactDiagRestFullUptoSaid : Prop := fnExactDiagRestFullUptoRow.holds Try.pinned (OpenSpec.upto fnExactDiagRestFullSpec)

/-- 'laws.FnExactSumAt', WHERE WHAT IT READS IS OF BULK AT MOST 1048576: true; the input reads as it did. -/
def fnExactSumAtUptoRow : OpenClaim := { program := "yteapghgoiodoiaa", sum := "a769b26a7cd162191ad83320119676e8056412fd09748f52342656f5e8c42850", func := "loop.example/symmetricsums/laws.FnExactSumAt", spec := "fnExactSumAt", unfollowed := true, recurses := true, plainKeys := false, apart := false, narrowed := true }
def FnExactSumAtUptoSaid : Prop := fnExactSumAtUptoRow.holds Try.pinned (OpenSpec.upto fnExactSumAtSpec)

end Rows
end Go.Proofs.Yteapghgoiodoiaa
