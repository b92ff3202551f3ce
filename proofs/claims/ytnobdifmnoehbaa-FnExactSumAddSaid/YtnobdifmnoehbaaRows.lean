/-
  No cell of these rows narrows 'for every input' (looked for: loops, veiled, ifaces, maps, wideKeys, modest, calm, conditions, laid).
  DERIVED. THE GIVEN ROWS OF THIS SEAT. 12 by the template 'for every input the law returns true; each argument reads behind the call as it read before'; 0 by the template 'total and deterministic' (their statements: YtnobdifmnoehbaaTotals.lean).
  GIVEN WITH THE SEED: the statements are not yours to turn. If you find one false, say at which input.
  Laid BY PROGRAM, IN A SANDBOX (cutbox-rows.mjs): the forced cells as the released guide's own fill.sh prints them over the translation b4e1d5a71f04f5ad… (all of the seat's roots in one cut). By AI agents, Wed Nov 11 2026. No macro, syntax, notation, axiom, sorry.
-/
import Derived.Test.YtnobdifmnoehbaaChecked
import GoSem.Claim
import GoSem.ClaimJoined
import GoSem.ClaimMapViews
import Derived.JoinedTies
import Derived.KernelRfl
namespace Go.Proofs.Ytnobdifmnoehbaa
/- THE CELL 'sum', in the pinned program and in every row, IS THE sha256 OF THE DUMP (.gsa) THAT YtnobdifmnoehbaaProg.lean LOADS. Nothing in Lean hashes anything: it is a label: what it is worth is what the hold of that sum in a sandbox is worth. -/
noncomputable def Try.pinned : Pinned := { name := "ytnobdifmnoehbaa", sum := "b4e1d5a71f04f5ad22ec49354ebac0ffef49639b6764b45767b0020e386f0268", checked := Try.checked }
namespace Rows
def none {H : Type} : Left H := { results := [], args := [] }

/-- 'laws.FnExactRootAt': WHATEVER THE INPUT: true; the input reads as it did. -/
def fnExactRootAtSpec : ChangeSpec := { name := "fnExactRootAt", fn := fun _ => fun
  | [d1, d2] => { results := [.lit (.bool true)], args := [d1, d2] }
  | _ => none }
def fnExactRootAtRow : OpenClaim := { program := "ytnobdifmnoehbaa", sum := "b4e1d5a71f04f5ad22ec49354ebac0ffef49639b6764b45767b0020e386f0268", func := "loop.example/symmetricsums/laws.FnExactRootAt", spec := "fnExactRootAt", plainKeys := false, apart := false }
def FnExactRootAtSaid : Prop := fnExactRootAtRow.holds Try.pinned (OpenSpec.ofChange fnExactRootAtSpec)

/-- ITS FALSE NEIGHBOUR: 'it returns false'. Refute it at one input. -/
def fnExactRootAtWrong : ChangeSpec := { name := "fnExactRootAt", fn := fun _ => fun
  | [d1, d2] => { results := [.lit (.bool false)], args := [d1, d2] }
  | _ => none }
def FnExactRootAtWrongFalsely : Prop := fnExactRootAtRow.holds Try.pinned (OpenSpec.ofChange fnExactRootAtWrong)

/-- 'laws.FnExactRootTimes': WHATEVER THE INPUT: true; the input reads as it did. -/
def fnExactRootTimesSpec : ChangeSpec := { name := "fnExactRootTimes", fn := fun _ => fun
  | [d1, d2] => { results := [.lit (.bool true)], args := [d1, d2] }
  | _ => none }
def fnExactRootTimesRow : OpenClaim := { program := "ytnobdifmnoehbaa", sum := "b4e1d5a71f04f5ad22ec49354ebac0ffef49639b6764b45767b0020e386f0268", func := "loop.example/symmetricsums/laws.FnExactRootTimes", spec := "fnExactRootTimes", unfollowed := true, recurses := true, plainKeys := false, apart := false }
def FnExactRootTimesSaid : Prop := fnExactRootTimesRow.holds Try.pinned (OpenSpec.ofChange fnExactRootTimesSpec)

/-- ITS FALSE NEIGHBOUR: 'it returns false'. Refute it at one input. -/
def fnExactRootTimesWrong : ChangeSpec := { name := "fnExactRootTimes", fn := fun _ => fun
  | [d1, d2] => { results := [.lit (.bool false)], args := [d1, d2] }
  | _ => none }
def FnExactRootTimesWrongFalsely : Prop := fnExactRootTimesRow.holds Try.pinned (OpenSpec.ofChange fnExactRootTimesWrong)

/-- 'laws.FnExactRootShift': WHATEVER THE INPUT: true; the input reads as it did. -/
def fnExactRootShiftSpec : ChangeSpec := { name := "fnExactRootShift", fn := fun _ => fun
  | [d1, d2] => { results := [.lit (.bool true)], args := [d1, d2] }
  | _ => none }
def fnExactRootShiftRow : OpenClaim := { program := "ytnobdifmnoehbaa", sum := "b4e1d5a71f04f5ad22ec49354ebac0ffef49639b6764b45767b0020e386f0268", func := "loop.example/symmetricsums/laws.FnExactRootShift", spec := "fnExactRootShift", unfollowed := true, recurses := true, plainKeys := false, apart := false }
def FnExactRootShiftSaid : Prop := fnExactRootShiftRow.holds Try.pinned (OpenSpec.ofChange fnExactRootShiftSpec)

/-- ITS FALSE NEIGHBOUR: 'it returns false'. Refute it at one input. -/
def fnExactRootShiftWrong : ChangeSpec := { name := "fnExactRootShift", fn := fun _ => fun
  | [d1, d2] => { results := [.lit (.bool false)], args := [d1, d2] }
  | _ => none }
def FnExactRootShiftWrongFalsely : Prop := fnExactRootShiftRow.holds Try.pinned (OpenSpec.ofChange fnExactRootShiftWrong)

/-- 'laws.FnExactRootSquares': WHATEVER THE INPUT: true; the input reads as it did. -/
def fnExactRootSquaresSpec : ChangeSpec := { name := "fnExactRootSquares", fn := fun _ => fun
  | [d] => { results := [.lit (.bool true)], args := [d] }
  | _ => none }
def fnExactRootSquaresRow : OpenClaim := { program := "ytnobdifmnoehbaa", sum := "b4e1d5a71f04f5ad22ec49354ebac0ffef49639b6764b45767b0020e386f0268", func := "loop.example/symmetricsums/laws.FnExactRootSquares", spec := "fnExactRootSquares", plainKeys := false, apart := false }
def FnExactRootSquaresSaid : Prop := fnExactRootSquaresRow.holds Try.pinned (OpenSpec.ofChange fnExactRootSquaresSpec)

/-- ITS FALSE NEIGHBOUR: 'it returns false'. Refute it at one input. -/
def fnExactRootSquaresWrong : ChangeSpec := { name := "fnExactRootSquares", fn := fun _ => fun
  | [d] => { results := [.lit (.bool false)], args := [d] }
  | _ => none }
def FnExactRootSquaresWrongFalsely : Prop := fnExactRootSquaresRow.holds Try.pinned (OpenSpec.ofChange fnExactRootSquaresWrong)

/-- 'laws.FnExactRootBack': WHATEVER THE INPUT: true; the input reads as it did. -/
def fnExactRootBackSpec : ChangeSpec := { name := "fnExactRootBack", fn := fun _ => fun
  | [d] => { results := [.lit (.bool true)], args := [d] }
  | _ => none }
def fnExactRootBackRow : OpenClaim := { program := "ytnobdifmnoehbaa", sum := "b4e1d5a71f04f5ad22ec49354ebac0ffef49639b6764b45767b0020e386f0268", func := "loop.example/symmetricsums/laws.FnExactRootBack", spec := "fnExactRootBack", plainKeys := false, apart := false }
def FnExactRootBackSaid : Prop := fnExactRootBackRow.holds Try.pinned (OpenSpec.ofChange fnExactRootBackSpec)

/-- ITS FALSE NEIGHBOUR: 'it returns false'. Refute it at one input. -/
def fnExactRootBackWrong : ChangeSpec := { name := "fnExactRootBack", fn := fun _ => fun
  | [d] => { results := [.lit (.bool false)], args := [d] }
  | _ => none }
def FnExactRootBackWrongFalsely : Prop := fnExactRootBackRow.holds Try.pinned (OpenSpec.ofChange fnExactRootBackWrong)

/-- 'laws.FnExactRootPowers': WHATEVER THE INPUT: true; the input reads as it did. -/
def fnExactRootPowersSpec : ChangeSpec := { name := "fnExactRootPowers", fn := fun _ => fun
  | [d1, d2] => { results := [.lit (.bool true)], args := [d1, d2] }
  | _ => none }
def fnExactRootPowersRow : OpenClaim := { program := "ytnobdifmnoehbaa", sum := "b4e1d5a71f04f5ad22ec49354ebac0ffef49639b6764b45767b0020e386f0268", func := "loop.example/symmetricsums/laws.FnExactRootPowers", spec := "fnExactRootPowers", unfollowed := true, recurses := true, plainKeys := false, apart := false }
def FnExactRootPowersSaid : Prop := fnExactRootPowersRow.holds Try.pinned (OpenSpec.ofChange fnExactRootPowersSpec)

/-- ITS FALSE NEIGHBOUR: 'it returns false'. Refute it at one input. -/
def fnExactRootPowersWrong : ChangeSpec := { name := "fnExactRootPowers", fn := fun _ => fun
  | [d1, d2] => { results := [.lit (.bool false)], args := [d1, d2] }
  | _ => none }
def FnExactRootPowersWrongFalsely : Prop := fnExactRootPowersRow.holds Try.pinned (OpenSpec.ofChange fnExactRootPowersWrong)

/-- 'laws.FnExactRootFulls': WHATEVER THE INPUT: true; the input reads as it did. -/
def fnExactRootFullsSpec : ChangeSpec := { name := "fnExactRootFulls", fn := fun _ => fun
  | [d1, d2] => { results := [.lit (.bool true)], args := [d1, d2] }
  | _ => none }
def fnExactRootFullsRow : OpenClaim := { program := "ytnobdifmnoehbaa", sum := "b4e1d5a71f04f5ad22ec49354ebac0ffef49639b6764b45767b0020e386f0268", func := "loop.example/symmetricsums/laws.FnExactRootFulls", spec := "fnExactRootFulls", unfollowed := true, recurses := true, plainKeys := false, apart := false }
def FnExactRootFullsSaid : Prop := fnExactRootFullsRow.holds Try.pinned (OpenSpec.ofChange fnExactRootFullsSpec)

/-- ITS FALSE NEIGHBOUR: 'it returns false'. Refute it at one input. -/
def fnExactRootFullsWrong : ChangeSpec := { name := "fnExactRootFulls", fn := fun _ => fun
  | [d1, d2] => { results := [.lit (.bool false)], args := [d1, d2] }
  | _ => none }
def FnExactRootFullsWrongFalsely : Prop := fnExactRootFullsRow.holds Try.pinned (OpenSpec.ofChange fnExactRootFullsWrong)

/-- 'laws.FnExactRootOf': WHATEVER THE INPUT: true; the input reads as it did. -/
def fnExactRootOfSpec : ChangeSpec := { name := "fnExactRootOf", fn := fun _ => fun
  | [d] => { results := [.lit (.bool true)], args := [d] }
  | _ => none }
def fnExactRootOfRow : OpenClaim := { program := "ytnobdifmnoehbaa", sum := "b4e1d5a71f04f5ad22ec49354ebac0ffef49639b6764b45767b0020e386f0268", func := "loop.example/symmetricsums/laws.FnExactRootOf", spec := "fnExactRootOf", recurses := true, plainKeys := false, apart := false }
def FnExactRootOfSaid : Prop := fnExactRootOfRow.holds Try.pinned (OpenSpec.ofChange fnExactRootOfSpec)

/-- ITS FALSE NEIGHBOUR: 'it returns false'. Refute it at one input. -/
def fnExactRootOfWrong : ChangeSpec := { name := "fnExactRootOf", fn := fun _ => fun
  | [d] => { results := [.lit (.bool false)], args := [d] }
  | _ => none }
def FnExactRootOfWrongFalsely : Prop := fnExactRootOfRow.holds Try.pinned (OpenSpec.ofChange fnExactRootOfWrong)

/-- 'laws.FnExactRootFrom': WHATEVER THE INPUT: true; the input reads as it did. -/
def fnExactRootFromSpec : ChangeSpec := { name := "fnExactRootFrom", fn := fun _ => fun
  | [d] => { results := [.lit (.bool true)], args := [d] }
  | _ => none }
def fnExactRootFromRow : OpenClaim := { program := "ytnobdifmnoehbaa", sum := "b4e1d5a71f04f5ad22ec49354ebac0ffef49639b6764b45767b0020e386f0268", func := "loop.example/symmetricsums/laws.FnExactRootFrom", spec := "fnExactRootFrom", plainKeys := false, apart := false }
def FnExactRootFromSaid : Prop := fnExactRootFromRow.holds Try.pinned (OpenSpec.ofChange fnExactRootFromSpec)

/-- ITS FALSE NEIGHBOUR: 'it returns false'. Refute it at one input. -/
def fnExactRootFromWrong : ChangeSpec := { name := "fnExactRootFrom", fn := fun _ => fun
  | [d] => { results := [.lit (.bool false)], args := [d] }
  | _ => none }
def FnExactRootFromWrongFalsely : Prop := fnExactRootFromRow.holds Try.pinned (OpenSpec.ofChange fnExactRootFromWrong)

/-- 'laws.FnAtShare': WHATEVER THE INPUT: true; the input reads as it did. -/
def fnAtShareSpec : ChangeSpec := { name := "fnAtShare", fn := fun _ => fun
  | [d] => { results := [.lit (.bool true)], args := [d] }
  | _ => none }
def fnAtShareRow : OpenClaim := { program := "ytnobdifmnoehbaa", sum := "b4e1d5a71f04f5ad22ec49354ebac0ffef49639b6764b45767b0020e386f0268", func := "loop.example/symmetricsums/laws.FnAtShare", spec := "fnAtShare", unfollowed := true, recurses := true, plainKeys := false, apart := false }
def FnAtShareSaid : Prop := fnAtShareRow.holds Try.pinned (OpenSpec.ofChange fnAtShareSpec)

/-- ITS FALSE NEIGHBOUR: 'it returns false'. Refute it at one input. -/
def fnAtShareWrong : ChangeSpec := { name := "fnAtShare", fn := fun _ => fun
  | [d] => { results := [.lit (.bool false)], args := [d] }
  | _ => none }
def FnAtShareWrongFalsely : Prop := fnAtShareRow.holds Try.pinned (OpenSpec.ofChange fnAtShareWrong)

/-- 'laws.FnDiagram': WHATEVER THE INPUT: true; the input reads as it did. -/
def fnDiagramSpec : ChangeSpec := { name := "fnDiagram", fn := fun _ => fun
  | [d] => { results := [.lit (.bool true)], args := [d] }
  | _ => none }
def fnDiagramRow : OpenClaim := { program := "ytnobdifmnoehbaa", sum := "b4e1d5a71f04f5ad22ec49354ebac0ffef49639b6764b45767b0020e386f0268", func := "loop.example/symmetricsums/laws.FnDiagram", spec := "fnDiagram", unfollowed := true, recurses := true, plainKeys := false, apart := false }
def FnDiagramSaid : Prop := fnDiagramRow.holds Try.pinned (OpenSpec.ofChange fnDiagramSpec)

/-- ITS FALSE NEIGHBOUR: 'it returns false'. Refute it at one input. -/
def fnDiagramWrong : ChangeSpec := { name := "fnDiagram", fn := fun _ => fun
  | [d] => { results := [.lit (.bool false)], args := [d] }
  | _ => none }
def FnDiagramWrongFalsely : Prop := fnDiagramRow.holds Try.pinned (OpenSpec.ofChange fnDiagramWrong)

/-- 'laws.FnExactSumAdd': WHATEVER THE INPUT: true; the input reads as it did. -/
def fnExactSumAddSpec : ChangeSpec := { name := "fnExactSumAdd", fn := fun _ => fun
  | [d1, d2] => { results := [.lit (.bool true)], args := [d1, d2] }
  | _ => none }
def fnExactSumAddRow : OpenClaim := { program := "ytnobdifmnoehbaa", sum := "b4e1d5a71f04f5ad22ec49354ebac0ffef49639b6764b45767b0020e386f0268", func := "loop.example/symmetricsums/laws.FnExactSumAdd", spec := "fnExactSumAdd", unfollowed := true, recurses := true, plainKeys := false, apart := false }
def FnExactSumAddSaid : Prop := fnExactSumAddRow.holds Try.pinned (OpenSpec.ofChange fnExactSumAddSpec)

/-- ITS FALSE NEIGHBOUR: 'it returns false'. Refute it at one input. -/
def fnExactSumAddWrong : ChangeSpec := { name := "fnExactSumAdd", fn := fun _ => fun
  | [d1, d2] => { results := [.lit (.bool false)], args := [d1, d2] }
  | _ => none }
def FnExactSumAddWrongFalsely : Prop := fnExactSumAddRow.holds Try.pinned (OpenSpec.ofChange fnExactSumAddWrong)

/- THE SECOND FORM. 'bulk': how many values and letters a reading holds, each counted each time it is reached (what is shared counts as often as it is met; a slice's spare places count too). A statement '..UptoSaid' is the law's where the arguments, and the package variables that the reading takes, are together of bulk at most 1048576: NARROWER than '..Said'. Prove '..Said' where nothing that the law and all that it calls make is longer than what came in: it says more and counts as full. Else prove '..UptoSaid'. A law counts once. -/
mutual
def uptoBulk {H : Type} : DataW H → Nat
  | .lit (.string bytes) => bytes.length + 1
  | .lit _ => 1
  | .nil => 1
  | .ptr d => uptoBulk d + 1
  | .slice elems spare => uptoBulkAll elems + uptoBulkAll spare + 1
  | .agg parts => uptoBulkAll parts + 1
  | .iface _ d => uptoBulk d + 1
  | .map entries => uptoBulkEntries entries + 1
  | .held _ => 1
def uptoBulkAll {H : Type} : List (DataW H) → Nat
  | [] => 0
  | d :: r => uptoBulk d + uptoBulkAll r
def uptoBulkEntries {H : Type} : List (Lit × DataW H) → Nat
  | [] => 0
  | x :: r => uptoBulkEntry x + uptoBulkEntries r
def uptoBulkEntry {H : Type} : Lit × DataW H → Nat
  | (.string bytes, d) => bytes.length + uptoBulk d + 1
  | (_, d) => uptoBulk d + 1
 end
def uptoSmall : (H : Type) → List (DataW H) → Bool := fun _ ds => decide (uptoBulkAll ds ≤ 1048576)
def OpenSpec.upto (s : _root_.Go.ChangeSpec) : _root_.Go.OpenSpec := { _root_.Go.OpenSpec.ofChange s with cond := some uptoSmall }

/-- 'laws.FnExactRootAt', WHERE WHAT IT READS IS OF BULK AT MOST 1048576: true; the input reads as it did. -/
def fnExactRootAtUptoRow : OpenClaim := { program := "ytnobdifmnoehbaa", sum := "b4e1d5a71f04f5ad22ec49354ebac0ffef49639b6764b45767b0020e386f0268", func := "loop.example/symmetricsums/laws.FnExactRootAt", spec := "fnExactRootAt", plainKeys := false, apart := false, narrowed := true }
def FnExactRootAtUptoSaid : Prop := fnExactRootAtUptoRow.holds Try.pinned (OpenSpec.upto fnExactRootAtSpec)

/-- 'laws.FnExactRootTimes', WHERE WHAT IT READS IS OF BULK AT MOST 1048576: true; the input reads as it did. -/
def fnExactRootTimesUptoRow : OpenClaim := { program := "ytnobdifmnoehbaa", sum := "b4e1d5a71f04f5ad22ec49354ebac0ffef49639b6764b45767b0020e386f0268", func := "loop.example/symmetricsums/laws.FnExactRootTimes", spec := "fnExactRootTimes", unfollowed := true, recurses := true, plainKeys := false, apart := false, narrowed := true }
def FnExactRootTimesUptoSaid : Prop := fnExactRootTimesUptoRow.holds Try.pinned (OpenSpec.upto fnExactRootTimesSpec)

/-- 'laws.FnExactRootShift', WHERE WHAT IT READS IS OF BULK AT MOST 1048576: true; the input reads as it did. -/
def fnExactRootShiftUptoRow : OpenClaim := { program := "ytnobdifmnoehbaa", sum := "b4e1d5a71f04f5ad22ec49354ebac0ffef49639b6764b45767b0020e386f0268", func := "loop.example/symmetricsums/laws.FnExactRootShift", spec := "fnExactRootShift", unfollowed := true, recurses := true, plainKeys := false, apart := false, narrowed := true }
def FnExactRootShiftUptoSaid : Prop := fnExactRootShiftUptoRow.holds Try.pinned (OpenSpec.upto fnExactRootShiftSpec)

/-- 'laws.FnExactRootSquares', WHERE WHAT IT READS IS OF BULK AT MOST 1048576: true; the input reads as it did. -/
def fnExactRootSquaresUptoRow : OpenClaim := { program := "ytnobdifmnoehbaa", sum := "b4e1d5a71f04f5ad22ec49354ebac0ffef49639b6764b45767b0020e386f0268", func := "loop.example/symmetricsums/laws.FnExactRootSquares", spec := "fnExactRootSquares", plainKeys := false, apart := false, narrowed := true }
def FnExactRootSquaresUptoSaid : Prop := fnExactRootSquaresUptoRow.holds Try.pinned (OpenSpec.upto fnExactRootSquaresSpec)

/-- 'laws.FnExactRootBack', WHERE WHAT IT READS IS OF BULK AT MOST 1048576: true; the input reads as it did. -/
def fnExactRootBackUptoRow : OpenClaim := { program := "ytnobdifmnoehbaa", sum := "b4e1d5a71f04f5ad22ec49354ebac0ffef49639b6764b45767b0020e386f0268", func := "loop.example/symmetricsums/laws.FnExactRootBack", spec := "fnExactRootBack", plainKeys := false, apart := false, narrowed := true }
def FnExactRootBackUptoSaid : Prop := fnExactRootBackUptoRow.holds Try.pinned (OpenSpec.upto fnExactRootBackSpec)

/-- 'laws.FnExactRootPowers', WHERE WHAT IT READS IS OF BULK AT MOST 1048576: true; the input reads as it did. -/
def fnExactRootPowersUptoRow : OpenClaim := { program := "ytnobdifmnoehbaa", sum := "b4e1d5a71f04f5ad22ec49354ebac0ffef49639b6764b45767b0020e386f0268", func := "loop.example/symmetricsums/laws.FnExactRootPowers", spec := "fnExactRootPowers", unfollowed := true, recurses := true, plainKeys := false, apart := false, narrowed := true }
def FnExactRootPowersUptoSaid : Prop := fnExactRootPowersUptoRow.holds Try.pinned (OpenSpec.upto fnExactRootPowersSpec)

/-- 'laws.FnExactRootFulls', WHERE WHAT IT READS IS OF BULK AT MOST 1048576: true; the input reads as it did. -/
def fnExactRootFullsUptoRow : OpenClaim := { program := "ytnobdifmnoehbaa", sum := "b4e1d5a71f04f5ad22ec49354ebac0ffef49639b6764b45767b0020e386f0268", func := "loop.example/symmetricsums/laws.FnExactRootFulls", spec := "fnExactRootFulls", unfollowed := true, recurses := true, plainKeys := false, apart := false, narrowed := true }
def FnExactRootFullsUptoSaid : Prop := fnExactRootFullsUptoRow.holds Try.pinned (OpenSpec.upto fnExactRootFullsSpec)

/-- 'laws.FnExactRootOf', WHERE WHAT IT READS IS OF BULK AT MOST 1048576: true; the input reads as it did. -/
def fnExactRootOfUptoRow : OpenClaim := { program := "ytnobdifmnoehbaa", sum := "b4e1d5a71f04f5ad22ec49354ebac0ffef49639b6764b45767b0020e386f0268", func := "loop.example/symmetricsums/laws.FnExactRootOf", spec := "fnExactRootOf", recurses := true, plainKeys := false, apart := false, narrowed := true }
def FnExactRootOfUptoSaid : Prop := fnExactRootOfUptoRow.holds Try.pinned (OpenSpec.upto fnExactRootOfSpec)

/-- 'laws.FnExactRootFrom', WHERE WHAT IT READS IS OF BULK AT MOST 1048576: true; the input reads as it did. -/
def fnExactRootFromUptoRow : OpenClaim := { program := "ytnobdifmnoehbaa", sum := "b4e1d5a71f04f5ad22ec49354ebac0ffef49639b6764b45767b0020e386f0268", func := "loop.example/symmetricsums/laws.FnExactRootFrom", spec := "fnExactRootFrom", plainKeys := false, apart := false, narrowed := true }
def FnExactRootFromUptoSaid : Prop := fnExactRootFromUptoRow.holds Try.pinned (OpenSpec.upto fnExactRootFromSpec)

/-- 'laws.FnAtShare', WHERE WHAT IT READS IS OF BULK AT MOST 1048576: true; the input reads as it did. -/
def fnAtShareUptoRow : OpenClaim := { program := "ytnobdifmnoehbaa", sum := "b4e1d5a71f04f5ad22ec49354ebac0ffef49639b6764b45767b0020e386f0268", func := "loop.example/symmetricsums/laws.FnAtShare", spec := "fnAtShare", unfollowed := true, recurses := true, plainKeys := false, apart := false, narrowed := true }
def FnAtShareUptoSaid : Prop := fnAtShareUptoRow.holds Try.pinned (OpenSpec.upto fnAtShareSpec)

/-- 'laws.FnDiagram', WHERE WHAT IT READS IS OF BULK AT MOST 1048576: true; the input reads as it did. -/
def fnDiagramUptoRow : OpenClaim := { program := "ytnobdifmnoehbaa", sum := "b4e1d5a71f04f5ad22ec49354ebac0ffef49639b6764b45767b0020e386f0268", func := "loop.example/symmetricsums/laws.FnDiagram", spec := "fnDiagram", unfollowed := true, recurses := true, plainKeys := false, apart := false, narrowed := true }
def FnDiagramUptoSaid : Prop := fnDiagramUptoRow.holds Try.pinned (OpenSpec.upto fnDiagramSpec)

/-- 'laws.FnExactSumAdd', WHERE WHAT IT READS IS OF BULK AT MOST 1048576: true; the input reads as it did. -/
def fnExactSumAddUptoRow : OpenClaim := { program := "ytnobdifmnoehbaa", sum := "b4e1d5a71f04f5ad22ec49354ebac0ffef49639b6764b45767b0020e386f0268", func := "loop.example/symmetricsums/laws.FnExactSumAdd", spec := "fnExactSumAdd", unfollowed := true, recurses := true, plainKeys := false, apart := false, narrowed := true }
def FnExactSumAddUptoSaid : Prop := fnExactSumAddUptoRow.holds Try.pinned (OpenSpec.upto fnExactSumAddSpec)

end Rows
end Go.Proofs.Ytnobdifmnoehbaa
