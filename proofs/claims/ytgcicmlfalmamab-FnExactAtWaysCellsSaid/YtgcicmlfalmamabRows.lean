/-
  No cell of these rows narrows 'for every input' (looked for: loops, veiled, ifaces, maps, wideKeys, modest, calm, conditions, laid).
  DERIVED. THE GIVEN ROWS OF THIS SEAT. 12 by the template 'for every input the law returns true; each argument reads behind the call as it read before'; 0 by the template 'total and deterministic' (their statements: YtgcicmlfalmamabTotals.lean).
  GIVEN WITH THE SEED: the statements are not yours to turn. If you find one false, say at which input.
  Laid BY PROGRAM, IN A SANDBOX (cutbox-rows.mjs): the forced cells as the released guide's own fill.sh prints them over the translation 92e3f90c38225010… (all of the seat's roots in one cut). By AI agents, Wed Nov 11 2026. No macro, syntax, notation, axiom, sorry.
-/
import Derived.Test.YtgcicmlfalmamabChecked
import GoSem.Claim
import GoSem.ClaimJoined
import GoSem.ClaimMapViews
import Derived.JoinedTies
import Derived.KernelRfl
namespace Go.Proofs.Ytgcicmlfalmamab
/- THE CELL 'sum', in the pinned program and in every row, IS THE sha256 OF THE DUMP (.gsa) THAT YtgcicmlfalmamabProg.lean LOADS. Nothing in Lean hashes anything: it is a label: what it is worth is what the hold of that sum in a sandbox is worth. -/
noncomputable def Try.pinned : Pinned := { name := "ytgcicmlfalmamab", sum := "92e3f90c38225010156d401540d79356deff3d2af9a3b282ab58d7c549470cb8", checked := Try.checked }
namespace Rows
def none {H : Type} : Left H := { results := [], args := [] }

/-- 'laws.FnExactAtPlain': WHATEVER THE INPUT: true; the input reads as it did. -/
def fnExactAtPlainSpec : ChangeSpec := { name := "fnExactAtPlain", fn := fun _ => fun
  | [d1, d2] => { results := [.lit (.bool true)], args := [d1, d2] }
  | _ => none }
def fnExactAtPlainRow : OpenClaim := { program := "ytgcicmlfalmamab", sum := "92e3f90c38225010156d401540d79356deff3d2af9a3b282ab58d7c549470cb8", func := "loop.example/symmetricsums/laws.FnExactAtPlain", spec := "fnExactAtPlain", unfollowed := true, recurses := true, plainKeys := false, apart := false }
def FnExactAtPlainSaid : Prop := fnExactAtPlainRow.holds Try.pinned (OpenSpec.ofChange fnExactAtPlainSpec)

/-- ITS FALSE NEIGHBOUR: 'it returns false'. Refute it at one input. -/
def fnExactAtPlainWrong : ChangeSpec := { name := "fnExactAtPlain", fn := fun _ => fun
  | [d1, d2] => { results := [.lit (.bool false)], args := [d1, d2] }
  | _ => none }
def FnExactAtPlainWrongFalsely : Prop := fnExactAtPlainRow.holds Try.pinned (OpenSpec.ofChange fnExactAtPlainWrong)

/-- 'laws.FnExactAtChosen': WHATEVER THE INPUT: true; the input reads as it did. -/
def fnExactAtChosenSpec : ChangeSpec := { name := "fnExactAtChosen", fn := fun _ => fun
  | [d1, d2] => { results := [.lit (.bool true)], args := [d1, d2] }
  | _ => none }
def fnExactAtChosenRow : OpenClaim := { program := "ytgcicmlfalmamab", sum := "92e3f90c38225010156d401540d79356deff3d2af9a3b282ab58d7c549470cb8", func := "loop.example/symmetricsums/laws.FnExactAtChosen", spec := "fnExactAtChosen", unfollowed := true, recurses := true, plainKeys := false, apart := false }
def FnExactAtChosenSaid : Prop := fnExactAtChosenRow.holds Try.pinned (OpenSpec.ofChange fnExactAtChosenSpec)

/-- ITS FALSE NEIGHBOUR: 'it returns false'. Refute it at one input. -/
def fnExactAtChosenWrong : ChangeSpec := { name := "fnExactAtChosen", fn := fun _ => fun
  | [d1, d2] => { results := [.lit (.bool false)], args := [d1, d2] }
  | _ => none }
def FnExactAtChosenWrongFalsely : Prop := fnExactAtChosenRow.holds Try.pinned (OpenSpec.ofChange fnExactAtChosenWrong)

/-- 'laws.FnExactAtFull': WHATEVER THE INPUT: true; the input reads as it did. -/
def fnExactAtFullSpec : ChangeSpec := { name := "fnExactAtFull", fn := fun _ => fun
  | [d1, d2] => { results := [.lit (.bool true)], args := [d1, d2] }
  | _ => none }
def fnExactAtFullRow : OpenClaim := { program := "ytgcicmlfalmamab", sum := "92e3f90c38225010156d401540d79356deff3d2af9a3b282ab58d7c549470cb8", func := "loop.example/symmetricsums/laws.FnExactAtFull", spec := "fnExactAtFull", unfollowed := true, recurses := true, plainKeys := false, apart := false }
def FnExactAtFullSaid : Prop := fnExactAtFullRow.holds Try.pinned (OpenSpec.ofChange fnExactAtFullSpec)

/-- ITS FALSE NEIGHBOUR: 'it returns false'. Refute it at one input. -/
def fnExactAtFullWrong : ChangeSpec := { name := "fnExactAtFull", fn := fun _ => fun
  | [d1, d2] => { results := [.lit (.bool false)], args := [d1, d2] }
  | _ => none }
def FnExactAtFullWrongFalsely : Prop := fnExactAtFullRow.holds Try.pinned (OpenSpec.ofChange fnExactAtFullWrong)

/-- 'laws.FnExactAtPower': WHATEVER THE INPUT: true; the input reads as it did. -/
def fnExactAtPowerSpec : ChangeSpec := { name := "fnExactAtPower", fn := fun _ => fun
  | [d1, d2] => { results := [.lit (.bool true)], args := [d1, d2] }
  | _ => none }
def fnExactAtPowerRow : OpenClaim := { program := "ytgcicmlfalmamab", sum := "92e3f90c38225010156d401540d79356deff3d2af9a3b282ab58d7c549470cb8", func := "loop.example/symmetricsums/laws.FnExactAtPower", spec := "fnExactAtPower", unfollowed := true, recurses := true, plainKeys := false, apart := false }
def FnExactAtPowerSaid : Prop := fnExactAtPowerRow.holds Try.pinned (OpenSpec.ofChange fnExactAtPowerSpec)

/-- ITS FALSE NEIGHBOUR: 'it returns false'. Refute it at one input. -/
def fnExactAtPowerWrong : ChangeSpec := { name := "fnExactAtPower", fn := fun _ => fun
  | [d1, d2] => { results := [.lit (.bool false)], args := [d1, d2] }
  | _ => none }
def FnExactAtPowerWrongFalsely : Prop := fnExactAtPowerRow.holds Try.pinned (OpenSpec.ofChange fnExactAtPowerWrong)

/-- 'laws.FnExactAtShare': WHATEVER THE INPUT: true; the input reads as it did. -/
def fnExactAtShareSpec : ChangeSpec := { name := "fnExactAtShare", fn := fun _ => fun
  | [d1, d2, d3] => { results := [.lit (.bool true)], args := [d1, d2, d3] }
  | _ => none }
def fnExactAtShareRow : OpenClaim := { program := "ytgcicmlfalmamab", sum := "92e3f90c38225010156d401540d79356deff3d2af9a3b282ab58d7c549470cb8", func := "loop.example/symmetricsums/laws.FnExactAtShare", spec := "fnExactAtShare", unfollowed := true, recurses := true, plainKeys := false, apart := false }
def FnExactAtShareSaid : Prop := fnExactAtShareRow.holds Try.pinned (OpenSpec.ofChange fnExactAtShareSpec)

/-- ITS FALSE NEIGHBOUR: 'it returns false'. Refute it at one input. -/
def fnExactAtShareWrong : ChangeSpec := { name := "fnExactAtShare", fn := fun _ => fun
  | [d1, d2, d3] => { results := [.lit (.bool false)], args := [d1, d2, d3] }
  | _ => none }
def FnExactAtShareWrongFalsely : Prop := fnExactAtShareRow.holds Try.pinned (OpenSpec.ofChange fnExactAtShareWrong)

/-- 'laws.FnExactAtDiagram': WHATEVER THE INPUT: true; the input reads as it did. -/
def fnExactAtDiagramSpec : ChangeSpec := { name := "fnExactAtDiagram", fn := fun _ => fun
  | [d1, d2] => { results := [.lit (.bool true)], args := [d1, d2] }
  | _ => none }
def fnExactAtDiagramRow : OpenClaim := { program := "ytgcicmlfalmamab", sum := "92e3f90c38225010156d401540d79356deff3d2af9a3b282ab58d7c549470cb8", func := "loop.example/symmetricsums/laws.FnExactAtDiagram", spec := "fnExactAtDiagram", unfollowed := true, recurses := true, plainKeys := false, apart := false }
def FnExactAtDiagramSaid : Prop := fnExactAtDiagramRow.holds Try.pinned (OpenSpec.ofChange fnExactAtDiagramSpec)

/-- ITS FALSE NEIGHBOUR: 'it returns false'. Refute it at one input. -/
def fnExactAtDiagramWrong : ChangeSpec := { name := "fnExactAtDiagram", fn := fun _ => fun
  | [d1, d2] => { results := [.lit (.bool false)], args := [d1, d2] }
  | _ => none }
def FnExactAtDiagramWrongFalsely : Prop := fnExactAtDiagramRow.holds Try.pinned (OpenSpec.ofChange fnExactAtDiagramWrong)

/-- 'laws.FnExactAtWays': WHATEVER THE INPUT: true; the input reads as it did. -/
def fnExactAtWaysSpec : ChangeSpec := { name := "fnExactAtWays", fn := fun _ => fun
  | [d1, d2] => { results := [.lit (.bool true)], args := [d1, d2] }
  | _ => none }
def fnExactAtWaysRow : OpenClaim := { program := "ytgcicmlfalmamab", sum := "92e3f90c38225010156d401540d79356deff3d2af9a3b282ab58d7c549470cb8", func := "loop.example/symmetricsums/laws.FnExactAtWays", spec := "fnExactAtWays", unfollowed := true, recurses := true, plainKeys := false, apart := false }
def FnExactAtWaysSaid : Prop := fnExactAtWaysRow.holds Try.pinned (OpenSpec.ofChange fnExactAtWaysSpec)

/-- ITS FALSE NEIGHBOUR: 'it returns false'. Refute it at one input. -/
def fnExactAtWaysWrong : ChangeSpec := { name := "fnExactAtWays", fn := fun _ => fun
  | [d1, d2] => { results := [.lit (.bool false)], args := [d1, d2] }
  | _ => none }
def FnExactAtWaysWrongFalsely : Prop := fnExactAtWaysRow.holds Try.pinned (OpenSpec.ofChange fnExactAtWaysWrong)

/-- 'laws.FnExactAtWaysCells': WHATEVER THE INPUT: true; the input reads as it did. -/
def fnExactAtWaysCellsSpec : ChangeSpec := { name := "fnExactAtWaysCells", fn := fun _ => fun
  | [d1, d2] => { results := [.lit (.bool true)], args := [d1, d2] }
  | _ => none }
def fnExactAtWaysCellsRow : OpenClaim := { program := "ytgcicmlfalmamab", sum := "92e3f90c38225010156d401540d79356deff3d2af9a3b282ab58d7c549470cb8", func := "loop.example/symmetricsums/laws.FnExactAtWaysCells", spec := "fnExactAtWaysCells", plainKeys := false, apart := false }
def FnExactAtWaysCellsSaid : Prop := fnExactAtWaysCellsRow.holds Try.pinned (OpenSpec.ofChange fnExactAtWaysCellsSpec)

/-- ITS FALSE NEIGHBOUR: 'it returns false'. Refute it at one input. -/
def fnExactAtWaysCellsWrong : ChangeSpec := { name := "fnExactAtWaysCells", fn := fun _ => fun
  | [d1, d2] => { results := [.lit (.bool false)], args := [d1, d2] }
  | _ => none }
def FnExactAtWaysCellsWrongFalsely : Prop := fnExactAtWaysCellsRow.holds Try.pinned (OpenSpec.ofChange fnExactAtWaysCellsWrong)

/-- 'laws.FnShare': WHATEVER THE INPUT: true; the input reads as it did. -/
def fnShareSpec : ChangeSpec := { name := "fnShare", fn := fun _ => fun
  | [d] => { results := [.lit (.bool true)], args := [d] }
  | _ => none }
def fnShareRow : OpenClaim := { program := "ytgcicmlfalmamab", sum := "92e3f90c38225010156d401540d79356deff3d2af9a3b282ab58d7c549470cb8", func := "loop.example/symmetricsums/laws.FnShare", spec := "fnShare", unfollowed := true, recurses := true, plainKeys := false, apart := false }
def FnShareSaid : Prop := fnShareRow.holds Try.pinned (OpenSpec.ofChange fnShareSpec)

/-- ITS FALSE NEIGHBOUR: 'it returns false'. Refute it at one input. -/
def fnShareWrong : ChangeSpec := { name := "fnShare", fn := fun _ => fun
  | [d] => { results := [.lit (.bool false)], args := [d] }
  | _ => none }
def FnShareWrongFalsely : Prop := fnShareRow.holds Try.pinned (OpenSpec.ofChange fnShareWrong)

/-- 'laws.FnAll': WHATEVER THE INPUT: true; the input reads as it did. -/
def fnAllSpec : ChangeSpec := { name := "fnAll", fn := fun _ => fun
  | [d] => { results := [.lit (.bool true)], args := [d] }
  | _ => none }
def fnAllRow : OpenClaim := { program := "ytgcicmlfalmamab", sum := "92e3f90c38225010156d401540d79356deff3d2af9a3b282ab58d7c549470cb8", func := "loop.example/symmetricsums/laws.FnAll", spec := "fnAll", unfollowed := true, recurses := true, plainKeys := false, apart := false }
def FnAllSaid : Prop := fnAllRow.holds Try.pinned (OpenSpec.ofChange fnAllSpec)

/-- ITS FALSE NEIGHBOUR: 'it returns false'. Refute it at one input. -/
def fnAllWrong : ChangeSpec := { name := "fnAll", fn := fun _ => fun
  | [d] => { results := [.lit (.bool false)], args := [d] }
  | _ => none }
def FnAllWrongFalsely : Prop := fnAllRow.holds Try.pinned (OpenSpec.ofChange fnAllWrong)

/-- 'laws.FnPlace': WHATEVER THE INPUT: true; the input reads as it did. -/
def fnPlaceSpec : ChangeSpec := { name := "fnPlace", fn := fun _ => fun
  | [d] => { results := [.lit (.bool true)], args := [d] }
  | _ => none }
def fnPlaceRow : OpenClaim := { program := "ytgcicmlfalmamab", sum := "92e3f90c38225010156d401540d79356deff3d2af9a3b282ab58d7c549470cb8", func := "loop.example/symmetricsums/laws.FnPlace", spec := "fnPlace", unfollowed := true, recurses := true, plainKeys := false, apart := false }
def FnPlaceSaid : Prop := fnPlaceRow.holds Try.pinned (OpenSpec.ofChange fnPlaceSpec)

/-- ITS FALSE NEIGHBOUR: 'it returns false'. Refute it at one input. -/
def fnPlaceWrong : ChangeSpec := { name := "fnPlace", fn := fun _ => fun
  | [d] => { results := [.lit (.bool false)], args := [d] }
  | _ => none }
def FnPlaceWrongFalsely : Prop := fnPlaceRow.holds Try.pinned (OpenSpec.ofChange fnPlaceWrong)

/-- 'laws.FnTurn': WHATEVER THE INPUT: true; the input reads as it did. -/
def fnTurnSpec : ChangeSpec := { name := "fnTurn", fn := fun _ => fun
  | [d] => { results := [.lit (.bool true)], args := [d] }
  | _ => none }
def fnTurnRow : OpenClaim := { program := "ytgcicmlfalmamab", sum := "92e3f90c38225010156d401540d79356deff3d2af9a3b282ab58d7c549470cb8", func := "loop.example/symmetricsums/laws.FnTurn", spec := "fnTurn", unfollowed := true, recurses := true, plainKeys := false, apart := false }
def FnTurnSaid : Prop := fnTurnRow.holds Try.pinned (OpenSpec.ofChange fnTurnSpec)

/-- ITS FALSE NEIGHBOUR: 'it returns false'. Refute it at one input. -/
def fnTurnWrong : ChangeSpec := { name := "fnTurn", fn := fun _ => fun
  | [d] => { results := [.lit (.bool false)], args := [d] }
  | _ => none }
def FnTurnWrongFalsely : Prop := fnTurnRow.holds Try.pinned (OpenSpec.ofChange fnTurnWrong)

/- THE SECOND FORM. 'bulk': how many values and letters a reading holds, each counted each time it is reached (what is shared counts as often as it is met; a slice's spare places count too). A statement '..UptoSaid' is the law's where the arguments, and the package variables that the reading takes, are together of bulk at most 1048576: NARROWER than '..Said'. Prove '..Said' where nothing that the law and all that it calls make is longer than what came in: it says more and counts as full. Else prove '..UptoSaid'. A law counts once. -/
mutual
def uptoBulk {H : Type} : DataW H → Nat
  | .lit (.string bytes) => bytes.length + 1
  | .lit _ => 1
  | .nil => 1
  | .ptr d => uptoBulk d + 1
  | .slice elems spare => uptoBulkAll elems + uptoBulkAll spare + 1
  | .agg parts => uptoBulkAll parts + 1
  | .iface _ d => uptoBulk d + 1
  | .map entries => uptoBulkEntries entries + 1
  | .held _ => 1
def uptoBulkAll {H : Type} : List (DataW H) → Nat
  | [] => 0
  | d :: r => uptoBulk d + uptoBulkAll r
def uptoBulkEntries {H : Type} : List (Lit × DataW H) → Nat
  | [] => 0
  | x :: r => uptoBulkEntry x + uptoBulkEntries r
def uptoBulkEntry {H : Type} : Lit × DataW H → Nat
  | (.string bytes, d) => bytes.length + uptoBulk d + 1
  | (_, d) => uptoBulk d + 1
 end
def uptoSmall : (H : Type) → List (DataW H) → Bool := fun _ ds => decide (uptoBulkAll ds ≤ 1048576)
def OpenSpec.upto (s : _root_.Go.ChangeSpec) : _root_.Go.OpenSpec := { _root_.Go.OpenSpec.ofChange s with cond := some uptoSmall }

/-- 'laws.FnExactAtPlain', WHERE WHAT IT READS IS OF BULK AT MOST 1048576: true; the input reads as it did. -/
def fnExactAtPlainUptoRow : OpenClaim := { program := "ytgcicmlfalmamab", sum := "92e3f90c38225010156d401540d79356deff3d2af9a3b282ab58d7c549470cb8", func := "loop.example/symmetricsums/laws.FnExactAtPlain", spec := "fnExactAtPlain", unfollowed := true, recurses := true, plainKeys := false, apart := false, narrowed := true }
def FnExactAtPlainUptoSaid : Prop := fnExactAtPlainUptoRow.holds Try.pinned (OpenSpec.upto fnExactAtPlainSpec)

/-- 'laws.FnExactAtChosen', WHERE WHAT IT READS IS OF BULK AT MOST 1048576: true; the input reads as it did. -/
def fnExactAtChosenUptoRow : OpenClaim := { program := "ytgcicmlfalmamab", sum := "92e3f90c38225010156d401540d79356deff3d2af9a3b282ab58d7c549470cb8", func := "loop.example/symmetricsums/laws.FnExactAtChosen", spec := "fnExactAtChosen", unfollowed := true, recurses := true, plainKeys := false, apart := false, narrowed := true }
def FnExactAtChosenUptoSaid : Prop := fnExactAtChosenUptoRow.holds Try.pinned (OpenSpec.upto fnExactAtChosenSpec)

/-- 'laws.FnExactAtFull', WHERE WHAT IT READS IS OF BULK AT MOST 1048576: true; the input reads as it did. -/
def fnExactAtFullUptoRow : OpenClaim := { program := "ytgcicmlfalmamab", sum := "92e3f90c38225010156d401540d79356deff3d2af9a3b282ab58d7c549470cb8", func := "loop.example/symmetricsums/laws.FnExactAtFull", spec := "fnExactAtFull", unfollowed := true, recurses := true, plainKeys := false, apart := false, narrowed := true }
def FnExactAtFullUptoSaid : Prop := fnExactAtFullUptoRow.holds Try.pinned (OpenSpec.upto fnExactAtFullSpec)

/-- 'laws.FnExactAtPower', WHERE WHAT IT READS IS OF BULK AT MOST 1048576: true; the input reads as it did. -/
def fnExactAtPowerUptoRow : OpenClaim := { program := "ytgcicmlfalmamab", sum := "92e3f90c38225010156d401540d79356deff3d2af9a3b282ab58d7c549470cb8", func := "loop.example/symmetricsums/laws.FnExactAtPower", spec := "fnExactAtPower", unfollowed := true, recurses := true, plainKeys := false, apart := false, narrowed := true }
def FnExactAtPowerUptoSaid : Prop := fnExactAtPowerUptoRow.holds Try.pinned (OpenSpec.upto fnExactAtPowerSpec)

/-- 'laws.FnExactAtShare', WHERE WHAT IT READS IS OF BULK AT MOST 1048576: true; the input reads as it did. -/
def fnExactAtShareUptoRow : OpenClaim := { program := "ytgcicmlfalmamab", sum := "92e3f90c38225010156d401540d79356deff3d2af9a3b282ab58d7c549470cb8", func := "loop.example/symmetricsums/laws.FnExactAtShare", spec := "fnExactAtShare", unfollowed := true, recurses := true, plainKeys := false, apart := false, narrowed := true }
def FnExactAtShareUptoSaid : Prop := fnExactAtShareUptoRow.holds Try.pinned (OpenSpec.upto fnExactAtShareSpec)

/-- 'laws.FnExactAtDiagram', WHERE WHAT IT READS IS OF BULK AT MOST 1048576: true; the input reads as it did. -/
def fnExactAtDiagramUptoRow : OpenClaim := { program := "ytgcicmlfalmamab", sum := "92e3f90c38225010156d401540d79356deff3d2af9a3b282ab58d7c549470cb8", func := "loop.example/symmetricsums/laws.FnExactAtDiagram", spec := "fnExactAtDiagram", unfollowed := true, recurses := true, plainKeys := false, apart := false, narrowed := true }
def FnExactAtDiagramUptoSaid : Prop := fnExactAtDiagramUptoRow.holds Try.pinned (OpenSpec.upto fnExactAtDiagramSpec)

/-- 'laws.FnExactAtWays', WHERE WHAT IT READS IS OF BULK AT MOST 1048576: true; the input reads as it did. -/
def fnExactAtWaysUptoRow : OpenClaim := { program := "ytgcicmlfalmamab", sum := "92e3f90c38225010156d401540d79356deff3d2af9a3b282ab58d7c549470cb8", func := "loop.example/symmetricsums/laws.FnExactAtWays", spec := "fnExactAtWays", unfollowed := true, recurses := true, plainKeys := false, apart := false, narrowed := true }
def FnExactAtWaysUptoSaid : Prop := fnExactAtWaysUptoRow.holds Try.pinned (OpenSpec.upto fnExactAtWaysSpec)

/-- 'laws.FnExactAtWaysCells', WHERE WHAT IT READS IS OF BULK AT MOST 1048576: true; the input reads as it did. -/
def fnExactAtWaysCellsUptoRow : OpenClaim := { program := "ytgcicmlfalmamab", sum := "92e3f90c38225010156d401540d79356deff3d2af9a3b282ab58d7c549470cb8", func := "loop.example/symmetricsums/laws.FnExactAtWaysCells", spec := "fnExactAtWaysCells", plainKeys := false, apart := false, narrowed := true }
def FnExactAtWaysCellsUptoSaid : Prop := fnExactAtWaysCellsUptoRow.holds Try.pinned (OpenSpec.upto fnExactAtWaysCellsSpec)

/-- 'laws.FnShare', WHERE WHAT IT READS IS OF BULK AT MOST 1048576: true; the input reads as it did. -/
def fnShareUptoRow : OpenClaim := { program := "ytgcicmlfalmamab", sum := "92e3f90c38225010156d401540d79356deff3d2af9a3b282ab58d7c549470cb8", func := "loop.example/symmetricsums/laws.FnShare", spec := "fnShare", unfollowed := true, recurses := true, plainKeys := false, apart := false, narrowed := true }
def FnShareUptoSaid : Prop := fnShareUptoRow.holds Try.pinned (OpenSpec.upto fnShareSpec)

/-- 'laws.FnAll', WHERE WHAT IT READS IS OF BULK AT MOST 1048576: true; the input reads as it did. -/
def fnAllUptoRow : OpenClaim := { program := "ytgcicmlfalmamab", sum := "92e3f90c38225010156d401540d79356deff3d2af9a3b282ab58d7c549470cb8", func := "loop.example/symmetricsums/laws.FnAll", spec := "fnAll", unfollowed := true, recurses := true, plainKeys := false, apart := false, narrowed := true }
def FnAllUptoSaid : Prop := fnAllUptoRow.holds Try.pinned (OpenSpec.upto fnAllSpec)

/-- 'laws.FnPlace', WHERE WHAT IT READS IS OF BULK AT MOST 1048576: true; the input reads as it did. -/
def fnPlaceUptoRow : OpenClaim := { program := "ytgcicmlfalmamab", sum := "92e3f90c38225010156d401540d79356deff3d2af9a3b282ab58d7c549470cb8", func := "loop.example/symmetricsums/laws.FnPlace", spec := "fnPlace", unfollowed := true, recurses := true, plainKeys := false, apart := false, narrowed := true }
def FnPlaceUptoSaid : Prop := fnPlaceUptoRow.holds Try.pinned (OpenSpec.upto fnPlaceSpec)

/-- 'laws.FnTurn', WHERE WHAT IT READS IS OF BULK AT MOST 1048576: true; the input reads as it did. -/
def fnTurnUptoRow : OpenClaim := { program := "ytgcicmlfalmamab", sum := "92e3f90c38225010156d401540d79356deff3d2af9a3b282ab58d7c549470cb8", func := "loop.example/symmetricsums/laws.FnTurn", spec := "fnTurn", unfollowed := true, recurses := true, plainKeys := false, apart := false, narrowed := true }
def FnTurnUptoSaid : Prop := fnTurnUptoRow.holds Try.pinned (OpenSpec.upto fnTurnSpec)

end Rows
end Go.Proofs.Ytgcicmlfalmamab
