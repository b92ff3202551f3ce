/-
  No cell of these rows narrows 'for every input' (looked for: loops, veiled, ifaces, maps, wideKeys, modest, calm, conditions, laid).
  DERIVED. THE GIVEN ROWS OF THIS SEAT. 12 by the template 'for every input the law returns true; each argument reads behind the call as it read before'; 0 by the template 'total and deterministic' (their statements: YthcdiaahpodkoaeTotals.lean).
  GIVEN WITH THE SEED: the statements are not yours to turn. If you find one false, say at which input.
  Laid BY PROGRAM, IN A SANDBOX (cutbox-rows.mjs): the forced cells as the released guide's own fill.sh prints them over the translation e8cfa551b03084ab… (all of the seat's roots in one cut). By AI agents, Wed Nov 11 2026. No macro, syntax, notation, axiom, sorry.
-/
import Derived.Test.YthcdiaahpodkoaeChecked
import GoSem.Claim
import GoSem.ClaimJoined
import GoSem.ClaimMapViews
import Derived.JoinedTies
import Derived.KernelRfl
namespace Go.Proofs.Ythcdiaahpodkoae
/- THE CELL 'sum', in the pinned program and in every row, IS THE sha256 OF THE DUMP (.gsa) THAT YthcdiaahpodkoaeProg.lean LOADS. Nothing in Lean hashes anything: it is a label: what it is worth is what the hold of that sum in a sandbox is worth. -/
noncomputable def Try.pinned : Pinned := { name := "ythcdiaahpodkoae", sum := "e8cfa551b03084abed444de6de615a4b61577fac69a3be9f8130db6daad26216", checked := Try.checked }
namespace Rows
def none {H : Type} : Left H := { results := [], args := [] }

/-- 'laws.FnExactShareCells': WHATEVER THE INPUT: true; the input reads as it did. -/
def fnExactShareCellsSpec : ChangeSpec := { name := "fnExactShareCells", fn := fun _ => fun
  | [d] => { results := [.lit (.bool true)], args := [d] }
  | _ => none }
def fnExactShareCellsRow : OpenClaim := { program := "ythcdiaahpodkoae", sum := "e8cfa551b03084abed444de6de615a4b61577fac69a3be9f8130db6daad26216", func := "loop.example/symmetricsums/laws.FnExactShareCells", spec := "fnExactShareCells", unfollowed := true, recurses := true, plainKeys := false, apart := false }
def FnExactShareCellsSaid : Prop := fnExactShareCellsRow.holds Try.pinned (OpenSpec.ofChange fnExactShareCellsSpec)

/-- ITS FALSE NEIGHBOUR: 'it returns false'. Refute it at one input. -/
def fnExactShareCellsWrong : ChangeSpec := { name := "fnExactShareCells", fn := fun _ => fun
  | [d] => { results := [.lit (.bool false)], args := [d] }
  | _ => none }
def FnExactShareCellsWrongFalsely : Prop := fnExactShareCellsRow.holds Try.pinned (OpenSpec.ofChange fnExactShareCellsWrong)

/-- 'laws.FnExactShareLists': WHATEVER THE INPUT: true; the input reads as it did. -/
def fnExactShareListsSpec : ChangeSpec := { name := "fnExactShareLists", fn := fun _ => fun
  | [d] => { results := [.lit (.bool true)], args := [d] }
  | _ => none }
def fnExactShareListsRow : OpenClaim := { program := "ythcdiaahpodkoae", sum := "e8cfa551b03084abed444de6de615a4b61577fac69a3be9f8130db6daad26216", func := "loop.example/symmetricsums/laws.FnExactShareLists", spec := "fnExactShareLists", unfollowed := true, recurses := true, plainKeys := false, apart := false }
def FnExactShareListsSaid : Prop := fnExactShareListsRow.holds Try.pinned (OpenSpec.ofChange fnExactShareListsSpec)

/-- ITS FALSE NEIGHBOUR: 'it returns false'. Refute it at one input. -/
def fnExactShareListsWrong : ChangeSpec := { name := "fnExactShareLists", fn := fun _ => fun
  | [d] => { results := [.lit (.bool false)], args := [d] }
  | _ => none }
def FnExactShareListsWrongFalsely : Prop := fnExactShareListsRow.holds Try.pinned (OpenSpec.ofChange fnExactShareListsWrong)

/-- 'laws.FnExactShareLower': WHATEVER THE INPUT: true; the input reads as it did. -/
def fnExactShareLowerSpec : ChangeSpec := { name := "fnExactShareLower", fn := fun _ => fun
  | [d] => { results := [.lit (.bool true)], args := [d] }
  | _ => none }
def fnExactShareLowerRow : OpenClaim := { program := "ythcdiaahpodkoae", sum := "e8cfa551b03084abed444de6de615a4b61577fac69a3be9f8130db6daad26216", func := "loop.example/symmetricsums/laws.FnExactShareLower", spec := "fnExactShareLower", unfollowed := true, recurses := true, plainKeys := false, apart := false }
def FnExactShareLowerSaid : Prop := fnExactShareLowerRow.holds Try.pinned (OpenSpec.ofChange fnExactShareLowerSpec)

/-- ITS FALSE NEIGHBOUR: 'it returns false'. Refute it at one input. -/
def fnExactShareLowerWrong : ChangeSpec := { name := "fnExactShareLower", fn := fun _ => fun
  | [d] => { results := [.lit (.bool false)], args := [d] }
  | _ => none }
def FnExactShareLowerWrongFalsely : Prop := fnExactShareLowerRow.holds Try.pinned (OpenSpec.ofChange fnExactShareLowerWrong)

/-- 'laws.FnExactAtPlain': WHATEVER THE INPUT: true; the input reads as it did. -/
def fnExactAtPlainSpec : ChangeSpec := { name := "fnExactAtPlain", fn := fun _ => fun
  | [d1, d2] => { results := [.lit (.bool true)], args := [d1, d2] }
  | _ => none }
def fnExactAtPlainRow : OpenClaim := { program := "ythcdiaahpodkoae", sum := "e8cfa551b03084abed444de6de615a4b61577fac69a3be9f8130db6daad26216", func := "loop.example/symmetricsums/laws.FnExactAtPlain", spec := "fnExactAtPlain", unfollowed := true, recurses := true, plainKeys := false, apart := false }
def FnExactAtPlainSaid : Prop := fnExactAtPlainRow.holds Try.pinned (OpenSpec.ofChange fnExactAtPlainSpec)

/-- ITS FALSE NEIGHBOUR: 'it returns false'. Refute it at one input. -/
def fnExactAtPlainWrong : ChangeSpec := { name := "fnExactAtPlain", fn := fun _ => fun
  | [d1, d2] => { results := [.lit (.bool false)], args := [d1, d2] }
  | _ => none }
def FnExactAtPlainWrongFalsely : Prop := fnExactAtPlainRow.holds Try.pinned (OpenSpec.ofChange fnExactAtPlainWrong)

/-- 'laws.FnExactAtChosen': WHATEVER THE INPUT: true; the input reads as it did. -/
def fnExactAtChosenSpec : ChangeSpec := { name := "fnExactAtChosen", fn := fun _ => fun
  | [d1, d2] => { results := [.lit (.bool true)], args := [d1, d2] }
  | _ => none }
def fnExactAtChosenRow : OpenClaim := { program := "ythcdiaahpodkoae", sum := "e8cfa551b03084abed444de6de615a4b61577fac69a3be9f8130db6daad26216", func := "loop.example/symmetricsums/laws.FnExactAtChosen", spec := "fnExactAtChosen", unfollowed := true, recurses := true, plainKeys := false, apart := false }
def FnExactAtChosenSaid : Prop := fnExactAtChosenRow.holds Try.pinned (OpenSpec.ofChange fnExactAtChosenSpec)

/-- ITS FALSE NEIGHBOUR: 'it returns false'. Refute it at one input. -/
def fnExactAtChosenWrong : ChangeSpec := { name := "fnExactAtChosen", fn := fun _ => fun
  | [d1, d2] => { results := [.lit (.bool false)], args := [d1, d2] }
  | _ => none }
def FnExactAtChosenWrongFalsely : Prop := fnExactAtChosenRow.holds Try.pinned (OpenSpec.ofChange fnExactAtChosenWrong)

/-- 'laws.FnExactAtFull': WHATEVER THE INPUT: true; the input reads as it did. -/
def fnExactAtFullSpec : ChangeSpec := { name := "fnExactAtFull", fn := fun _ => fun
  | [d1, d2] => { results := [.lit (.bool true)], args := [d1, d2] }
  | _ => none }
def fnExactAtFullRow : OpenClaim := { program := "ythcdiaahpodkoae", sum := "e8cfa551b03084abed444de6de615a4b61577fac69a3be9f8130db6daad26216", func := "loop.example/symmetricsums/laws.FnExactAtFull", spec := "fnExactAtFull", unfollowed := true, recurses := true, plainKeys := false, apart := false }
def FnExactAtFullSaid : Prop := fnExactAtFullRow.holds Try.pinned (OpenSpec.ofChange fnExactAtFullSpec)

/-- ITS FALSE NEIGHBOUR: 'it returns false'. Refute it at one input. -/
def fnExactAtFullWrong : ChangeSpec := { name := "fnExactAtFull", fn := fun _ => fun
  | [d1, d2] => { results := [.lit (.bool false)], args := [d1, d2] }
  | _ => none }
def FnExactAtFullWrongFalsely : Prop := fnExactAtFullRow.holds Try.pinned (OpenSpec.ofChange fnExactAtFullWrong)

/-- 'laws.FnExactAtPower': WHATEVER THE INPUT: true; the input reads as it did. -/
def fnExactAtPowerSpec : ChangeSpec := { name := "fnExactAtPower", fn := fun _ => fun
  | [d1, d2] => { results := [.lit (.bool true)], args := [d1, d2] }
  | _ => none }
def fnExactAtPowerRow : OpenClaim := { program := "ythcdiaahpodkoae", sum := "e8cfa551b03084abed444de6de615a4b61577fac69a3be9f8130db6daad26216", func := "loop.example/symmetricsums/laws.FnExactAtPower", spec := "fnExactAtPower", unfollowed := true, recurses := true, plainKeys := false, apart := false }
def FnExactAtPowerSaid : Prop := fnExactAtPowerRow.holds Try.pinned (OpenSpec.ofChange fnExactAtPowerSpec)

/-- ITS FALSE NEIGHBOUR: 'it returns false'. Refute it at one input. -/
def fnExactAtPowerWrong : ChangeSpec := { name := "fnExactAtPower", fn := fun _ => fun
  | [d1, d2] => { results := [.lit (.bool false)], args := [d1, d2] }
  | _ => none }
def FnExactAtPowerWrongFalsely : Prop := fnExactAtPowerRow.holds Try.pinned (OpenSpec.ofChange fnExactAtPowerWrong)

/-- 'laws.FnExactAtShare': WHATEVER THE INPUT: true; the input reads as it did. -/
def fnExactAtShareSpec : ChangeSpec := { name := "fnExactAtShare", fn := fun _ => fun
  | [d1, d2, d3] => { results := [.lit (.bool true)], args := [d1, d2, d3] }
  | _ => none }
def fnExactAtShareRow : OpenClaim := { program := "ythcdiaahpodkoae", sum := "e8cfa551b03084abed444de6de615a4b61577fac69a3be9f8130db6daad26216", func := "loop.example/symmetricsums/laws.FnExactAtShare", spec := "fnExactAtShare", unfollowed := true, recurses := true, plainKeys := false, apart := false }
def FnExactAtShareSaid : Prop := fnExactAtShareRow.holds Try.pinned (OpenSpec.ofChange fnExactAtShareSpec)

/-- ITS FALSE NEIGHBOUR: 'it returns false'. Refute it at one input. -/
def fnExactAtShareWrong : ChangeSpec := { name := "fnExactAtShare", fn := fun _ => fun
  | [d1, d2, d3] => { results := [.lit (.bool false)], args := [d1, d2, d3] }
  | _ => none }
def FnExactAtShareWrongFalsely : Prop := fnExactAtShareRow.holds Try.pinned (OpenSpec.ofChange fnExactAtShareWrong)

/-- 'laws.FnExactAtDiagram': WHATEVER THE INPUT: true; the input reads as it did. -/
def fnExactAtDiagramSpec : ChangeSpec := { name := "fnExactAtDiagram", fn := fun _ => fun
  | [d1, d2] => { results := [.lit (.bool true)], args := [d1, d2] }
  | _ => none }
def fnExactAtDiagramRow : OpenClaim := { program := "ythcdiaahpodkoae", sum := "e8cfa551b03084abed444de6de615a4b61577fac69a3be9f8130db6daad26216", func := "loop.example/symmetricsums/laws.FnExactAtDiagram", spec := "fnExactAtDiagram", unfollowed := true, recurses := true, plainKeys := false, apart := false }
def FnExactAtDiagramSaid : Prop := fnExactAtDiagramRow.holds Try.pinned (OpenSpec.ofChange fnExactAtDiagramSpec)

/-- ITS FALSE NEIGHBOUR: 'it returns false'. Refute it at one input. -/
def fnExactAtDiagramWrong : ChangeSpec := { name := "fnExactAtDiagram", fn := fun _ => fun
  | [d1, d2] => { results := [.lit (.bool false)], args := [d1, d2] }
  | _ => none }
def FnExactAtDiagramWrongFalsely : Prop := fnExactAtDiagramRow.holds Try.pinned (OpenSpec.ofChange fnExactAtDiagramWrong)

/-- 'laws.FnExactAtWays': WHATEVER THE INPUT: true; the input reads as it did. -/
def fnExactAtWaysSpec : ChangeSpec := { name := "fnExactAtWays", fn := fun _ => fun
  | [d1, d2] => { results := [.lit (.bool true)], args := [d1, d2] }
  | _ => none }
def fnExactAtWaysRow : OpenClaim := { program := "ythcdiaahpodkoae", sum := "e8cfa551b03084abed444de6de615a4b61577fac69a3be9f8130db6daad26216", func := "loop.example/symmetricsums/laws.FnExactAtWays", spec := "fnExactAtWays", unfollowed := true, recurses := true, plainKeys := false, apart := false }
def FnExactAtWaysSaid : Prop := fnExactAtWaysRow.holds Try.pinned (OpenSpec.ofChange fnExactAtWaysSpec)

/-- ITS FALSE NEIGHBOUR: 'it returns false'. Refute it at one input. -/
def fnExactAtWaysWrong : ChangeSpec := { name := "fnExactAtWays", fn := fun _ => fun
  | [d1, d2] => { results := [.lit (.bool false)], args := [d1, d2] }
  | _ => none }
def FnExactAtWaysWrongFalsely : Prop := fnExactAtWaysRow.holds Try.pinned (OpenSpec.ofChange fnExactAtWaysWrong)

/-- 'laws.FnExactAtWaysCells': WHATEVER THE INPUT: true; the input reads as it did. -/
def fnExactAtWaysCellsSpec : ChangeSpec := { name := "fnExactAtWaysCells", fn := fun _ => fun
  | [d1, d2] => { results := [.lit (.bool true)], args := [d1, d2] }
  | _ => none }
def fnExactAtWaysCellsRow : OpenClaim := { program := "ythcdiaahpodkoae", sum := "e8cfa551b03084abed444de6de615a4b61577fac69a3be9f8130db6daad26216", func := "loop.example/symmetricsums/laws.FnExactAtWaysCells", spec := "fnExactAtWaysCells", plainKeys := false, apart := false }
def FnExactAtWaysCellsSaid : Prop := fnExactAtWaysCellsRow.holds Try.pinned (OpenSpec.ofChange fnExactAtWaysCellsSpec)

/-- ITS FALSE NEIGHBOUR: 'it returns false'. Refute it at one input. -/
def fnExactAtWaysCellsWrong : ChangeSpec := { name := "fnExactAtWaysCells", fn := fun _ => fun
  | [d1, d2] => { results := [.lit (.bool false)], args := [d1, d2] }
  | _ => none }
def FnExactAtWaysCellsWrongFalsely : Prop := fnExactAtWaysCellsRow.holds Try.pinned (OpenSpec.ofChange fnExactAtWaysCellsWrong)

/-- 'laws.FnExactTableChosen': WHATEVER THE INPUT: true; the input reads as it did. -/
def fnExactTableChosenSpec : ChangeSpec := { name := "fnExactTableChosen", fn := fun _ => fun
  | [d1, d2] => { results := [.lit (.bool true)], args := [d1, d2] }
  | _ => none }
def fnExactTableChosenRow : OpenClaim := { program := "ythcdiaahpodkoae", sum := "e8cfa551b03084abed444de6de615a4b61577fac69a3be9f8130db6daad26216", func := "loop.example/symmetricsums/laws.FnExactTableChosen", spec := "fnExactTableChosen", unfollowed := true, recurses := true, plainKeys := false, apart := false }
def FnExactTableChosenSaid : Prop := fnExactTableChosenRow.holds Try.pinned (OpenSpec.ofChange fnExactTableChosenSpec)

/-- ITS FALSE NEIGHBOUR: 'it returns false'. Refute it at one input. -/
def fnExactTableChosenWrong : ChangeSpec := { name := "fnExactTableChosen", fn := fun _ => fun
  | [d1, d2] => { results := [.lit (.bool false)], args := [d1, d2] }
  | _ => none }
def FnExactTableChosenWrongFalsely : Prop := fnExactTableChosenRow.holds Try.pinned (OpenSpec.ofChange fnExactTableChosenWrong)

/- THE SECOND FORM. 'bulk': how many values and letters a reading holds, each counted each time it is reached (what is shared counts as often as it is met; a slice's spare places count too). A statement '..UptoSaid' is the law's where the arguments, and the package variables that the reading takes, are together of bulk at most 1048576: NARROWER than '..Said'. Prove '..Said' where nothing that the law and all that it calls make is longer than what came in: it says more and counts as full. Else prove '..UptoSaid'. A law counts once. -/
mutual
def uptoBulk {H : Type} : DataW H → Nat
  | .lit (.string bytes) => bytes.length + 1
  | .lit _ => 1
  | .nil => 1
  | .ptr d => uptoBulk d + 1
  | .slice elems spare => uptoBulkAll elems + uptoBulkAll spare + 1
  | .agg parts => uptoBulkAll parts + 1
  | .iface _ d => uptoBulk d + 1
  | .map entries => uptoBulkEntries entries + 1
  | .held _ => 1
def uptoBulkAll {H : Type} : List (DataW H) → Nat
  | [] => 0
  | d :: r => uptoBulk d + uptoBulkAll r
def uptoBulkEntries {H : Type} : List (Lit × DataW H) → Nat
  | [] => 0
  | x :: r => uptoBulkEntry x + uptoBulkEntries r
def uptoBulkEntry {H : Type} : Lit × DataW H → Nat
  | (.string bytes, d) => bytes.length + uptoBulk d + 1
  | (_, d) => uptoBulk d + 1
 end
def uptoSmall : (H : Type) → List (DataW H) → Bool := fun _ ds => decide (uptoBulkAll ds ≤ 1048576)
def OpenSpec.upto (s : _root_.Go.ChangeSpec) : _root_.Go.OpenSpec := { _root_.Go.OpenSpec.ofChange s with cond := some uptoSmall }

/-- 'laws.FnExactShareCells', WHERE WHAT IT READS IS OF BULK AT MOST 1048576: true; the input reads as it did. -/
def fnExactShareCellsUptoRow : OpenClaim := { program := "ythcdiaahpodkoae", sum := "e8cfa551b03084abed444de6de615a4b61577fac69a3be9f8130db6daad26216", func := "loop.example/symmetricsums/laws.FnExactShareCells", spec := "fnExactShareCells", unfollowed := true, recurses := true, plainKeys := false, apart := false, narrowed := true }
def FnExactShareCellsUptoSaid : Prop := fnExactShareCellsUptoRow.holds Try.pinned (OpenSpec.upto fnExactShareCellsSpec)

/-- 'laws.FnExactShareLists', WHERE WHAT IT READS IS OF BULK AT MOST 1048576: true; the input reads as it did. -/
def fnExactShareListsUptoRow : OpenClaim := { program := "ythcdiaahpodkoae", sum := "e8cfa551b03084abed444de6de615a4b61577fac69a3be9f8130db6daad26216", func := "loop.example/symmetricsums/laws.FnExactShareLists", spec := "fnExactShareLists", unfollowed := true, recurses := true, plainKeys := false, apart := false, narrowed := true }
def FnExactShareListsUptoSaid : Prop := fnExactShareListsUptoRow.holds Try.pinned (OpenSpec.upto fnExactShareListsSpec)

/-- 'laws.FnExactShareLower', WHERE WHAT IT READS IS OF BULK AT MOST 1048576: true; the input reads as it did. -/
def fnExactShareLowerUptoRow : OpenClaim := { program := "ythcdiaahpodkoae", sum := "e8cfa551b03084abed444de6de615a4b61577fac69a3be9f8130db6daad26216", func := "loop.example/symmetricsums/laws.FnExactShareLower", spec := "fnExactShareLower", unfollowed := true, recurses := true, plainKeys := false, apart := false, narrowed := true }
def FnExactShareLowerUptoSaid : Prop := fnExactShareLowerUptoRow.holds Try.pinned (OpenSpec.upto fnExactShareLowerSpec)

/-- 'laws.FnExactAtPlain', WHERE WHAT IT READS IS OF BULK AT MOST 1048576: true; the input reads as it did. -/
def fnExactAtPlainUptoRow : OpenClaim := { program := "ythcdiaahpodkoae", sum := "e8cfa551b03084abed444de6de615a4b61577fac69a3be9f8130db6daad26216", func := "loop.example/symmetricsums/laws.FnExactAtPlain", spec := "fnExactAtPlain", unfollowed := true, recurses := true, plainKeys := false, apart := false, narrowed := true }
def FnExactAtPlainUptoSaid : Prop := fnExactAtPlainUptoRow.holds Try.pinned (OpenSpec.upto fnExactAtPlainSpec)

/-- 'laws.FnExactAtChosen', WHERE WHAT IT READS IS OF BULK AT MOST 1048576: true; the input reads as it did. -/
def fnExactAtChosenUptoRow : OpenClaim := { program := "ythcdiaahpodkoae", sum := "e8cfa551b03084abed444de6de615a4b61577fac69a3be9f8130db6daad26216", func := "loop.example/symmetricsums/laws.FnExactAtChosen", spec := "fnExactAtChosen", unfollowed := true, recurses := true, plainKeys := false, apart := false, narrowed := true }
def FnExactAtChosenUptoSaid : Prop := fnExactAtChosenUptoRow.holds Try.pinned (OpenSpec.upto fnExactAtChosenSpec)

/-- 'laws.FnExactAtFull', WHERE WHAT IT READS IS OF BULK AT MOST 1048576: true; the input reads as it did. -/
def fnExactAtFullUptoRow : OpenClaim := { program := "ythcdiaahpodkoae", sum := "e8cfa551b03084abed444de6de615a4b61577fac69a3be9f8130db6daad26216", func := "loop.example/symmetricsums/laws.FnExactAtFull", spec := "fnExactAtFull", unfollowed := true, recurses := true, plainKeys := false, apart := false, narrowed := true }
def FnExactAtFullUptoSaid : Prop := fnExactAtFullUptoRow.holds Try.pinned (OpenSpec.upto fnExactAtFullSpec)

/-- 'laws.FnExactAtPower', WHERE WHAT IT READS IS OF BULK AT MOST 1048576: true; the input reads as it did. -/
def fnExactAtPowerUptoRow : OpenClaim := { program := "ythcdiaahpodkoae", sum := "e8cfa551b03084abed444de6de615a4b61577fac69a3be9f8130db6daad26216", func := "loop.example/symmetricsums/laws.FnExactAtPower", spec := "fnExactAtPower", unfollowed := true, recurses := true, plainKeys := false, apart := false, narrowed := true }
def FnExactAtPowerUptoSaid : Prop := fnExactAtPowerUptoRow.holds Try.pinned (OpenSpec.upto fnExactAtPowerSpec)

/-- 'laws.FnExactAtShare', WHERE WHAT IT READS IS OF BULK AT MOST 1048576: true; the input reads as it did. -/
def fnExactAtShareUptoRow : OpenClaim := { program := "ythcdiaahpodkoae", sum := "e8cfa551b03084abed444de6de615a4b61577fac69a3be9f8130db6daad26216", func := "loop.example/symmetricsums/laws.FnExactAtShare", spec := "fnExactAtShare", unfollowed := true, recurses := true, plainKeys := false, apart := false, narrowed := true }
def FnExactAtShareUptoSaid : Prop := fnExactAtShareUptoRow.holds Try.pinned (OpenSpec.upto fnExactAtShareSpec)

/-- 'laws.FnExactAtDiagram', WHERE WHAT IT READS IS OF BULK AT MOST 1048576: true; the input reads as it did. -/
def fnExactAtDiagramUptoRow : OpenClaim := { program := "ythcdiaahpodkoae", sum := "e8cfa551b03084abed444de6de615a4b61577fac69a3be9f8130db6daad26216", func := "loop.example/symmetricsums/laws.FnExactAtDiagram", spec := "fnExactAtDiagram", unfollowed := true, recurses := true, plainKeys := false, apart := false, narrowed := true }
def FnExactAtDiagramUptoSaid : Prop := fnExactAtDiagramUptoRow.holds Try.pinned (OpenSpec.upto fnExactAtDiagramSpec)

/-- 'laws.FnExactAtWays', WHERE WHAT IT READS IS OF BULK AT MOST 1048576: true; the input reads as it did. -/
def fnExactAtWaysUptoRow : OpenClaim := { program := "ythcdiaahpodkoae", sum := "e8cfa551b03084abed444de6de615a4b61577fac69a3be9f8130db6daad26216", func := "loop.example/symmetricsums/laws.FnExactAtWays", spec := "fnExactAtWays", unfollowed := true, recurses := true, plainKeys := false, apart := false, narrowed := true }
def FnExactAtWaysUptoSaid : Prop := fnExactAtWaysUptoRow.holds Try.pinned (OpenSpec.upto fnExactAtWaysSpec)

/-- 'laws.FnExactAtWaysCells', WHERE WHAT IT READS IS OF BULK AT MOST 1048576: true; the input reads as it did. -/
def fnExactAtWaysCellsUptoRow : OpenClaim := { program := "ythcdiaahpodkoae", sum := "e8cfa551b03084abed444de6de615a4b61577fac69a3be9f8130db6daad26216", func := "loop.example/symmetricsums/laws.FnExactAtWaysCells", spec := "fnExactAtWaysCells", plainKeys := false, apart := false, narrowed := true }
def FnExactAtWaysCellsUptoSaid : Prop := fnExactAtWaysCellsUptoRow.holds Try.pinned (OpenSpec.upto fnExactAtWaysCellsSpec)

/-- 'laws.FnExactTableChosen', WHERE WHAT IT READS IS OF BULK AT MOST 1048576: true; the input reads as it did. -/
def fnExactTableChosenUptoRow : OpenClaim := { program := "ythcdiaahpodkoae", sum := "e8cfa551b03084abed444de6de615a4b61577fac69a3be9f8130db6daad26216", func := "loop.example/symmetricsums/laws.FnExactTableChosen", spec := "fnExactTableChosen", unfollowed := true, recurses := true, plainKeys := false, apart := false, narrowed := true }
def FnExactTableChosenUptoSaid : Prop := fnExactTableChosenUptoRow.holds Try.pinned (OpenSpec.upto fnExactTableChosenSpec)

end Rows
end Go.Proofs.Ythcdiaahpodkoae
