/-
  No cell of these rows narrows 'for every input' (looked for: loops, veiled, ifaces, maps, wideKeys, modest, calm, conditions, laid).
  DERIVED. THE GIVEN ROWS OF THIS SEAT. 12 by the template 'for every input the law returns true; each argument reads behind the call as it read before'; 0 by the template 'total and deterministic' (their statements: YthcdiaahpodkoabTotals.lean).
  GIVEN WITH THE SEED: the statements are not yours to turn. If you find one false, say at which input.
  Laid BY PROGRAM, IN A SANDBOX (cutbox-rows.mjs): the forced cells as the released guide's own fill.sh prints them over the translation 114a74fb5f74643d… (all of the seat's roots in one cut). By AI agents, Wed Nov 11 2026. No macro, syntax, notation, axiom, sorry.
-/
import Derived.Test.YthcdiaahpodkoabChecked
import GoSem.Claim
import GoSem.ClaimJoined
import GoSem.ClaimMapViews
import Derived.JoinedTies
import Derived.KernelRfl
namespace Go.Proofs.Ythcdiaahpodkoab
/- THE CELL 'sum', in the pinned program and in every row, IS THE sha256 OF THE DUMP (.gsa) THAT YthcdiaahpodkoabProg.lean LOADS. Nothing in Lean hashes anything: it is a label: what it is worth is what the hold of that sum in a sandbox is worth. -/
noncomputable def Try.pinned : Pinned := { name := "ythcdiaahpodkoab", sum := "114a74fb5f74643d000ade4eb4f4f3f664f8fc8fa9bb6acc37520cadd2daeeb1", checked := Try.checked }
namespace Rows
def none {H : Type} : Left H := { results := [], args := [] }

/-- 'laws.FnPlain': WHATEVER THE INPUT: true; the input reads as it did. -/
def fnPlainSpec : ChangeSpec := { name := "fnPlain", fn := fun _ => fun
  | [d] => { results := [.lit (.bool true)], args := [d] }
  | _ => none }
def fnPlainRow : OpenClaim := { program := "ythcdiaahpodkoab", sum := "114a74fb5f74643d000ade4eb4f4f3f664f8fc8fa9bb6acc37520cadd2daeeb1", func := "loop.example/symmetricsums/laws.FnPlain", spec := "fnPlain", unfollowed := true, recurses := true, plainKeys := false, apart := false }
def FnPlainSaid : Prop := fnPlainRow.holds Try.pinned (OpenSpec.ofChange fnPlainSpec)

/-- ITS FALSE NEIGHBOUR: 'it returns false'. Refute it at one input. -/
def fnPlainWrong : ChangeSpec := { name := "fnPlain", fn := fun _ => fun
  | [d] => { results := [.lit (.bool false)], args := [d] }
  | _ => none }
def FnPlainWrongFalsely : Prop := fnPlainRow.holds Try.pinned (OpenSpec.ofChange fnPlainWrong)

/-- 'laws.FnChosen': WHATEVER THE INPUT: true; the input reads as it did. -/
def fnChosenSpec : ChangeSpec := { name := "fnChosen", fn := fun _ => fun
  | [d] => { results := [.lit (.bool true)], args := [d] }
  | _ => none }
def fnChosenRow : OpenClaim := { program := "ythcdiaahpodkoab", sum := "114a74fb5f74643d000ade4eb4f4f3f664f8fc8fa9bb6acc37520cadd2daeeb1", func := "loop.example/symmetricsums/laws.FnChosen", spec := "fnChosen", unfollowed := true, recurses := true, plainKeys := false, apart := false }
def FnChosenSaid : Prop := fnChosenRow.holds Try.pinned (OpenSpec.ofChange fnChosenSpec)

/-- ITS FALSE NEIGHBOUR: 'it returns false'. Refute it at one input. -/
def fnChosenWrong : ChangeSpec := { name := "fnChosen", fn := fun _ => fun
  | [d] => { results := [.lit (.bool false)], args := [d] }
  | _ => none }
def FnChosenWrongFalsely : Prop := fnChosenRow.holds Try.pinned (OpenSpec.ofChange fnChosenWrong)

/-- 'laws.FnFull': WHATEVER THE INPUT: true; the input reads as it did. -/
def fnFullSpec : ChangeSpec := { name := "fnFull", fn := fun _ => fun
  | [d] => { results := [.lit (.bool true)], args := [d] }
  | _ => none }
def fnFullRow : OpenClaim := { program := "ythcdiaahpodkoab", sum := "114a74fb5f74643d000ade4eb4f4f3f664f8fc8fa9bb6acc37520cadd2daeeb1", func := "loop.example/symmetricsums/laws.FnFull", spec := "fnFull", unfollowed := true, recurses := true, plainKeys := false, apart := false }
def FnFullSaid : Prop := fnFullRow.holds Try.pinned (OpenSpec.ofChange fnFullSpec)

/-- ITS FALSE NEIGHBOUR: 'it returns false'. Refute it at one input. -/
def fnFullWrong : ChangeSpec := { name := "fnFull", fn := fun _ => fun
  | [d] => { results := [.lit (.bool false)], args := [d] }
  | _ => none }
def FnFullWrongFalsely : Prop := fnFullRow.holds Try.pinned (OpenSpec.ofChange fnFullWrong)

/-- 'laws.FnPower': WHATEVER THE INPUT: true; the input reads as it did. -/
def fnPowerSpec : ChangeSpec := { name := "fnPower", fn := fun _ => fun
  | [d] => { results := [.lit (.bool true)], args := [d] }
  | _ => none }
def fnPowerRow : OpenClaim := { program := "ythcdiaahpodkoab", sum := "114a74fb5f74643d000ade4eb4f4f3f664f8fc8fa9bb6acc37520cadd2daeeb1", func := "loop.example/symmetricsums/laws.FnPower", spec := "fnPower", unfollowed := true, recurses := true, plainKeys := false, apart := false }
def FnPowerSaid : Prop := fnPowerRow.holds Try.pinned (OpenSpec.ofChange fnPowerSpec)

/-- ITS FALSE NEIGHBOUR: 'it returns false'. Refute it at one input. -/
def fnPowerWrong : ChangeSpec := { name := "fnPower", fn := fun _ => fun
  | [d] => { results := [.lit (.bool false)], args := [d] }
  | _ => none }
def FnPowerWrongFalsely : Prop := fnPowerRow.holds Try.pinned (OpenSpec.ofChange fnPowerWrong)

/-- 'laws.FnAtShare': WHATEVER THE INPUT: true; the input reads as it did. -/
def fnAtShareSpec : ChangeSpec := { name := "fnAtShare", fn := fun _ => fun
  | [d] => { results := [.lit (.bool true)], args := [d] }
  | _ => none }
def fnAtShareRow : OpenClaim := { program := "ythcdiaahpodkoab", sum := "114a74fb5f74643d000ade4eb4f4f3f664f8fc8fa9bb6acc37520cadd2daeeb1", func := "loop.example/symmetricsums/laws.FnAtShare", spec := "fnAtShare", unfollowed := true, recurses := true, plainKeys := false, apart := false }
def FnAtShareSaid : Prop := fnAtShareRow.holds Try.pinned (OpenSpec.ofChange fnAtShareSpec)

/-- ITS FALSE NEIGHBOUR: 'it returns false'. Refute it at one input. -/
def fnAtShareWrong : ChangeSpec := { name := "fnAtShare", fn := fun _ => fun
  | [d] => { results := [.lit (.bool false)], args := [d] }
  | _ => none }
def FnAtShareWrongFalsely : Prop := fnAtShareRow.holds Try.pinned (OpenSpec.ofChange fnAtShareWrong)

/-- 'laws.FnDiagram': WHATEVER THE INPUT: true; the input reads as it did. -/
def fnDiagramSpec : ChangeSpec := { name := "fnDiagram", fn := fun _ => fun
  | [d] => { results := [.lit (.bool true)], args := [d] }
  | _ => none }
def fnDiagramRow : OpenClaim := { program := "ythcdiaahpodkoab", sum := "114a74fb5f74643d000ade4eb4f4f3f664f8fc8fa9bb6acc37520cadd2daeeb1", func := "loop.example/symmetricsums/laws.FnDiagram", spec := "fnDiagram", unfollowed := true, recurses := true, plainKeys := false, apart := false }
def FnDiagramSaid : Prop := fnDiagramRow.holds Try.pinned (OpenSpec.ofChange fnDiagramSpec)

/-- ITS FALSE NEIGHBOUR: 'it returns false'. Refute it at one input. -/
def fnDiagramWrong : ChangeSpec := { name := "fnDiagram", fn := fun _ => fun
  | [d] => { results := [.lit (.bool false)], args := [d] }
  | _ => none }
def FnDiagramWrongFalsely : Prop := fnDiagramRow.holds Try.pinned (OpenSpec.ofChange fnDiagramWrong)

/-- 'laws.FnWays': WHATEVER THE INPUT: true; the input reads as it did. -/
def fnWaysSpec : ChangeSpec := { name := "fnWays", fn := fun _ => fun
  | [d] => { results := [.lit (.bool true)], args := [d] }
  | _ => none }
def fnWaysRow : OpenClaim := { program := "ythcdiaahpodkoab", sum := "114a74fb5f74643d000ade4eb4f4f3f664f8fc8fa9bb6acc37520cadd2daeeb1", func := "loop.example/symmetricsums/laws.FnWays", spec := "fnWays", unfollowed := true, recurses := true, plainKeys := false, apart := false }
def FnWaysSaid : Prop := fnWaysRow.holds Try.pinned (OpenSpec.ofChange fnWaysSpec)

/-- ITS FALSE NEIGHBOUR: 'it returns false'. Refute it at one input. -/
def fnWaysWrong : ChangeSpec := { name := "fnWays", fn := fun _ => fun
  | [d] => { results := [.lit (.bool false)], args := [d] }
  | _ => none }
def FnWaysWrongFalsely : Prop := fnWaysRow.holds Try.pinned (OpenSpec.ofChange fnWaysWrong)

/-- 'laws.FnWaysCells': WHATEVER THE INPUT: true; the input reads as it did. -/
def fnWaysCellsSpec : ChangeSpec := { name := "fnWaysCells", fn := fun _ => fun
  | [d] => { results := [.lit (.bool true)], args := [d] }
  | _ => none }
def fnWaysCellsRow : OpenClaim := { program := "ythcdiaahpodkoab", sum := "114a74fb5f74643d000ade4eb4f4f3f664f8fc8fa9bb6acc37520cadd2daeeb1", func := "loop.example/symmetricsums/laws.FnWaysCells", spec := "fnWaysCells", unfollowed := true, recurses := true, plainKeys := false, apart := false }
def FnWaysCellsSaid : Prop := fnWaysCellsRow.holds Try.pinned (OpenSpec.ofChange fnWaysCellsSpec)

/-- ITS FALSE NEIGHBOUR: 'it returns false'. Refute it at one input. -/
def fnWaysCellsWrong : ChangeSpec := { name := "fnWaysCells", fn := fun _ => fun
  | [d] => { results := [.lit (.bool false)], args := [d] }
  | _ => none }
def FnWaysCellsWrongFalsely : Prop := fnWaysCellsRow.holds Try.pinned (OpenSpec.ofChange fnWaysCellsWrong)

/-- 'laws.FnTableChosen': WHATEVER THE INPUT: true; the input reads as it did. -/
def fnTableChosenSpec : ChangeSpec := { name := "fnTableChosen", fn := fun _ => fun
  | [d] => { results := [.lit (.bool true)], args := [d] }
  | _ => none }
def fnTableChosenRow : OpenClaim := { program := "ythcdiaahpodkoab", sum := "114a74fb5f74643d000ade4eb4f4f3f664f8fc8fa9bb6acc37520cadd2daeeb1", func := "loop.example/symmetricsums/laws.FnTableChosen", spec := "fnTableChosen", unfollowed := true, recurses := true, plainKeys := false, apart := false }
def FnTableChosenSaid : Prop := fnTableChosenRow.holds Try.pinned (OpenSpec.ofChange fnTableChosenSpec)

/-- ITS FALSE NEIGHBOUR: 'it returns false'. Refute it at one input. -/
def fnTableChosenWrong : ChangeSpec := { name := "fnTableChosen", fn := fun _ => fun
  | [d] => { results := [.lit (.bool false)], args := [d] }
  | _ => none }
def FnTableChosenWrongFalsely : Prop := fnTableChosenRow.holds Try.pinned (OpenSpec.ofChange fnTableChosenWrong)

/-- 'laws.FnTableFull': WHATEVER THE INPUT: true; the input reads as it did. -/
def fnTableFullSpec : ChangeSpec := { name := "fnTableFull", fn := fun _ => fun
  | [d] => { results := [.lit (.bool true)], args := [d] }
  | _ => none }
def fnTableFullRow : OpenClaim := { program := "ythcdiaahpodkoab", sum := "114a74fb5f74643d000ade4eb4f4f3f664f8fc8fa9bb6acc37520cadd2daeeb1", func := "loop.example/symmetricsums/laws.FnTableFull", spec := "fnTableFull", unfollowed := true, recurses := true, plainKeys := false, apart := false }
def FnTableFullSaid : Prop := fnTableFullRow.holds Try.pinned (OpenSpec.ofChange fnTableFullSpec)

/-- ITS FALSE NEIGHBOUR: 'it returns false'. Refute it at one input. -/
def fnTableFullWrong : ChangeSpec := { name := "fnTableFull", fn := fun _ => fun
  | [d] => { results := [.lit (.bool false)], args := [d] }
  | _ => none }
def FnTableFullWrongFalsely : Prop := fnTableFullRow.holds Try.pinned (OpenSpec.ofChange fnTableFullWrong)

/-- 'laws.FnTableChosenPairs': WHATEVER THE INPUT: true; the input reads as it did. -/
def fnTableChosenPairsSpec : ChangeSpec := { name := "fnTableChosenPairs", fn := fun _ => fun
  | [d] => { results := [.lit (.bool true)], args := [d] }
  | _ => none }
def fnTableChosenPairsRow : OpenClaim := { program := "ythcdiaahpodkoab", sum := "114a74fb5f74643d000ade4eb4f4f3f664f8fc8fa9bb6acc37520cadd2daeeb1", func := "loop.example/symmetricsums/laws.FnTableChosenPairs", spec := "fnTableChosenPairs", unfollowed := true, recurses := true, plainKeys := false, apart := false }
def FnTableChosenPairsSaid : Prop := fnTableChosenPairsRow.holds Try.pinned (OpenSpec.ofChange fnTableChosenPairsSpec)

/-- ITS FALSE NEIGHBOUR: 'it returns false'. Refute it at one input. -/
def fnTableChosenPairsWrong : ChangeSpec := { name := "fnTableChosenPairs", fn := fun _ => fun
  | [d] => { results := [.lit (.bool false)], args := [d] }
  | _ => none }
def FnTableChosenPairsWrongFalsely : Prop := fnTableChosenPairsRow.holds Try.pinned (OpenSpec.ofChange fnTableChosenPairsWrong)

/-- 'laws.FnTablePower': WHATEVER THE INPUT: true; the input reads as it did. -/
def fnTablePowerSpec : ChangeSpec := { name := "fnTablePower", fn := fun _ => fun
  | [d] => { results := [.lit (.bool true)], args := [d] }
  | _ => none }
def fnTablePowerRow : OpenClaim := { program := "ythcdiaahpodkoab", sum := "114a74fb5f74643d000ade4eb4f4f3f664f8fc8fa9bb6acc37520cadd2daeeb1", func := "loop.example/symmetricsums/laws.FnTablePower", spec := "fnTablePower", unfollowed := true, recurses := true, plainKeys := false, apart := false }
def FnTablePowerSaid : Prop := fnTablePowerRow.holds Try.pinned (OpenSpec.ofChange fnTablePowerSpec)

/-- ITS FALSE NEIGHBOUR: 'it returns false'. Refute it at one input. -/
def fnTablePowerWrong : ChangeSpec := { name := "fnTablePower", fn := fun _ => fun
  | [d] => { results := [.lit (.bool false)], args := [d] }
  | _ => none }
def FnTablePowerWrongFalsely : Prop := fnTablePowerRow.holds Try.pinned (OpenSpec.ofChange fnTablePowerWrong)

/- THE SECOND FORM. 'bulk': how many values and letters a reading holds, each counted each time it is reached (what is shared counts as often as it is met; a slice's spare places count too). A statement '..UptoSaid' is the law's where the arguments, and the package variables that the reading takes, are together of bulk at most 1048576: NARROWER than '..Said'. Prove '..Said' where nothing that the law and all that it calls make is longer than what came in: it says more and counts as full. Else prove '..UptoSaid'. A law counts once. -/
mutual
def uptoBulk {H : Type} : DataW H → Nat
  | .lit (.string bytes) => bytes.length + 1
  | .lit _ => 1
  | .nil => 1
  | .ptr d => uptoBulk d + 1
  | .slice elems spare => uptoBulkAll elems + uptoBulkAll spare + 1
  | .agg parts => uptoBulkAll parts + 1
  | .iface _ d => uptoBulk d + 1
  | .map entries => uptoBulkEntries entries + 1
  | .held _ => 1
def uptoBulkAll {H : Type} : List (DataW H) → Nat
  | [] => 0
  | d :: r => uptoBulk d + uptoBulkAll r
def uptoBulkEntries {H : Type} : List (Lit × DataW H) → Nat
  | [] => 0
  | x :: r => uptoBulkEntry x + uptoBulkEntries r
def uptoBulkEntry {H : Type} : Lit × DataW H → Nat
  | (.string bytes, d) => bytes.length + uptoBulk d + 1
  | (_, d) => uptoBulk d + 1
 end
def uptoSmall : (H : Type) → List (DataW H) → Bool := fun _ ds => decide (uptoBulkAll ds ≤ 1048576)
def OpenSpec.upto (s : _root_.Go.ChangeSpec) : _root_.Go.OpenSpec := { _root_.Go.OpenSpec.ofChange s with cond := some uptoSmall }

/-- 'laws.FnPlain', WHERE WHAT IT READS IS OF BULK AT MOST 1048576: true; the input reads as it did. -/
def fnPlainUptoRow : OpenClaim := { program := "ythcdiaahpodkoab", sum := "114a74fb5f74643d000ade4eb4f4f3f664f8fc8fa9bb6acc37520cadd2daeeb1", func := "loop.example/symmetricsums/laws.FnPlain", spec := "fnPlain", unfollowed := true, recurses := true, plainKeys := false, apart := false, narrowed := true }
def FnPlainUptoSaid : Prop := fnPlainUptoRow.holds Try.pinned (OpenSpec.upto fnPlainSpec)

/-- 'laws.FnChosen', WHERE WHAT IT READS IS OF BULK AT MOST 1048576: true; the input reads as it did. -/
def fnChosenUptoRow : OpenClaim := { program := "ythcdiaahpodkoab", sum := "114a74fb5f74643d000ade4eb4f4f3f664f8fc8fa9bb6acc37520cadd2daeeb1", func := "loop.example/symmetricsums/laws.FnChosen", spec := "fnChosen", unfollowed := true, recurses := true, plainKeys := false, apart := false, narrowed := true }
def FnChosenUptoSaid : Prop := fnChosenUptoRow.holds Try.pinned (OpenSpec.upto fnChosenSpec)

/-- 'laws.FnFull', WHERE WHAT IT READS IS OF BULK AT MOST 1048576: true; the input reads as it did. -/
def fnFullUptoRow : OpenClaim := { program := "ythcdiaahpodkoab", sum := "114a74fb5f74643d000ade4eb4f4f3f664f8fc8fa9bb6acc37520cadd2daeeb1", func := "loop.example/symmetricsums/laws.FnFull", spec := "fnFull", unfollowed := true, recurses := true, plainKeys := false, apart := false, narrowed := true }
def FnFullUptoSaid : Prop := fnFullUptoRow.holds Try.pinned (OpenSpec.upto fnFullSpec)

/-- 'laws.FnPower', WHERE WHAT IT READS IS OF BULK AT MOST 1048576: true; the input reads as it did. -/
def fnPowerUptoRow : OpenClaim := { program := "ythcdiaahpodkoab", sum := "114a74fb5f74643d000ade4eb4f4f3f664f8fc8fa9bb6acc37520cadd2daeeb1", func := "loop.example/symmetricsums/laws.FnPower", spec := "fnPower", unfollowed := true, recurses := true, plainKeys := false, apart := false, narrowed := true }
def FnPowerUptoSaid : Prop := fnPowerUptoRow.holds Try.pinned (OpenSpec.upto fnPowerSpec)

/-- 'laws.FnAtShare', WHERE WHAT IT READS IS OF BULK AT MOST 1048576: true; the input reads as it did. -/
def fnAtShareUptoRow : OpenClaim := { program := "ythcdiaahpodkoab", sum := "114a74fb5f74643d000ade4eb4f4f3f664f8fc8fa9bb6acc37520cadd2daeeb1", func := "loop.example/symmetricsums/laws.FnAtShare", spec := "fnAtShare", unfollowed := true, recurses := true, plainKeys := false, apart := false, narrowed := true }
def FnAtShareUptoSaid : Prop := fnAtShareUptoRow.holds Try.pinned (OpenSpec.upto fnAtShareSpec)

/-- 'laws.FnDiagram', WHERE WHAT IT READS IS OF BULK AT MOST 1048576: true; the input reads as it did. -/
def fnDiagramUptoRow : OpenClaim := { program := "ythcdiaahpodkoab", sum := "114a74fb5f74643d000ade4eb4f4f3f664f8fc8fa9bb6acc37520cadd2daeeb1", func := "loop.example/symmetricsums/laws.FnDiagram", spec := "fnDiagram", unfollowed := true, recurses := true, plainKeys := false, apart := false, narrowed := true }
def FnDiagramUptoSaid : Prop := fnDiagramUptoRow.holds Try.pinned (OpenSpec.upto fnDiagramSpec)

/-- 'laws.FnWays', WHERE WHAT IT READS IS OF BULK AT MOST 1048576: true; the input reads as it did. -/
def fnWaysUptoRow : OpenClaim := { program := "ythcdiaahpodkoab", sum := "114a74fb5f74643d000ade4eb4f4f3f664f8fc8fa9bb6acc37520cadd2daeeb1", func := "loop.example/symmetricsums/laws.FnWays", spec := "fnWays", unfollowed := true, recurses := true, plainKeys := false, apart := false, narrowed := true }
def FnWaysUptoSaid : Prop := fnWaysUptoRow.holds Try.pinned (OpenSpec.upto fnWaysSpec)

/-- 'laws.FnWaysCells', WHERE WHAT IT READS IS OF BULK AT MOST 1048576: true; the input reads as it did. -/
def fnWaysCellsUptoRow : OpenClaim := { program := "ythcdiaahpodkoab", sum := "114a74fb5f74643d000ade4eb4f4f3f664f8fc8fa9bb6acc37520cadd2daeeb1", func := "loop.example/symmetricsums/laws.FnWaysCells", spec := "fnWaysCells", unfollowed := true, recurses := true, plainKeys := false, apart := false, narrowed := true }
def FnWaysCellsUptoSaid : Prop := fnWaysCellsUptoRow.holds Try.pinned (OpenSpec.upto fnWaysCellsSpec)

/-- 'laws.FnTableChosen', WHERE WHAT IT READS IS OF BULK AT MOST 1048576: true; the input reads as it did. -/
def fnTableChosenUptoRow : OpenClaim := { program := "ythcdiaahpodkoab", sum := "114a74fb5f74643d000ade4eb4f4f3f664f8fc8fa9bb6acc37520cadd2daeeb1", func := "loop.example/symmetricsums/laws.FnTableChosen", spec := "fnTableChosen", unfollowed := true, recurses := true, plainKeys := false, apart := false, narrowed := true }
def FnTableChosenUptoSaid : Prop := fnTableChosenUptoRow.holds Try.pinned (OpenSpec.upto fnTableChosenSpec)

/-- 'laws.FnTableFull', WHERE WHAT IT READS IS OF BULK AT MOST 1048576: true; the input reads as it did. -/
def fnTableFullUptoRow : OpenClaim := { program := "ythcdiaahpodkoab", sum := "114a74fb5f74643d000ade4eb4f4f3f664f8fc8fa9bb6acc37520cadd2daeeb1", func := "loop.example/symmetricsums/laws.FnTableFull", spec := "fnTableFull", unfollowed := true, recurses := true, plainKeys := false, apart := false, narrowed := true }
def FnTableFullUptoSaid : Prop := fnTableFullUptoRow.holds Try.pinned (OpenSpec.upto fnTableFullSpec)

/-- 'laws.FnTableChosenPairs', WHERE WHAT IT READS IS OF BULK AT MOST 1048576: true; the input reads as it did. -/
def fnTableChosenPairsUptoRow : OpenClaim := { program := "ythcdiaahpodkoab", sum := "114a74fb5f74643d000ade4eb4f4f3f664f8fc8fa9bb6acc37520cadd2daeeb1", func := "loop.example/symmetricsums/laws.FnTableChosenPairs", spec := "fnTableChosenPairs", unfollowed := true, recurses := true, plainKeys := false, apart := false, narrowed := true }
def FnTableChosenPairsUptoSaid : Prop := fnTableChosenPairsUptoRow.holds Try.pinned (OpenSpec.upto fnTableChosenPairsSpec)

/-- 'laws.FnTablePower', WHERE WHAT IT READS IS OF BULK AT MOST 1048576: true; the input reads as it did. -/
def fnTablePowerUptoRow : OpenClaim := { program := "ythcdiaahpodkoab", sum := "114a74fb5f74643d000ade4eb4f4f3f664f8fc8fa9bb6acc37520cadd2daeeb1", func := "loop.example/symmetricsums/laws.FnTablePower", spec := "fnTablePower", unfollowed := true, recurses := true, plainKeys := false, apart := false, narrowed := true }
def FnTablePowerUptoSaid : Prop := fnTablePowerUptoRow.holds Try.pinned (OpenSpec.upto fnTablePowerSpec)

end Rows
end Go.Proofs.Ythcdiaahpodkoab
