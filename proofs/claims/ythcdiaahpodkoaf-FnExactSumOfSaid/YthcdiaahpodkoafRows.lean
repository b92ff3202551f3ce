/-
  No cell of these rows narrows 'for every input' (looked for: loops, veiled, ifaces, maps, wideKeys, modest, calm, conditions, laid).
  DERIVED. THE GIVEN ROWS OF THIS SEAT. 10 by the template 'for every input the law returns true; each argument reads behind the call as it read before'; 0 by the template 'total and deterministic' (their statements: YthcdiaahpodkoafTotals.lean).
  GIVEN WITH THE SEED: the statements are not yours to turn. If you find one false, say at which input.
  Laid BY PROGRAM, IN A SANDBOX (cutbox-rows.mjs): the forced cells as the released guide's own fill.sh prints them over the translation b35bad9a3be138a3… (all of the seat's roots in one cut). By AI agents, Wed Nov 11 2026. No macro, syntax, notation, axiom, sorry.
-/
import Derived.Test.YthcdiaahpodkoafChecked
import GoSem.Claim
import GoSem.ClaimJoined
import GoSem.ClaimMapViews
import Derived.JoinedTies
import Derived.KernelRfl
namespace Go.Proofs.Ythcdiaahpodkoaf
/- THE CELL 'sum', in the pinned program and in every row, IS THE sha256 OF THE DUMP (.gsa) THAT YthcdiaahpodkoafProg.lean LOADS. Nothing in Lean hashes anything: it is a label: what it is worth is what the hold of that sum in a sandbox is worth. -/
noncomputable def Try.pinned : Pinned := { name := "ythcdiaahpodkoaf", sum := "b35bad9a3be138a301e6f0d046c8b55660d56025995b3ba3305e560e4c242f6d", checked := Try.checked }
namespace Rows
def none {H : Type} : Left H := { results := [], args := [] }

/-- 'laws.FnExactTableFull': WHATEVER THE INPUT: true; the input reads as it did. -/
def fnExactTableFullSpec : ChangeSpec := { name := "fnExactTableFull", fn := fun _ => fun
  | [d1, d2] => { results := [.lit (.bool true)], args := [d1, d2] }
  | _ => none }
def fnExactTableFullRow : OpenClaim := { program := "ythcdiaahpodkoaf", sum := "b35bad9a3be138a301e6f0d046c8b55660d56025995b3ba3305e560e4c242f6d", func := "loop.example/symmetricsums/laws.FnExactTableFull", spec := "fnExactTableFull", unfollowed := true, recurses := true, leaving := true, apart := false }
def FnExactTableFullSaid : Prop := fnExactTableFullRow.holds Try.pinned (OpenSpec.ofChange fnExactTableFullSpec)

/-- ITS FALSE NEIGHBOUR: 'it returns false'. Refute it at one input. -/
def fnExactTableFullWrong : ChangeSpec := { name := "fnExactTableFull", fn := fun _ => fun
  | [d1, d2] => { results := [.lit (.bool false)], args := [d1, d2] }
  | _ => none }
def FnExactTableFullWrongFalsely : Prop := fnExactTableFullRow.holds Try.pinned (OpenSpec.ofChange fnExactTableFullWrong)

/-- 'laws.FnExactTablePower': WHATEVER THE INPUT: true; the input reads as it did. -/
def fnExactTablePowerSpec : ChangeSpec := { name := "fnExactTablePower", fn := fun _ => fun
  | [d1, d2] => { results := [.lit (.bool true)], args := [d1, d2] }
  | _ => none }
def fnExactTablePowerRow : OpenClaim := { program := "ythcdiaahpodkoaf", sum := "b35bad9a3be138a301e6f0d046c8b55660d56025995b3ba3305e560e4c242f6d", func := "loop.example/symmetricsums/laws.FnExactTablePower", spec := "fnExactTablePower", unfollowed := true, recurses := true, leaving := true, apart := false }
def FnExactTablePowerSaid : Prop := fnExactTablePowerRow.holds Try.pinned (OpenSpec.ofChange fnExactTablePowerSpec)

/-- ITS FALSE NEIGHBOUR: 'it returns false'. Refute it at one input. -/
def fnExactTablePowerWrong : ChangeSpec := { name := "fnExactTablePower", fn := fun _ => fun
  | [d1, d2] => { results := [.lit (.bool false)], args := [d1, d2] }
  | _ => none }
def FnExactTablePowerWrongFalsely : Prop := fnExactTablePowerRow.holds Try.pinned (OpenSpec.ofChange fnExactTablePowerWrong)

/-- 'laws.FnExactTableDiagram': WHATEVER THE INPUT: true; the input reads as it did. -/
def fnExactTableDiagramSpec : ChangeSpec := { name := "fnExactTableDiagram", fn := fun _ => fun
  | [d1, d2] => { results := [.lit (.bool true)], args := [d1, d2] }
  | _ => none }
def fnExactTableDiagramRow : OpenClaim := { program := "ythcdiaahpodkoaf", sum := "b35bad9a3be138a301e6f0d046c8b55660d56025995b3ba3305e560e4c242f6d", func := "loop.example/symmetricsums/laws.FnExactTableDiagram", spec := "fnExactTableDiagram", unfollowed := true, recurses := true, leaving := true, apart := false }
def FnExactTableDiagramSaid : Prop := fnExactTableDiagramRow.holds Try.pinned (OpenSpec.ofChange fnExactTableDiagramSpec)

/-- ITS FALSE NEIGHBOUR: 'it returns false'. Refute it at one input. -/
def fnExactTableDiagramWrong : ChangeSpec := { name := "fnExactTableDiagram", fn := fun _ => fun
  | [d1, d2] => { results := [.lit (.bool false)], args := [d1, d2] }
  | _ => none }
def FnExactTableDiagramWrongFalsely : Prop := fnExactTableDiagramRow.holds Try.pinned (OpenSpec.ofChange fnExactTableDiagramWrong)

/-- 'laws.FnExactTableOf': WHATEVER THE INPUT: true; the input reads as it did. -/
def fnExactTableOfSpec : ChangeSpec := { name := "fnExactTableOf", fn := fun _ => fun
  | [d1, d2] => { results := [.lit (.bool true)], args := [d1, d2] }
  | _ => none }
def fnExactTableOfRow : OpenClaim := { program := "ythcdiaahpodkoaf", sum := "b35bad9a3be138a301e6f0d046c8b55660d56025995b3ba3305e560e4c242f6d", func := "loop.example/symmetricsums/laws.FnExactTableOf", spec := "fnExactTableOf", inPlace := ["(*sync.WaitGroup).Add", "internal/race.ReleaseMerge", "internal/race.Disable", "internal/race.Enable", "internal/synctest.IsInBubble", "internal/synctest.Associate[sync.WaitGroup]", "sync.fatal", "sync/atomic.OrUint64", "sync/atomic.AddUint64", "internal/race.Read", "sync/atomic.LoadUint64", "sync/atomic.StoreUint64", "internal/synctest.Disassociate[sync.WaitGroup]", "sync.runtime_Semrelease", "(*sync.WaitGroup).Done", "(*sync.WaitGroup).Wait", "internal/race.Acquire", "internal/synctest.IsAssociated[sync.WaitGroup]", "sync/atomic.CompareAndSwapUint64", "internal/race.Write", "sync.runtime_SemacquireWaitGroup"], unfollowed := true, recurses := true, leaving := true, apart := false }
def FnExactTableOfSaid : Prop := fnExactTableOfRow.holds Try.pinned (OpenSpec.ofChange fnExactTableOfSpec)

/-- ITS FALSE NEIGHBOUR: 'it returns false'. Refute it at one input. -/
def fnExactTableOfWrong : ChangeSpec := { name := "fnExactTableOf", fn := fun _ => fun
  | [d1, d2] => { results := [.lit (.bool false)], args := [d1, d2] }
  | _ => none }
def FnExactTableOfWrongFalsely : Prop := fnExactTableOfRow.holds Try.pinned (OpenSpec.ofChange fnExactTableOfWrong)

/-- 'laws.FnExactTableBack': WHATEVER THE INPUT: true; the input reads as it did. -/
def fnExactTableBackSpec : ChangeSpec := { name := "fnExactTableBack", fn := fun _ => fun
  | [d] => { results := [.lit (.bool true)], args := [d] }
  | _ => none }
def fnExactTableBackRow : OpenClaim := { program := "ythcdiaahpodkoaf", sum := "b35bad9a3be138a301e6f0d046c8b55660d56025995b3ba3305e560e4c242f6d", func := "loop.example/symmetricsums/laws.FnExactTableBack", spec := "fnExactTableBack", inPlace := ["(*sync.WaitGroup).Add", "internal/race.ReleaseMerge", "internal/race.Disable", "internal/race.Enable", "internal/synctest.IsInBubble", "internal/synctest.Associate[sync.WaitGroup]", "sync.fatal", "sync/atomic.OrUint64", "sync/atomic.AddUint64", "internal/race.Read", "sync/atomic.LoadUint64", "sync/atomic.StoreUint64", "internal/synctest.Disassociate[sync.WaitGroup]", "sync.runtime_Semrelease", "(*sync.WaitGroup).Done", "(*sync.WaitGroup).Wait", "internal/race.Acquire", "internal/synctest.IsAssociated[sync.WaitGroup]", "sync/atomic.CompareAndSwapUint64", "internal/race.Write", "sync.runtime_SemacquireWaitGroup"], unfollowed := true, recurses := true, leaving := true, apart := false }
def FnExactTableBackSaid : Prop := fnExactTableBackRow.holds Try.pinned (OpenSpec.ofChange fnExactTableBackSpec)

/-- ITS FALSE NEIGHBOUR: 'it returns false'. Refute it at one input. -/
def fnExactTableBackWrong : ChangeSpec := { name := "fnExactTableBack", fn := fun _ => fun
  | [d] => { results := [.lit (.bool false)], args := [d] }
  | _ => none }
def FnExactTableBackWrongFalsely : Prop := fnExactTableBackRow.holds Try.pinned (OpenSpec.ofChange fnExactTableBackWrong)

/-- 'laws.FnExactTableSigns': WHATEVER THE INPUT: true; the input reads as it did. -/
def fnExactTableSignsSpec : ChangeSpec := { name := "fnExactTableSigns", fn := fun _ => fun
  | [d1, d2] => { results := [.lit (.bool true)], args := [d1, d2] }
  | _ => none }
def fnExactTableSignsRow : OpenClaim := { program := "ythcdiaahpodkoaf", sum := "b35bad9a3be138a301e6f0d046c8b55660d56025995b3ba3305e560e4c242f6d", func := "loop.example/symmetricsums/laws.FnExactTableSigns", spec := "fnExactTableSigns", unfollowed := true, recurses := true, leaving := true, apart := false }
def FnExactTableSignsSaid : Prop := fnExactTableSignsRow.holds Try.pinned (OpenSpec.ofChange fnExactTableSignsSpec)

/-- ITS FALSE NEIGHBOUR: 'it returns false'. Refute it at one input. -/
def fnExactTableSignsWrong : ChangeSpec := { name := "fnExactTableSigns", fn := fun _ => fun
  | [d1, d2] => { results := [.lit (.bool false)], args := [d1, d2] }
  | _ => none }
def FnExactTableSignsWrongFalsely : Prop := fnExactTableSignsRow.holds Try.pinned (OpenSpec.ofChange fnExactTableSignsWrong)

/-- 'laws.FnExactSumIn': WHATEVER THE INPUT: true; the input reads as it did. -/
def fnExactSumInSpec : ChangeSpec := { name := "fnExactSumIn", fn := fun _ => fun
  | [d] => { results := [.lit (.bool true)], args := [d] }
  | _ => none }
def fnExactSumInRow : OpenClaim := { program := "ythcdiaahpodkoaf", sum := "b35bad9a3be138a301e6f0d046c8b55660d56025995b3ba3305e560e4c242f6d", func := "loop.example/symmetricsums/laws.FnExactSumIn", spec := "fnExactSumIn", unfollowed := true, recurses := true, leaving := true, apart := false }
def FnExactSumInSaid : Prop := fnExactSumInRow.holds Try.pinned (OpenSpec.ofChange fnExactSumInSpec)

/-- ITS FALSE NEIGHBOUR: 'it returns false'. Refute it at one input. -/
def fnExactSumInWrong : ChangeSpec := { name := "fnExactSumIn", fn := fun _ => fun
  | [d] => { results := [.lit (.bool false)], args := [d] }
  | _ => none }
def FnExactSumInWrongFalsely : Prop := fnExactSumInRow.holds Try.pinned (OpenSpec.ofChange fnExactSumInWrong)

/-- 'laws.FnExactSumOf': WHATEVER THE INPUT: true; the input reads as it did. -/
def fnExactSumOfSpec : ChangeSpec := { name := "fnExactSumOf", fn := fun _ => fun
  | [d1, d2] => { results := [.lit (.bool true)], args := [d1, d2] }
  | _ => none }
def fnExactSumOfRow : OpenClaim := { program := "ythcdiaahpodkoaf", sum := "b35bad9a3be138a301e6f0d046c8b55660d56025995b3ba3305e560e4c242f6d", func := "loop.example/symmetricsums/laws.FnExactSumOf", spec := "fnExactSumOf", unfollowed := true, recurses := true, leaving := true, apart := false }
def FnExactSumOfSaid : Prop := fnExactSumOfRow.holds Try.pinned (OpenSpec.ofChange fnExactSumOfSpec)

/-- ITS FALSE NEIGHBOUR: 'it returns false'. Refute it at one input. -/
def fnExactSumOfWrong : ChangeSpec := { name := "fnExactSumOf", fn := fun _ => fun
  | [d1, d2] => { results := [.lit (.bool false)], args := [d1, d2] }
  | _ => none }
def FnExactSumOfWrongFalsely : Prop := fnExactSumOfRow.holds Try.pinned (OpenSpec.ofChange fnExactSumOfWrong)

/-- 'laws.FnExactSumAdd': WHATEVER THE INPUT: true; the input reads as it did. -/
def fnExactSumAddSpec : ChangeSpec := { name := "fnExactSumAdd", fn := fun _ => fun
  | [d1, d2] => { results := [.lit (.bool true)], args := [d1, d2] }
  | _ => none }
def fnExactSumAddRow : OpenClaim := { program := "ythcdiaahpodkoaf", sum := "b35bad9a3be138a301e6f0d046c8b55660d56025995b3ba3305e560e4c242f6d", func := "loop.example/symmetricsums/laws.FnExactSumAdd", spec := "fnExactSumAdd", unfollowed := true, recurses := true, leaving := true, apart := false }
def FnExactSumAddSaid : Prop := fnExactSumAddRow.holds Try.pinned (OpenSpec.ofChange fnExactSumAddSpec)

/-- ITS FALSE NEIGHBOUR: 'it returns false'. Refute it at one input. -/
def fnExactSumAddWrong : ChangeSpec := { name := "fnExactSumAdd", fn := fun _ => fun
  | [d1, d2] => { results := [.lit (.bool false)], args := [d1, d2] }
  | _ => none }
def FnExactSumAddWrongFalsely : Prop := fnExactSumAddRow.holds Try.pinned (OpenSpec.ofChange fnExactSumAddWrong)

/-- 'laws.FnExactSumTimes': WHATEVER THE INPUT: true; the input reads as it did. -/
def fnExactSumTimesSpec : ChangeSpec := { name := "fnExactSumTimes", fn := fun _ => fun
  | [d1, d2] => { results := [.lit (.bool true)], args := [d1, d2] }
  | _ => none }
def fnExactSumTimesRow : OpenClaim := { program := "ythcdiaahpodkoaf", sum := "b35bad9a3be138a301e6f0d046c8b55660d56025995b3ba3305e560e4c242f6d", func := "loop.example/symmetricsums/laws.FnExactSumTimes", spec := "fnExactSumTimes", unfollowed := true, recurses := true, leaving := true, apart := false }
def FnExactSumTimesSaid : Prop := fnExactSumTimesRow.holds Try.pinned (OpenSpec.ofChange fnExactSumTimesSpec)

/-- ITS FALSE NEIGHBOUR: 'it returns false'. Refute it at one input. -/
def fnExactSumTimesWrong : ChangeSpec := { name := "fnExactSumTimes", fn := fun _ => fun
  | [d1, d2] => { results := [.lit (.bool false)], args := [d1, d2] }
  | _ => none }
def FnExactSumTimesWrongFalsely : Prop := fnExactSumTimesRow.holds Try.pinned (OpenSpec.ofChange fnExactSumTimesWrong)

/- THE SECOND FORM. 'bulk': how many values and letters a reading holds, each counted each time it is reached (what is shared counts as often as it is met; a slice's spare places count too). A statement '..UptoSaid' is the law's where the arguments, and the package variables that the reading takes, are together of bulk at most 1048576: NARROWER than '..Said'. Prove '..Said' where nothing that the law and all that it calls make is longer than what came in: it says more and counts as full. Else prove '..UptoSaid'. A law counts once. -/
mutual
def uptoBulk {H : Type} : DataW H → Nat
  | .lit (.string bytes) => bytes.length + 1
  | .lit _ => 1
  | .nil => 1
  | .ptr d => uptoBulk d + 1
  | .slice elems spare => uptoBulkAll elems + uptoBulkAll spare + 1
  | .agg parts => uptoBulkAll parts + 1
  | .iface _ d => uptoBulk d + 1
  | .map entries => uptoBulkEntries entries + 1
  | .held _ => 1
def uptoBulkAll {H : Type} : List (DataW H) → Nat
  | [] => 0
  | d :: r => uptoBulk d + uptoBulkAll r
def uptoBulkEntries {H : Type} : List (Lit × DataW H) → Nat
  | [] => 0
  | x :: r => uptoBulkEntry x + uptoBulkEntries r
def uptoBulkEntry {H : Type} : Lit × DataW H → Nat
  | (.string bytes, d) => bytes.length + uptoBulk d + 1
  | (_, d) => uptoBulk d + 1
 end
def uptoSmall : (H : Type) → List (DataW H) → Bool := fun _ ds => decide (uptoBulkAll ds ≤ 1048576)
def OpenSpec.upto (s : _root_.Go.ChangeSpec) : _root_.Go.OpenSpec := { _root_.Go.OpenSpec.ofChange s with cond := some uptoSmall }

/-- 'laws.FnExactTableFull', WHERE WHAT IT READS IS OF BULK AT MOST 1048576: true; the input reads as it did. -/
def fnExactTableFullUptoRow : OpenClaim := { program := "ythcdiaahpodkoaf", sum := "b35bad9a3be138a301e6f0d046c8b55660d56025995b3ba3305e560e4c242f6d", func := "loop.example/symmetricsums/laws.FnExactTableFull", spec := "fnExactTableFull", unfollowed := true, recurses := true, leaving := true, apart := false, narrowed := true }
def FnExactTableFullUptoSaid : Prop := fnExactTableFullUptoRow.holds Try.pinned (OpenSpec.upto fnExactTableFullSpec)

/-- 'laws.FnExactTablePower', WHERE WHAT IT READS IS OF BULK AT MOST 1048576: true; the input reads as it did. -/
def fnExactTablePowerUptoRow : OpenClaim := { program := "ythcdiaahpodkoaf", sum := "b35bad9a3be138a301e6f0d046c8b55660d56025995b3ba3305e560e4c242f6d", func := "loop.example/symmetricsums/laws.FnExactTablePower", spec := "fnExactTablePower", unfollowed := true, recurses := true, leaving := true, apart := false, narrowed := true }
def FnExactTablePowerUptoSaid : Prop := fnExactTablePowerUptoRow.holds Try.pinned (OpenSpec.upto fnExactTablePowerSpec)

/-- 'laws.FnExactTableDiagram', WHERE WHAT IT READS IS OF BULK AT MOST 1048576: true; the input reads as it did. -/
def fnExactTableDiagramUptoRow : OpenClaim := { program := "ythcdiaahpodkoaf", sum := "b35bad9a3be138a301e6f0d046c8b55660d56025995b3ba3305e560e4c242f6d", func := "loop.example/symmetricsums/laws.FnExactTableDiagram", spec := "fnExactTableDiagram", unfollowed := true, recurses := true, leaving := true, apart := false, narrowed := true }
def FnExactTableDiagramUptoSaid : Prop := fnExactTableDiagramUptoRow.holds Try.pinned (OpenSpec.upto fnExactTableDiagramSpec)

/-- 'laws.FnExactTableOf', WHERE WHAT IT READS IS OF BULK AT MOST 1048576: true; the input reads as it did. -/
def fnExactTableOfUptoRow : OpenClaim := { program := "ythcdiaahpodkoaf", sum := "b35bad9a3be138a301e6f0d046c8b55660d56025995b3ba3305e560e4c242f6d", func := "loop.example/symmetricsums/laws.FnExactTableOf", spec := "fnExactTableOf", inPlace := ["(*sync.WaitGroup).Add", "internal/race.ReleaseMerge", "internal/race.Disable", "internal/race.Enable", "internal/synctest.IsInBubble", "internal/synctest.Associate[sync.WaitGroup]", "sync.fatal", "sync/atomic.OrUint64", "sync/atomic.AddUint64", "internal/race.Read", "sync/atomic.LoadUint64", "sync/atomic.StoreUint64", "internal/synctest.Disassociate[sync.WaitGroup]", "sync.runtime_Semrelease", "(*sync.WaitGroup).Done", "(*sync.WaitGroup).Wait", "internal/race.Acquire", "internal/synctest.IsAssociated[sync.WaitGroup]", "sync/atomic.CompareAndSwapUint64", "internal/race.Write", "sync.runtime_SemacquireWaitGroup"], unfollowed := true, recurses := true, leaving := true, apart := false, narrowed := true }
def FnExactTableOfUptoSaid : Prop := fnExactTableOfUptoRow.holds Try.pinned (OpenSpec.upto fnExactTableOfSpec)

/-- 'laws.FnExactTableBack', WHERE WHAT IT READS IS OF BULK AT MOST 1048576: true; the input reads as it did. -/
def fnExactTableBackUptoRow : OpenClaim := { program := "ythcdiaahpodkoaf", sum := "b35bad9a3be138a301e6f0d046c8b55660d56025995b3ba3305e560e4c242f6d", func := "loop.example/symmetricsums/laws.FnExactTableBack", spec := "fnExactTableBack", inPlace := ["(*sync.WaitGroup).Add", "internal/race.ReleaseMerge", "internal/race.Disable", "internal/race.Enable", "internal/synctest.IsInBubble", "internal/synctest.Associate[sync.WaitGroup]", "sync.fatal", "sync/atomic.OrUint64", "sync/atomic.AddUint64", "internal/race.Read", "sync/atomic.LoadUint64", "sync/atomic.StoreUint64", "internal/synctest.Disassociate[sync.WaitGroup]", "sync.runtime_Semrelease", "(*sync.WaitGroup).Done", "(*sync.WaitGroup).Wait", "internal/race.Acquire", "internal/synctest.IsAssociated[sync.WaitGroup]", "sync/atomic.CompareAndSwapUint64", "internal/race.Write", "sync.runtime_SemacquireWaitGroup"], unfollowed := true, recurses := true, leaving := true, apart := false, narrowed := true }
def FnExactTableBackUptoSaid : Prop := fnExactTableBackUptoRow.holds Try.pinned (OpenSpec.upto fnExactTableBackSpec)

/-- 'laws.FnExactTableSigns', WHERE WHAT IT READS IS OF BULK AT MOST 1048576: true; the input reads as it did. -/
def fnExactTableSignsUptoRow : OpenClaim := { program := "ythcdiaahpodkoaf", sum := "b35bad9a3be138a301e6f0d046c8b55660d56025995b3ba3305e560e4c242f6d", func := "loop.example/symmetricsums/laws.FnExactTableSigns", spec := "fnExactTableSigns", unfollowed := true, recurses := true, leaving := true, apart := false, narrowed := true }
def FnExactTableSignsUptoSaid : Prop := fnExactTableSignsUptoRow.holds Try.pinned (OpenSpec.upto fnExactTableSignsSpec)

/-- 'laws.FnExactSumIn', WHERE WHAT IT READS IS OF BULK AT MOST 1048576: true; the input reads as it did. -/
def fnExactSumInUptoRow : OpenClaim := { program := "ythcdiaahpodkoaf", sum := "b35bad9a3be138a301e6f0d046c8b55660d56025995b3ba3305e560e4c242f6d", func := "loop.example/symmetricsums/laws.FnExactSumIn", spec := "fnExactSumIn", unfollowed := true, recurses := true, leaving := true, apart := false, narrowed := true }
def FnExactSumInUptoSaid : Prop := fnExactSumInUptoRow.holds Try.pinned (OpenSpec.upto fnExactSumInSpec)

/-- 'laws.FnExactSumOf', WHERE WHAT IT READS IS OF BULK AT MOST 1048576: true; the input reads as it did. -/
def fnExactSumOfUptoRow : OpenClaim := { program := "ythcdiaahpodkoaf", sum := "b35bad9a3be138a301e6f0d046c8b55660d56025995b3ba3305e560e4c242f6d", func := "loop.example/symmetricsums/laws.FnExactSumOf", spec := "fnExactSumOf", unfollowed := true, recurses := true, leaving := true, apart := false, narrowed := true }
def FnExactSumOfUptoSaid : Prop := fnExactSumOfUptoRow.holds Try.pinned (OpenSpec.upto fnExactSumOfSpec)

/-- 'laws.FnExactSumAdd', WHERE WHAT IT READS IS OF BULK AT MOST 1048576: true; the input reads as it did. -/
def fnExactSumAddUptoRow : OpenClaim := { program := "ythcdiaahpodkoaf", sum := "b35bad9a3be138a301e6f0d046c8b55660d56025995b3ba3305e560e4c242f6d", func := "loop.example/symmetricsums/laws.FnExactSumAdd", spec := "fnExactSumAdd", unfollowed := true, recurses := true, leaving := true, apart := false, narrowed := true }
def FnExactSumAddUptoSaid : Prop := fnExactSumAddUptoRow.holds Try.pinned (OpenSpec.upto fnExactSumAddSpec)

/-- 'laws.FnExactSumTimes', WHERE WHAT IT READS IS OF BULK AT MOST 1048576: true; the input reads as it did. -/
def fnExactSumTimesUptoRow : OpenClaim := { program := "ythcdiaahpodkoaf", sum := "b35bad9a3be138a301e6f0d046c8b55660d56025995b3ba3305e560e4c242f6d", func := "loop.example/symmetricsums/laws.FnExactSumTimes", spec := "fnExactSumTimes", unfollowed := true, recurses := true, leaving := true, apart := false, narrowed := true }
def FnExactSumTimesUptoSaid : Prop := fnExactSumTimesUptoRow.holds Try.pinned (OpenSpec.upto fnExactSumTimesSpec)

end Rows
end Go.Proofs.Ythcdiaahpodkoaf
