/-
  No cell of these rows narrows 'for every input' (looked for: loops, veiled, ifaces, maps, wideKeys, modest, calm, conditions, laid).
  DERIVED. THE GIVEN ROWS OF THIS SEAT. 11 by the template 'for every input the law returns true; each argument reads behind the call as it read before'; 0 by the template 'total and deterministic' (their statements: YtliimffphokmpaaTotals.lean).
  GIVEN WITH THE SEED: the statements are not yours to turn. If you find one false, say at which input.
  Laid BY PROGRAM, IN A SANDBOX (cutbox-rows.mjs): the forced cells as the released guide's own fill.sh prints them over the translation 769467542539012b… (all of the seat's roots in one cut). By AI agents, Wed Nov 11 2026. No macro, syntax, notation, axiom, sorry.
-/
import Derived.Test.YtliimffphokmpaaChecked
import GoSem.Claim
import GoSem.ClaimJoined
import GoSem.ClaimMapViews
import Derived.JoinedTies
import Derived.KernelRfl
namespace Go.Proofs.Ytliimffphokmpaa
/- THE CELL 'sum', in the pinned program and in every row, IS THE sha256 OF THE DUMP (.gsa) THAT YtliimffphokmpaaProg.lean LOADS. Nothing in Lean hashes anything: it is a label: what it is worth is what the hold of that sum in a sandbox is worth. -/
noncomputable def Try.pinned : Pinned := { name := "ytliimffphokmpaa", sum := "769467542539012bf748c631a6c3dbd4e304a03e5974fd3b7af60169d7a6d1de", checked := Try.checked }
namespace Rows
def none {H : Type} : Left H := { results := [], args := [] }

/-- 'laws.FnAtShare': WHATEVER THE INPUT: true; the input reads as it did. -/
def fnAtShareSpec : ChangeSpec := { name := "fnAtShare", fn := fun _ => fun
  | [d] => { results := [.lit (.bool true)], args := [d] }
  | _ => none }
def fnAtShareRow : OpenClaim := { program := "ytliimffphokmpaa", sum := "769467542539012bf748c631a6c3dbd4e304a03e5974fd3b7af60169d7a6d1de", func := "loop.example/symmetricsums/laws.FnAtShare", spec := "fnAtShare", unfollowed := true, recurses := true, plainKeys := false, leaving := true, apart := false }
def FnAtShareSaid : Prop := fnAtShareRow.holds Try.pinned (OpenSpec.ofChange fnAtShareSpec)

/-- ITS FALSE NEIGHBOUR: 'it returns false'. Refute it at one input. -/
def fnAtShareWrong : ChangeSpec := { name := "fnAtShare", fn := fun _ => fun
  | [d] => { results := [.lit (.bool false)], args := [d] }
  | _ => none }
def FnAtShareWrongFalsely : Prop := fnAtShareRow.holds Try.pinned (OpenSpec.ofChange fnAtShareWrong)

/-- 'laws.FnDiagram': WHATEVER THE INPUT: true; the input reads as it did. -/
def fnDiagramSpec : ChangeSpec := { name := "fnDiagram", fn := fun _ => fun
  | [d] => { results := [.lit (.bool true)], args := [d] }
  | _ => none }
def fnDiagramRow : OpenClaim := { program := "ytliimffphokmpaa", sum := "769467542539012bf748c631a6c3dbd4e304a03e5974fd3b7af60169d7a6d1de", func := "loop.example/symmetricsums/laws.FnDiagram", spec := "fnDiagram", unfollowed := true, recurses := true, plainKeys := false, leaving := true, apart := false }
def FnDiagramSaid : Prop := fnDiagramRow.holds Try.pinned (OpenSpec.ofChange fnDiagramSpec)

/-- ITS FALSE NEIGHBOUR: 'it returns false'. Refute it at one input. -/
def fnDiagramWrong : ChangeSpec := { name := "fnDiagram", fn := fun _ => fun
  | [d] => { results := [.lit (.bool false)], args := [d] }
  | _ => none }
def FnDiagramWrongFalsely : Prop := fnDiagramRow.holds Try.pinned (OpenSpec.ofChange fnDiagramWrong)

/-- 'laws.FnSumTimes': WHATEVER THE INPUT: true; the input reads as it did. -/
def fnSumTimesSpec : ChangeSpec := { name := "fnSumTimes", fn := fun _ => fun
  | [d] => { results := [.lit (.bool true)], args := [d] }
  | _ => none }
def fnSumTimesRow : OpenClaim := { program := "ytliimffphokmpaa", sum := "769467542539012bf748c631a6c3dbd4e304a03e5974fd3b7af60169d7a6d1de", func := "loop.example/symmetricsums/laws.FnSumTimes", spec := "fnSumTimes", unfollowed := true, recurses := true, plainKeys := false, leaving := true, apart := false }
def FnSumTimesSaid : Prop := fnSumTimesRow.holds Try.pinned (OpenSpec.ofChange fnSumTimesSpec)

/-- ITS FALSE NEIGHBOUR: 'it returns false'. Refute it at one input. -/
def fnSumTimesWrong : ChangeSpec := { name := "fnSumTimes", fn := fun _ => fun
  | [d] => { results := [.lit (.bool false)], args := [d] }
  | _ => none }
def FnSumTimesWrongFalsely : Prop := fnSumTimesRow.holds Try.pinned (OpenSpec.ofChange fnSumTimesWrong)

/-- 'laws.FnRootFrom': WHATEVER THE INPUT: true; the input reads as it did. -/
def fnRootFromSpec : ChangeSpec := { name := "fnRootFrom", fn := fun _ => fun
  | [d] => { results := [.lit (.bool true)], args := [d] }
  | _ => none }
def fnRootFromRow : OpenClaim := { program := "ytliimffphokmpaa", sum := "769467542539012bf748c631a6c3dbd4e304a03e5974fd3b7af60169d7a6d1de", func := "loop.example/symmetricsums/laws.FnRootFrom", spec := "fnRootFrom", unfollowed := true, recurses := true, plainKeys := false, leaving := true, apart := false }
def FnRootFromSaid : Prop := fnRootFromRow.holds Try.pinned (OpenSpec.ofChange fnRootFromSpec)

/-- ITS FALSE NEIGHBOUR: 'it returns false'. Refute it at one input. -/
def fnRootFromWrong : ChangeSpec := { name := "fnRootFrom", fn := fun _ => fun
  | [d] => { results := [.lit (.bool false)], args := [d] }
  | _ => none }
def FnRootFromWrongFalsely : Prop := fnRootFromRow.holds Try.pinned (OpenSpec.ofChange fnRootFromWrong)

/-- 'laws.FnExactSumAt': WHATEVER THE INPUT: true; the input reads as it did. -/
def fnExactSumAtSpec : ChangeSpec := { name := "fnExactSumAt", fn := fun _ => fun
  | [d1, d2] => { results := [.lit (.bool true)], args := [d1, d2] }
  | _ => none }
def fnExactSumAtRow : OpenClaim := { program := "ytliimffphokmpaa", sum := "769467542539012bf748c631a6c3dbd4e304a03e5974fd3b7af60169d7a6d1de", func := "loop.example/symmetricsums/laws.FnExactSumAt", spec := "fnExactSumAt", unfollowed := true, recurses := true, plainKeys := false, leaving := true, apart := false }
def FnExactSumAtSaid : Prop := fnExactSumAtRow.holds Try.pinned (OpenSpec.ofChange fnExactSumAtSpec)

/-- ITS FALSE NEIGHBOUR: 'it returns false'. Refute it at one input. -/
def fnExactSumAtWrong : ChangeSpec := { name := "fnExactSumAt", fn := fun _ => fun
  | [d1, d2] => { results := [.lit (.bool false)], args := [d1, d2] }
  | _ => none }
def FnExactSumAtWrongFalsely : Prop := fnExactSumAtRow.holds Try.pinned (OpenSpec.ofChange fnExactSumAtWrong)

/-- 'laws.FnSumAt': WHATEVER THE INPUT: true; the input reads as it did. -/
def fnSumAtSpec : ChangeSpec := { name := "fnSumAt", fn := fun _ => fun
  | [d] => { results := [.lit (.bool true)], args := [d] }
  | _ => none }
def fnSumAtRow : OpenClaim := { program := "ytliimffphokmpaa", sum := "769467542539012bf748c631a6c3dbd4e304a03e5974fd3b7af60169d7a6d1de", func := "loop.example/symmetricsums/laws.FnSumAt", spec := "fnSumAt", unfollowed := true, recurses := true, plainKeys := false, leaving := true, apart := false }
def FnSumAtSaid : Prop := fnSumAtRow.holds Try.pinned (OpenSpec.ofChange fnSumAtSpec)

/-- ITS FALSE NEIGHBOUR: 'it returns false'. Refute it at one input. -/
def fnSumAtWrong : ChangeSpec := { name := "fnSumAt", fn := fun _ => fun
  | [d] => { results := [.lit (.bool false)], args := [d] }
  | _ => none }
def FnSumAtWrongFalsely : Prop := fnSumAtRow.holds Try.pinned (OpenSpec.ofChange fnSumAtWrong)

/-- 'laws.FnSumAdd': WHATEVER THE INPUT: true; the input reads as it did. -/
def fnSumAddSpec : ChangeSpec := { name := "fnSumAdd", fn := fun _ => fun
  | [d] => { results := [.lit (.bool true)], args := [d] }
  | _ => none }
def fnSumAddRow : OpenClaim := { program := "ytliimffphokmpaa", sum := "769467542539012bf748c631a6c3dbd4e304a03e5974fd3b7af60169d7a6d1de", func := "loop.example/symmetricsums/laws.FnSumAdd", spec := "fnSumAdd", unfollowed := true, recurses := true, plainKeys := false, leaving := true, apart := false }
def FnSumAddSaid : Prop := fnSumAddRow.holds Try.pinned (OpenSpec.ofChange fnSumAddSpec)

/-- ITS FALSE NEIGHBOUR: 'it returns false'. Refute it at one input. -/
def fnSumAddWrong : ChangeSpec := { name := "fnSumAdd", fn := fun _ => fun
  | [d] => { results := [.lit (.bool false)], args := [d] }
  | _ => none }
def FnSumAddWrongFalsely : Prop := fnSumAddRow.holds Try.pinned (OpenSpec.ofChange fnSumAddWrong)

/-- 'laws.FnExactTableOf': WHATEVER THE INPUT: true; the input reads as it did. -/
def fnExactTableOfSpec : ChangeSpec := { name := "fnExactTableOf", fn := fun _ => fun
  | [d1, d2] => { results := [.lit (.bool true)], args := [d1, d2] }
  | _ => none }
def fnExactTableOfRow : OpenClaim := { program := "ytliimffphokmpaa", sum := "769467542539012bf748c631a6c3dbd4e304a03e5974fd3b7af60169d7a6d1de", func := "loop.example/symmetricsums/laws.FnExactTableOf", spec := "fnExactTableOf", inPlace := ["(*sync.WaitGroup).Add", "internal/race.ReleaseMerge", "internal/race.Disable", "internal/race.Enable", "internal/synctest.IsInBubble", "internal/synctest.Associate[sync.WaitGroup]", "sync.fatal", "sync/atomic.OrUint64", "sync/atomic.AddUint64", "internal/race.Read", "sync/atomic.LoadUint64", "sync/atomic.StoreUint64", "internal/synctest.Disassociate[sync.WaitGroup]", "sync.runtime_Semrelease", "(*sync.WaitGroup).Done", "(*sync.WaitGroup).Wait", "internal/race.Acquire", "internal/synctest.IsAssociated[sync.WaitGroup]", "sync/atomic.CompareAndSwapUint64", "internal/race.Write", "sync.runtime_SemacquireWaitGroup"], unfollowed := true, recurses := true, plainKeys := false, leaving := true, apart := false }
def FnExactTableOfSaid : Prop := fnExactTableOfRow.holds Try.pinned (OpenSpec.ofChange fnExactTableOfSpec)

/-- ITS FALSE NEIGHBOUR: 'it returns false'. Refute it at one input. -/
def fnExactTableOfWrong : ChangeSpec := { name := "fnExactTableOf", fn := fun _ => fun
  | [d1, d2] => { results := [.lit (.bool false)], args := [d1, d2] }
  | _ => none }
def FnExactTableOfWrongFalsely : Prop := fnExactTableOfRow.holds Try.pinned (OpenSpec.ofChange fnExactTableOfWrong)

/-- 'laws.FnExactTableBack': WHATEVER THE INPUT: true; the input reads as it did. -/
def fnExactTableBackSpec : ChangeSpec := { name := "fnExactTableBack", fn := fun _ => fun
  | [d] => { results := [.lit (.bool true)], args := [d] }
  | _ => none }
def fnExactTableBackRow : OpenClaim := { program := "ytliimffphokmpaa", sum := "769467542539012bf748c631a6c3dbd4e304a03e5974fd3b7af60169d7a6d1de", func := "loop.example/symmetricsums/laws.FnExactTableBack", spec := "fnExactTableBack", inPlace := ["(*sync.WaitGroup).Add", "internal/race.ReleaseMerge", "internal/race.Disable", "internal/race.Enable", "internal/synctest.IsInBubble", "internal/synctest.Associate[sync.WaitGroup]", "sync.fatal", "sync/atomic.OrUint64", "sync/atomic.AddUint64", "internal/race.Read", "sync/atomic.LoadUint64", "sync/atomic.StoreUint64", "internal/synctest.Disassociate[sync.WaitGroup]", "sync.runtime_Semrelease", "(*sync.WaitGroup).Done", "(*sync.WaitGroup).Wait", "internal/race.Acquire", "internal/synctest.IsAssociated[sync.WaitGroup]", "sync/atomic.CompareAndSwapUint64", "internal/race.Write", "sync.runtime_SemacquireWaitGroup"], unfollowed := true, recurses := true, plainKeys := false, leaving := true, apart := false }
def FnExactTableBackSaid : Prop := fnExactTableBackRow.holds Try.pinned (OpenSpec.ofChange fnExactTableBackSpec)

/-- ITS FALSE NEIGHBOUR: 'it returns false'. Refute it at one input. -/
def fnExactTableBackWrong : ChangeSpec := { name := "fnExactTableBack", fn := fun _ => fun
  | [d] => { results := [.lit (.bool false)], args := [d] }
  | _ => none }
def FnExactTableBackWrongFalsely : Prop := fnExactTableBackRow.holds Try.pinned (OpenSpec.ofChange fnExactTableBackWrong)

/-- 'laws.FnTableOf': WHATEVER THE INPUT: true; the input reads as it did. -/
def fnTableOfSpec : ChangeSpec := { name := "fnTableOf", fn := fun _ => fun
  | [d] => { results := [.lit (.bool true)], args := [d] }
  | _ => none }
def fnTableOfRow : OpenClaim := { program := "ytliimffphokmpaa", sum := "769467542539012bf748c631a6c3dbd4e304a03e5974fd3b7af60169d7a6d1de", func := "loop.example/symmetricsums/laws.FnTableOf", spec := "fnTableOf", inPlace := ["(*sync.WaitGroup).Add", "internal/race.ReleaseMerge", "internal/race.Disable", "internal/race.Enable", "internal/synctest.IsInBubble", "internal/synctest.Associate[sync.WaitGroup]", "sync.fatal", "sync/atomic.OrUint64", "sync/atomic.AddUint64", "internal/race.Read", "sync/atomic.LoadUint64", "sync/atomic.StoreUint64", "internal/synctest.Disassociate[sync.WaitGroup]", "sync.runtime_Semrelease", "(*sync.WaitGroup).Done", "(*sync.WaitGroup).Wait", "internal/race.Acquire", "internal/synctest.IsAssociated[sync.WaitGroup]", "sync/atomic.CompareAndSwapUint64", "internal/race.Write", "sync.runtime_SemacquireWaitGroup"], unfollowed := true, recurses := true, plainKeys := false, leaving := true, apart := false }
def FnTableOfSaid : Prop := fnTableOfRow.holds Try.pinned (OpenSpec.ofChange fnTableOfSpec)

/-- ITS FALSE NEIGHBOUR: 'it returns false'. Refute it at one input. -/
def fnTableOfWrong : ChangeSpec := { name := "fnTableOf", fn := fun _ => fun
  | [d] => { results := [.lit (.bool false)], args := [d] }
  | _ => none }
def FnTableOfWrongFalsely : Prop := fnTableOfRow.holds Try.pinned (OpenSpec.ofChange fnTableOfWrong)

/-- 'laws.FnTableBack': WHATEVER THE INPUT: true; the input reads as it did. -/
def fnTableBackSpec : ChangeSpec := { name := "fnTableBack", fn := fun _ => fun
  | [d] => { results := [.lit (.bool true)], args := [d] }
  | _ => none }
def fnTableBackRow : OpenClaim := { program := "ytliimffphokmpaa", sum := "769467542539012bf748c631a6c3dbd4e304a03e5974fd3b7af60169d7a6d1de", func := "loop.example/symmetricsums/laws.FnTableBack", spec := "fnTableBack", inPlace := ["(*sync.WaitGroup).Add", "internal/race.ReleaseMerge", "internal/race.Disable", "internal/race.Enable", "internal/synctest.IsInBubble", "internal/synctest.Associate[sync.WaitGroup]", "sync.fatal", "sync/atomic.OrUint64", "sync/atomic.AddUint64", "internal/race.Read", "sync/atomic.LoadUint64", "sync/atomic.StoreUint64", "internal/synctest.Disassociate[sync.WaitGroup]", "sync.runtime_Semrelease", "(*sync.WaitGroup).Done", "(*sync.WaitGroup).Wait", "internal/race.Acquire", "internal/synctest.IsAssociated[sync.WaitGroup]", "sync/atomic.CompareAndSwapUint64", "internal/race.Write", "sync.runtime_SemacquireWaitGroup"], unfollowed := true, recurses := true, plainKeys := false, leaving := true, apart := false }
def FnTableBackSaid : Prop := fnTableBackRow.holds Try.pinned (OpenSpec.ofChange fnTableBackSpec)

/-- ITS FALSE NEIGHBOUR: 'it returns false'. Refute it at one input. -/
def fnTableBackWrong : ChangeSpec := { name := "fnTableBack", fn := fun _ => fun
  | [d] => { results := [.lit (.bool false)], args := [d] }
  | _ => none }
def FnTableBackWrongFalsely : Prop := fnTableBackRow.holds Try.pinned (OpenSpec.ofChange fnTableBackWrong)

/- THE SECOND FORM. 'bulk': how many values and letters a reading holds, each counted each time it is reached (what is shared counts as often as it is met; a slice's spare places count too). A statement '..UptoSaid' is the law's where the arguments, and the package variables that the reading takes, are together of bulk at most 1048576: NARROWER than '..Said'. Prove '..Said' where nothing that the law and all that it calls make is longer than what came in: it says more and counts as full. Else prove '..UptoSaid'. A law counts once. -/
mutual
def uptoBulk {H : Type} : DataW H → Nat
  | .lit (.string bytes) => bytes.length + 1
  | .lit _ => 1
  | .nil => 1
  | .ptr d => uptoBulk d + 1
  | .slice elems spare => uptoBulkAll elems + uptoBulkAll spare + 1
  | .agg parts => uptoBulkAll parts + 1
  | .iface _ d => uptoBulk d + 1
  | .map entries => uptoBulkEntries entries + 1
  | .held _ => 1
def uptoBulkAll {H : Type} : List (DataW H) → Nat
  | [] => 0
  | d :: r => uptoBulk d + uptoBulkAll r
def uptoBulkEntries {H : Type} : List (Lit × DataW H) → Nat
  | [] => 0
  | x :: r => uptoBulkEntry x + uptoBulkEntries r
def uptoBulkEntry {H : Type} : Lit × DataW H → Nat
  | (.string bytes, d) => bytes.length + uptoBulk d + 1
  | (_, d) => uptoBulk d + 1
 end
def uptoSmall : (H : Type) → List (DataW H) → Bool := fun _ ds => decide (uptoBulkAll ds ≤ 1048576)
def OpenSpec.upto (s : _root_.Go.ChangeSpec) : _root_.Go.OpenSpec := { _root_.Go.OpenSpec.ofChange s with cond := some uptoSmall }

/-- 'laws.FnAtShare', WHERE WHAT IT READS IS OF BULK AT MOST 1048576: true; the input reads as it did. -/
def fnAtShareUptoRow : OpenClaim := { program := "ytliimffphokmpaa", sum := "769467542539012bf748c631a6c3dbd4e304a03e5974fd3b7af60169d7a6d1de", func := "loop.example/symmetricsums/laws.FnAtShare", spec := "fnAtShare", unfollowed := true, recurses := true, plainKeys := false, leaving := true, apart := false, narrowed := true }
def FnAtShareUptoSaid : Prop := fnAtShareUptoRow.holds Try.pinned (OpenSpec.upto fnAtShareSpec)

/-- 'laws.FnDiagram', WHERE WHAT IT READS IS OF BULK AT MOST 1048576: true; the input reads as it did. -/
def fnDiagramUptoRow : OpenClaim := { program := "ytliimffphokmpaa", sum := "769467542539012bf748c631a6c3dbd4e304a03e5974fd3b7af60169d7a6d1de", func := "loop.example/symmetricsums/laws.FnDiagram", spec := "fnDiagram", unfollowed := true, recurses := true, plainKeys := false, leaving := true, apart := false, narrowed := true }
def FnDiagramUptoSaid : Prop := fnDiagramUptoRow.holds Try.pinned (OpenSpec.upto fnDiagramSpec)

/-- 'laws.FnSumTimes', WHERE WHAT IT READS IS OF BULK AT MOST 1048576: true; the input reads as it did. -/
def fnSumTimesUptoRow : OpenClaim := { program := "ytliimffphokmpaa", sum := "769467542539012bf748c631a6c3dbd4e304a03e5974fd3b7af60169d7a6d1de", func := "loop.example/symmetricsums/laws.FnSumTimes", spec := "fnSumTimes", unfollowed := true, recurses := true, plainKeys := false, leaving := true, apart := false, narrowed := true }
def FnSumTimesUptoSaid : Prop := fnSumTimesUptoRow.holds Try.pinned (OpenSpec.upto fnSumTimesSpec)

/-- 'laws.FnRootFrom', WHERE WHAT IT READS IS OF BULK AT MOST 1048576: true; the input reads as it did. -/
def fnRootFromUptoRow : OpenClaim := { program := "ytliimffphokmpaa", sum := "769467542539012bf748c631a6c3dbd4e304a03e5974fd3b7af60169d7a6d1de", func := "loop.example/symmetricsums/laws.FnRootFrom", spec := "fnRootFrom", unfollowed := true, recurses := true, plainKeys := false, leaving := true, apart := false, narrowed := true }
def FnRootFromUptoSaid : Prop := fnRootFromUptoRow.holds Try.pinned (OpenSpec.upto fnRootFromSpec)

/-- 'laws.FnExactSumAt', WHERE WHAT IT READS IS OF BULK AT MOST 1048576: true; the input reads as it did. -/
def fnExactSumAtUptoRow : OpenClaim := { program := "ytliimffphokmpaa", sum := "769467542539012bf748c631a6c3dbd4e304a03e5974fd3b7af60169d7a6d1de", func := "loop.example/symmetricsums/laws.FnExactSumAt", spec := "fnExactSumAt", unfollowed := true, recurses := true, plainKeys := false, leaving := true, apart := false, narrowed := true }
def FnExactSumAtUptoSaid : Prop := fnExactSumAtUptoRow.holds Try.pinned (OpenSpec.upto fnExactSumAtSpec)

/-- 'laws.FnSumAt', WHERE WHAT IT READS IS OF BULK AT MOST 1048576: true; the input reads as it did. -/
def fnSumAtUptoRow : OpenClaim := { program := "ytliimffphokmpaa", sum := "769467542539012bf748c631a6c3dbd4e304a03e5974fd3b7af60169d7a6d1de", func := "loop.example/symmetricsums/laws.FnSumAt", spec := "fnSumAt", unfollowed := true, recurses := true, plainKeys := false, leaving := true, apart := false, narrowed := true }
def FnSumAtUptoSaid : Prop := fnSumAtUptoRow.holds Try.pinned (OpenSpec.upto fnSumAtSpec)

/-- 'laws.FnSumAdd', WHERE WHAT IT READS IS OF BULK AT MOST 1048576: true; the input reads as it did. -/
def fnSumAddUptoRow : OpenClaim := { program := "ytliimffphokmpaa", sum := "769467542539012bf748c631a6c3dbd4e304a03e5974fd3b7af60169d7a6d1de", func := "loop.example/symmetricsums/laws.FnSumAdd", spec := "fnSumAdd", unfollowed := true, recurses := true, plainKeys := false, leaving := true, apart := false, narrowed := true }
def FnSumAddUptoSaid : Prop := fnSumAddUptoRow.holds Try.pinned (OpenSpec.upto fnSumAddSpec)

/-- 'laws.FnExactTableOf', WHERE WHAT IT READS IS OF BULK AT MOST 1048576: true; the input reads as it did. -/
def fnExactTableOfUptoRow : OpenClaim := { program := "ytliimffphokmpaa", sum := "769467542539012bf748c631a6c3dbd4e304a03e5974fd3b7af60169d7a6d1de", func := "loop.example/symmetricsums/laws.FnExactTableOf", spec := "fnExactTableOf", inPlace := ["(*sync.WaitGroup).Add", "internal/race.ReleaseMerge", "internal/race.Disable", "internal/race.Enable", "internal/synctest.IsInBubble", "internal/synctest.Associate[sync.WaitGroup]", "sync.fatal", "sync/atomic.OrUint64", "sync/atomic.AddUint64", "internal/race.Read", "sync/atomic.LoadUint64", "sync/atomic.StoreUint64", "internal/synctest.Disassociate[sync.WaitGroup]", "sync.runtime_Semrelease", "(*sync.WaitGroup).Done", "(*sync.WaitGroup).Wait", "internal/race.Acquire", "internal/synctest.IsAssociated[sync.WaitGroup]", "sync/atomic.CompareAndSwapUint64", "internal/race.Write", "sync.runtime_SemacquireWaitGroup"], unfollowed := true, recurses := true, plainKeys := false, leaving := true, apart := false, narrowed := true }
def FnExactTableOfUptoSaid : Prop := fnExactTableOfUptoRow.holds Try.pinned (OpenSpec.upto fnExactTableOfSpec)

/-- 'laws.FnExactTableBack', WHERE WHAT IT READS IS OF BULK AT MOST 1048576: true; the input reads as it did. -/
def fnExactTableBackUptoRow : OpenClaim := { program := "ytliimffphokmpaa", sum := "769467542539012bf748c631a6c3dbd4e304a03e5974fd3b7af60169d7a6d1de", func := "loop.example/symmetricsums/laws.FnExactTableBack", spec := "fnExactTableBack", inPlace := ["(*sync.WaitGroup).Add", "internal/race.ReleaseMerge", "internal/race.Disable", "internal/race.Enable", "internal/synctest.IsInBubble", "internal/synctest.Associate[sync.WaitGroup]", "sync.fatal", "sync/atomic.OrUint64", "sync/atomic.AddUint64", "internal/race.Read", "sync/atomic.LoadUint64", "sync/atomic.StoreUint64", "internal/synctest.Disassociate[sync.WaitGroup]", "sync.runtime_Semrelease", "(*sync.WaitGroup).Done", "(*sync.WaitGroup).Wait", "internal/race.Acquire", "internal/synctest.IsAssociated[sync.WaitGroup]", "sync/atomic.CompareAndSwapUint64", "internal/race.Write", "sync.runtime_SemacquireWaitGroup"], unfollowed := true, recurses := true, plainKeys := false, leaving := true, apart := false, narrowed := true }
def FnExactTableBackUptoSaid : Prop := fnExactTableBackUptoRow.holds Try.pinned (OpenSpec.upto fnExactTableBackSpec)

/-- 'laws.FnTableOf', WHERE WHAT IT READS IS OF BULK AT MOST 1048576: true; the input reads as it did. -/
def fnTableOfUptoRow : OpenClaim := { program := "ytliimffphokmpaa", sum := "769467542539012bf748c631a6c3dbd4e304a03e5974fd3b7af60169d7a6d1de", func := "loop.example/symmetricsums/laws.FnTableOf", spec := "fnTableOf", inPlace := ["(*sync.WaitGroup).Add", "internal/race.ReleaseMerge", "internal/race.Disable", "internal/race.Enable", "internal/synctest.IsInBubble", "internal/synctest.Associate[sync.WaitGroup]", "sync.fatal", "sync/atomic.OrUint64", "sync/atomic.AddUint64", "internal/race.Read", "sync/atomic.LoadUint64", "sync/atomic.StoreUint64", "internal/synctest.Disassociate[sync.WaitGroup]", "sync.runtime_Semrelease", "(*sync.WaitGroup).Done", "(*sync.WaitGroup).Wait", "internal/race.Acquire", "internal/synctest.IsAssociated[sync.WaitGroup]", "sync/atomic.CompareAndSwapUint64", "internal/race.Write", "sync.runtime_SemacquireWaitGroup"], unfollowed := true, recurses := true, plainKeys := false, leaving := true, apart := false, narrowed := true }
def FnTableOfUptoSaid : Prop := fnTableOfUptoRow.holds Try.pinned (OpenSpec.upto fnTableOfSpec)

/-- 'laws.FnTableBack', WHERE WHAT IT READS IS OF BULK AT MOST 1048576: true; the input reads as it did. -/
def fnTableBackUptoRow : OpenClaim := { program := "ytliimffphokmpaa", sum := "769467542539012bf748c631a6c3dbd4e304a03e5974fd3b7af60169d7a6d1de", func := "loop.example/symmetricsums/laws.FnTableBack", spec := "fnTableBack", inPlace := ["(*sync.WaitGroup).Add", "internal/race.ReleaseMerge", "internal/race.Disable", "internal/race.Enable", "internal/synctest.IsInBubble", "internal/synctest.Associate[sync.WaitGroup]", "sync.fatal", "sync/atomic.OrUint64", "sync/atomic.AddUint64", "internal/race.Read", "sync/atomic.LoadUint64", "sync/atomic.StoreUint64", "internal/synctest.Disassociate[sync.WaitGroup]", "sync.runtime_Semrelease", "(*sync.WaitGroup).Done", "(*sync.WaitGroup).Wait", "internal/race.Acquire", "internal/synctest.IsAssociated[sync.WaitGroup]", "sync/atomic.CompareAndSwapUint64", "internal/race.Write", "sync.runtime_SemacquireWaitGroup"], unfollowed := true, recurses := true, plainKeys := false, leaving := true, apart := false, narrowed := true }
def FnTableBackUptoSaid : Prop := fnTableBackUptoRow.holds Try.pinned (OpenSpec.upto fnTableBackSpec)

end Rows
end Go.Proofs.Ytliimffphokmpaa
