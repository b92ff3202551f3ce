/-
  No cell of these rows narrows 'for every input' (looked for: loops, veiled, ifaces, maps, wideKeys, modest, calm, conditions, laid).
  DERIVED. THE GIVEN ROWS OF THIS SEAT. 12 by the template 'for every input the law returns true; each argument reads behind the call as it read before'; 0 by the template 'total and deterministic' (their statements: YtnablcacdfebfacTotals.lean).
  GIVEN WITH THE SEED: the statements are not yours to turn. If you find one false, say at which input.
  Laid BY PROGRAM, IN A SANDBOX (cutbox-rows.mjs): the forced cells as the released guide's own fill.sh prints them over the translation 7d58dc00ab7e6db0… (all of the seat's roots in one cut). By AI agents, Wed Nov 11 2026. No macro, syntax, notation, axiom, sorry.
-/
import Derived.Test.YtnablcacdfebfacChecked
import GoSem.Claim
import GoSem.ClaimJoined
import GoSem.ClaimMapViews
import Derived.JoinedTies
import Derived.KernelRfl
namespace Go.Proofs.Ytnablcacdfebfac
/- THE CELL 'sum', in the pinned program and in every row, IS THE sha256 OF THE DUMP (.gsa) THAT YtnablcacdfebfacProg.lean LOADS. Nothing in Lean hashes anything: it is a label: what it is worth is what the hold of that sum in a sandbox is worth. -/
noncomputable def Try.pinned : Pinned := { name := "ytnablcacdfebfac", sum := "7d58dc00ab7e6db0f9f365e8c079e754c8745f88ccbb9243c468a368a8620043", checked := Try.checked }
namespace Rows
def none {H : Type} : Left H := { results := [], args := [] }

/-- 'laws.FnTableDiagram': WHATEVER THE INPUT: true; the input reads as it did. -/
def fnTableDiagramSpec : ChangeSpec := { name := "fnTableDiagram", fn := fun _ => fun
  | [d] => { results := [.lit (.bool true)], args := [d] }
  | _ => none }
def fnTableDiagramRow : OpenClaim := { program := "ytnablcacdfebfac", sum := "7d58dc00ab7e6db0f9f365e8c079e754c8745f88ccbb9243c468a368a8620043", func := "loop.example/symmetricsums/laws.FnTableDiagram", spec := "fnTableDiagram", unfollowed := true, recurses := true, plainKeys := false, leaving := true, apart := false }
def FnTableDiagramSaid : Prop := fnTableDiagramRow.holds Try.pinned (OpenSpec.ofChange fnTableDiagramSpec)

/-- ITS FALSE NEIGHBOUR: 'it returns false'. Refute it at one input. -/
def fnTableDiagramWrong : ChangeSpec := { name := "fnTableDiagram", fn := fun _ => fun
  | [d] => { results := [.lit (.bool false)], args := [d] }
  | _ => none }
def FnTableDiagramWrongFalsely : Prop := fnTableDiagramRow.holds Try.pinned (OpenSpec.ofChange fnTableDiagramWrong)

/-- 'laws.FnTableOf': WHATEVER THE INPUT: true; the input reads as it did. -/
def fnTableOfSpec : ChangeSpec := { name := "fnTableOf", fn := fun _ => fun
  | [d] => { results := [.lit (.bool true)], args := [d] }
  | _ => none }
def fnTableOfRow : OpenClaim := { program := "ytnablcacdfebfac", sum := "7d58dc00ab7e6db0f9f365e8c079e754c8745f88ccbb9243c468a368a8620043", func := "loop.example/symmetricsums/laws.FnTableOf", spec := "fnTableOf", inPlace := ["(*sync.WaitGroup).Add", "internal/race.ReleaseMerge", "internal/race.Disable", "internal/race.Enable", "internal/synctest.IsInBubble", "internal/synctest.Associate[sync.WaitGroup]", "sync.fatal", "sync/atomic.OrUint64", "sync/atomic.AddUint64", "internal/race.Read", "sync/atomic.LoadUint64", "sync/atomic.StoreUint64", "internal/synctest.Disassociate[sync.WaitGroup]", "sync.runtime_Semrelease", "(*sync.WaitGroup).Done", "(*sync.WaitGroup).Wait", "internal/race.Acquire", "internal/synctest.IsAssociated[sync.WaitGroup]", "sync/atomic.CompareAndSwapUint64", "internal/race.Write", "sync.runtime_SemacquireWaitGroup"], unfollowed := true, recurses := true, plainKeys := false, leaving := true, apart := false }
def FnTableOfSaid : Prop := fnTableOfRow.holds Try.pinned (OpenSpec.ofChange fnTableOfSpec)

/-- ITS FALSE NEIGHBOUR: 'it returns false'. Refute it at one input. -/
def fnTableOfWrong : ChangeSpec := { name := "fnTableOf", fn := fun _ => fun
  | [d] => { results := [.lit (.bool false)], args := [d] }
  | _ => none }
def FnTableOfWrongFalsely : Prop := fnTableOfRow.holds Try.pinned (OpenSpec.ofChange fnTableOfWrong)

/-- 'laws.FnTableBack': WHATEVER THE INPUT: true; the input reads as it did. -/
def fnTableBackSpec : ChangeSpec := { name := "fnTableBack", fn := fun _ => fun
  | [d] => { results := [.lit (.bool true)], args := [d] }
  | _ => none }
def fnTableBackRow : OpenClaim := { program := "ytnablcacdfebfac", sum := "7d58dc00ab7e6db0f9f365e8c079e754c8745f88ccbb9243c468a368a8620043", func := "loop.example/symmetricsums/laws.FnTableBack", spec := "fnTableBack", inPlace := ["(*sync.WaitGroup).Add", "internal/race.ReleaseMerge", "internal/race.Disable", "internal/race.Enable", "internal/synctest.IsInBubble", "internal/synctest.Associate[sync.WaitGroup]", "sync.fatal", "sync/atomic.OrUint64", "sync/atomic.AddUint64", "internal/race.Read", "sync/atomic.LoadUint64", "sync/atomic.StoreUint64", "internal/synctest.Disassociate[sync.WaitGroup]", "sync.runtime_Semrelease", "(*sync.WaitGroup).Done", "(*sync.WaitGroup).Wait", "internal/race.Acquire", "internal/synctest.IsAssociated[sync.WaitGroup]", "sync/atomic.CompareAndSwapUint64", "internal/race.Write", "sync.runtime_SemacquireWaitGroup"], unfollowed := true, recurses := true, plainKeys := false, leaving := true, apart := false }
def FnTableBackSaid : Prop := fnTableBackRow.holds Try.pinned (OpenSpec.ofChange fnTableBackSpec)

/-- ITS FALSE NEIGHBOUR: 'it returns false'. Refute it at one input. -/
def fnTableBackWrong : ChangeSpec := { name := "fnTableBack", fn := fun _ => fun
  | [d] => { results := [.lit (.bool false)], args := [d] }
  | _ => none }
def FnTableBackWrongFalsely : Prop := fnTableBackRow.holds Try.pinned (OpenSpec.ofChange fnTableBackWrong)

/-- 'laws.FnSigns': WHATEVER THE INPUT: true; the input reads as it did. -/
def fnSignsSpec : ChangeSpec := { name := "fnSigns", fn := fun _ => fun
  | [d] => { results := [.lit (.bool true)], args := [d] }
  | _ => none }
def fnSignsRow : OpenClaim := { program := "ytnablcacdfebfac", sum := "7d58dc00ab7e6db0f9f365e8c079e754c8745f88ccbb9243c468a368a8620043", func := "loop.example/symmetricsums/laws.FnSigns", spec := "fnSigns", unfollowed := true, recurses := true, plainKeys := false, leaving := true, apart := false }
def FnSignsSaid : Prop := fnSignsRow.holds Try.pinned (OpenSpec.ofChange fnSignsSpec)

/-- ITS FALSE NEIGHBOUR: 'it returns false'. Refute it at one input. -/
def fnSignsWrong : ChangeSpec := { name := "fnSigns", fn := fun _ => fun
  | [d] => { results := [.lit (.bool false)], args := [d] }
  | _ => none }
def FnSignsWrongFalsely : Prop := fnSignsRow.holds Try.pinned (OpenSpec.ofChange fnSignsWrong)

/-- 'laws.FnSignsSquare': WHATEVER THE INPUT: true; the input reads as it did. -/
def fnSignsSquareSpec : ChangeSpec := { name := "fnSignsSquare", fn := fun _ => fun
  | [d] => { results := [.lit (.bool true)], args := [d] }
  | _ => none }
def fnSignsSquareRow : OpenClaim := { program := "ytnablcacdfebfac", sum := "7d58dc00ab7e6db0f9f365e8c079e754c8745f88ccbb9243c468a368a8620043", func := "loop.example/symmetricsums/laws.FnSignsSquare", spec := "fnSignsSquare", unfollowed := true, recurses := true, plainKeys := false, leaving := true, apart := false }
def FnSignsSquareSaid : Prop := fnSignsSquareRow.holds Try.pinned (OpenSpec.ofChange fnSignsSquareSpec)

/-- ITS FALSE NEIGHBOUR: 'it returns false'. Refute it at one input. -/
def fnSignsSquareWrong : ChangeSpec := { name := "fnSignsSquare", fn := fun _ => fun
  | [d] => { results := [.lit (.bool false)], args := [d] }
  | _ => none }
def FnSignsSquareWrongFalsely : Prop := fnSignsSquareRow.holds Try.pinned (OpenSpec.ofChange fnSignsSquareWrong)

/-- 'laws.FnExactShareIn': WHATEVER THE INPUT: true; the input reads as it did. -/
def fnExactShareInSpec : ChangeSpec := { name := "fnExactShareIn", fn := fun _ => fun
  | [d] => { results := [.lit (.bool true)], args := [d] }
  | _ => none }
def fnExactShareInRow : OpenClaim := { program := "ytnablcacdfebfac", sum := "7d58dc00ab7e6db0f9f365e8c079e754c8745f88ccbb9243c468a368a8620043", func := "loop.example/symmetricsums/laws.FnExactShareIn", spec := "fnExactShareIn", plainKeys := false, apart := false }
def FnExactShareInSaid : Prop := fnExactShareInRow.holds Try.pinned (OpenSpec.ofChange fnExactShareInSpec)

/-- ITS FALSE NEIGHBOUR: 'it returns false'. Refute it at one input. -/
def fnExactShareInWrong : ChangeSpec := { name := "fnExactShareIn", fn := fun _ => fun
  | [d] => { results := [.lit (.bool false)], args := [d] }
  | _ => none }
def FnExactShareInWrongFalsely : Prop := fnExactShareInRow.holds Try.pinned (OpenSpec.ofChange fnExactShareInWrong)

/-- 'laws.FnExactShareAll': WHATEVER THE INPUT: true; the input reads as it did. -/
def fnExactShareAllSpec : ChangeSpec := { name := "fnExactShareAll", fn := fun _ => fun
  | [d] => { results := [.lit (.bool true)], args := [d] }
  | _ => none }
def fnExactShareAllRow : OpenClaim := { program := "ytnablcacdfebfac", sum := "7d58dc00ab7e6db0f9f365e8c079e754c8745f88ccbb9243c468a368a8620043", func := "loop.example/symmetricsums/laws.FnExactShareAll", spec := "fnExactShareAll", unfollowed := true, recurses := true, plainKeys := false, leaving := true, apart := false }
def FnExactShareAllSaid : Prop := fnExactShareAllRow.holds Try.pinned (OpenSpec.ofChange fnExactShareAllSpec)

/-- ITS FALSE NEIGHBOUR: 'it returns false'. Refute it at one input. -/
def fnExactShareAllWrong : ChangeSpec := { name := "fnExactShareAll", fn := fun _ => fun
  | [d] => { results := [.lit (.bool false)], args := [d] }
  | _ => none }
def FnExactShareAllWrongFalsely : Prop := fnExactShareAllRow.holds Try.pinned (OpenSpec.ofChange fnExactShareAllWrong)

/-- 'laws.FnExactSharePlace': WHATEVER THE INPUT: true; the input reads as it did. -/
def fnExactSharePlaceSpec : ChangeSpec := { name := "fnExactSharePlace", fn := fun _ => fun
  | [d] => { results := [.lit (.bool true)], args := [d] }
  | _ => none }
def fnExactSharePlaceRow : OpenClaim := { program := "ytnablcacdfebfac", sum := "7d58dc00ab7e6db0f9f365e8c079e754c8745f88ccbb9243c468a368a8620043", func := "loop.example/symmetricsums/laws.FnExactSharePlace", spec := "fnExactSharePlace", unfollowed := true, recurses := true, plainKeys := false, leaving := true, apart := false }
def FnExactSharePlaceSaid : Prop := fnExactSharePlaceRow.holds Try.pinned (OpenSpec.ofChange fnExactSharePlaceSpec)

/-- ITS FALSE NEIGHBOUR: 'it returns false'. Refute it at one input. -/
def fnExactSharePlaceWrong : ChangeSpec := { name := "fnExactSharePlace", fn := fun _ => fun
  | [d] => { results := [.lit (.bool false)], args := [d] }
  | _ => none }
def FnExactSharePlaceWrongFalsely : Prop := fnExactSharePlaceRow.holds Try.pinned (OpenSpec.ofChange fnExactSharePlaceWrong)

/-- 'laws.FnExactShareTurn': WHATEVER THE INPUT: true; the input reads as it did. -/
def fnExactShareTurnSpec : ChangeSpec := { name := "fnExactShareTurn", fn := fun _ => fun
  | [d] => { results := [.lit (.bool true)], args := [d] }
  | _ => none }
def fnExactShareTurnRow : OpenClaim := { program := "ytnablcacdfebfac", sum := "7d58dc00ab7e6db0f9f365e8c079e754c8745f88ccbb9243c468a368a8620043", func := "loop.example/symmetricsums/laws.FnExactShareTurn", spec := "fnExactShareTurn", unfollowed := true, recurses := true, plainKeys := false, leaving := true, apart := false }
def FnExactShareTurnSaid : Prop := fnExactShareTurnRow.holds Try.pinned (OpenSpec.ofChange fnExactShareTurnSpec)

/-- ITS FALSE NEIGHBOUR: 'it returns false'. Refute it at one input. -/
def fnExactShareTurnWrong : ChangeSpec := { name := "fnExactShareTurn", fn := fun _ => fun
  | [d] => { results := [.lit (.bool false)], args := [d] }
  | _ => none }
def FnExactShareTurnWrongFalsely : Prop := fnExactShareTurnRow.holds Try.pinned (OpenSpec.ofChange fnExactShareTurnWrong)

/-- 'laws.FnExactShareAbove': WHATEVER THE INPUT: true; the input reads as it did. -/
def fnExactShareAboveSpec : ChangeSpec := { name := "fnExactShareAbove", fn := fun _ => fun
  | [d1, d2] => { results := [.lit (.bool true)], args := [d1, d2] }
  | _ => none }
def fnExactShareAboveRow : OpenClaim := { program := "ytnablcacdfebfac", sum := "7d58dc00ab7e6db0f9f365e8c079e754c8745f88ccbb9243c468a368a8620043", func := "loop.example/symmetricsums/laws.FnExactShareAbove", spec := "fnExactShareAbove", plainKeys := false, apart := false }
def FnExactShareAboveSaid : Prop := fnExactShareAboveRow.holds Try.pinned (OpenSpec.ofChange fnExactShareAboveSpec)

/-- ITS FALSE NEIGHBOUR: 'it returns false'. Refute it at one input. -/
def fnExactShareAboveWrong : ChangeSpec := { name := "fnExactShareAbove", fn := fun _ => fun
  | [d1, d2] => { results := [.lit (.bool false)], args := [d1, d2] }
  | _ => none }
def FnExactShareAboveWrongFalsely : Prop := fnExactShareAboveRow.holds Try.pinned (OpenSpec.ofChange fnExactShareAboveWrong)

/-- 'laws.FnExactShareJoin': WHATEVER THE INPUT: true; the input reads as it did. -/
def fnExactShareJoinSpec : ChangeSpec := { name := "fnExactShareJoin", fn := fun _ => fun
  | [d1, d2] => { results := [.lit (.bool true)], args := [d1, d2] }
  | _ => none }
def fnExactShareJoinRow : OpenClaim := { program := "ytnablcacdfebfac", sum := "7d58dc00ab7e6db0f9f365e8c079e754c8745f88ccbb9243c468a368a8620043", func := "loop.example/symmetricsums/laws.FnExactShareJoin", spec := "fnExactShareJoin", recurses := true, plainKeys := false, apart := false }
def FnExactShareJoinSaid : Prop := fnExactShareJoinRow.holds Try.pinned (OpenSpec.ofChange fnExactShareJoinSpec)

/-- ITS FALSE NEIGHBOUR: 'it returns false'. Refute it at one input. -/
def fnExactShareJoinWrong : ChangeSpec := { name := "fnExactShareJoin", fn := fun _ => fun
  | [d1, d2] => { results := [.lit (.bool false)], args := [d1, d2] }
  | _ => none }
def FnExactShareJoinWrongFalsely : Prop := fnExactShareJoinRow.holds Try.pinned (OpenSpec.ofChange fnExactShareJoinWrong)

/-- 'laws.FnExactShareTimes': WHATEVER THE INPUT: true; the input reads as it did. -/
def fnExactShareTimesSpec : ChangeSpec := { name := "fnExactShareTimes", fn := fun _ => fun
  | [d] => { results := [.lit (.bool true)], args := [d] }
  | _ => none }
def fnExactShareTimesRow : OpenClaim := { program := "ytnablcacdfebfac", sum := "7d58dc00ab7e6db0f9f365e8c079e754c8745f88ccbb9243c468a368a8620043", func := "loop.example/symmetricsums/laws.FnExactShareTimes", spec := "fnExactShareTimes", unfollowed := true, recurses := true, plainKeys := false, leaving := true, apart := false }
def FnExactShareTimesSaid : Prop := fnExactShareTimesRow.holds Try.pinned (OpenSpec.ofChange fnExactShareTimesSpec)

/-- ITS FALSE NEIGHBOUR: 'it returns false'. Refute it at one input. -/
def fnExactShareTimesWrong : ChangeSpec := { name := "fnExactShareTimes", fn := fun _ => fun
  | [d] => { results := [.lit (.bool false)], args := [d] }
  | _ => none }
def FnExactShareTimesWrongFalsely : Prop := fnExactShareTimesRow.holds Try.pinned (OpenSpec.ofChange fnExactShareTimesWrong)

/- THE SECOND FORM. 'bulk': how many values and letters a reading holds, each counted each time it is reached (what is shared counts as often as it is met; a slice's spare places count too). A statement '..UptoSaid' is the law's where the arguments, and the package variables that the reading takes, are together of bulk at most 1048576: NARROWER than '..Said'. Prove '..Said' where nothing that the law and all that it calls make is longer than what came in: it says more and counts as full. Else prove '..UptoSaid'. A law counts once. -/
mutual
def uptoBulk {H : Type} : DataW H → Nat
  | .lit (.string bytes) => bytes.length + 1
  | .lit _ => 1
  | .nil => 1
  | .ptr d => uptoBulk d + 1
  | .slice elems spare => uptoBulkAll elems + uptoBulkAll spare + 1
  | .agg parts => uptoBulkAll parts + 1
  | .iface _ d => uptoBulk d + 1
  | .map entries => uptoBulkEntries entries + 1
  | .held _ => 1
def uptoBulkAll {H : Type} : List (DataW H) → Nat
  | [] => 0
  | d :: r => uptoBulk d + uptoBulkAll r
def uptoBulkEntries {H : Type} : List (Lit × DataW H) → Nat
  | [] => 0
  | x :: r => uptoBulkEntry x + uptoBulkEntries r
def uptoBulkEntry {H : Type} : Lit × DataW H → Nat
  | (.string bytes, d) => bytes.length + uptoBulk d + 1
  | (_, d) => uptoBulk d + 1
 end
def uptoSmall : (H : Type) → List (DataW H) → Bool := fun _ ds => decide (uptoBulkAll ds ≤ 1048576)
def OpenSpec.upto (s : _root_.Go.ChangeSpec) : _root_.Go.OpenSpec := { _root_.Go.OpenSpec.ofChange s with cond := some uptoSmall }

/-- 'laws.FnTableDiagram', WHERE WHAT IT READS IS OF BULK AT MOST 1048576: true; the input reads as it did. -/
def fnTableDiagramUptoRow : OpenClaim := { program := "ytnablcacdfebfac", sum := "7d58dc00ab7e6db0f9f365e8c079e754c8745f88ccbb9243c468a368a8620043", func := "loop.example/symmetricsums/laws.FnTableDiagram", spec := "fnTableDiagram", unfollowed := true, recurses := true, plainKeys := false, leaving := true, apart := false, narrowed := true }
def FnTableDiagramUptoSaid : Prop := fnTableDiagramUptoRow.holds Try.pinned (OpenSpec.upto fnTableDiagramSpec)

/-- 'laws.FnTableOf', WHERE WHAT IT READS IS OF BULK AT MOST 1048576: true; the input reads as it did. -/
def fnTableOfUptoRow : OpenClaim := { program := "ytnablcacdfebfac", sum := "7d58dc00ab7e6db0f9f365e8c079e754c8745f88ccbb9243c468a368a8620043", func := "loop.example/symmetricsums/laws.FnTableOf", spec := "fnTableOf", inPlace := ["(*sync.WaitGroup).Add", "internal/race.ReleaseMerge", "internal/race.Disable", "internal/race.Enable", "internal/synctest.IsInBubble", "internal/synctest.Associate[sync.WaitGroup]", "sync.fatal", "sync/atomic.OrUint64", "sync/atomic.AddUint64", "internal/race.Read", "sync/atomic.LoadUint64", "sync/atomic.StoreUint64", "internal/synctest.Disassociate[sync.WaitGroup]", "sync.runtime_Semrelease", "(*sync.WaitGroup).Done", "(*sync.WaitGroup).Wait", "internal/race.Acquire", "internal/synctest.IsAssociated[sync.WaitGroup]", "sync/atomic.CompareAndSwapUint64", "internal/race.Write", "sync.runtime_SemacquireWaitGroup"], unfollowed := true, recurses := true, plainKeys := false, leaving := true, apart := false, narrowed := true }
def FnTableOfUptoSaid : Prop := fnTableOfUptoRow.holds Try.pinned (OpenSpec.upto fnTableOfSpec)

/-- 'laws.FnTableBack', WHERE WHAT IT READS IS OF BULK AT MOST 1048576: true; the input reads as it did. -/
def fnTableBackUptoRow : OpenClaim := { program := "ytnablcacdfebfac", sum := "7d58dc00ab7e6db0f9f365e8c079e754c8745f88ccbb9243c468a368a8620043", func := "loop.example/symmetricsums/laws.FnTableBack", spec := "fnTableBack", inPlace := ["(*sync.WaitGroup).Add", "internal/race.ReleaseMerge", "internal/race.Disable", "internal/race.Enable", "internal/synctest.IsInBubble", "internal/synctest.Associate[sync.WaitGroup]", "sync.fatal", "sync/atomic.OrUint64", "sync/atomic.AddUint64", "internal/race.Read", "sync/atomic.LoadUint64", "sync/atomic.StoreUint64", "internal/synctest.Disassociate[sync.WaitGroup]", "sync.runtime_Semrelease", "(*sync.WaitGroup).Done", "(*sync.WaitGroup).Wait", "internal/race.Acquire", "internal/synctest.IsAssociated[sync.WaitGroup]", "sync/atomic.CompareAndSwapUint64", "internal/race.Write", "sync.runtime_SemacquireWaitGroup"], unfollowed := true, recurses := true, plainKeys := false, leaving := true, apart := false, narrowed := true }
def FnTableBackUptoSaid : Prop := fnTableBackUptoRow.holds Try.pinned (OpenSpec.upto fnTableBackSpec)

/-- 'laws.FnSigns', WHERE WHAT IT READS IS OF BULK AT MOST 1048576: true; the input reads as it did. -/
def fnSignsUptoRow : OpenClaim := { program := "ytnablcacdfebfac", sum := "7d58dc00ab7e6db0f9f365e8c079e754c8745f88ccbb9243c468a368a8620043", func := "loop.example/symmetricsums/laws.FnSigns", spec := "fnSigns", unfollowed := true, recurses := true, plainKeys := false, leaving := true, apart := false, narrowed := true }
def FnSignsUptoSaid : Prop := fnSignsUptoRow.holds Try.pinned (OpenSpec.upto fnSignsSpec)

/-- 'laws.FnSignsSquare', WHERE WHAT IT READS IS OF BULK AT MOST 1048576: true; the input reads as it did. -/
def fnSignsSquareUptoRow : OpenClaim := { program := "ytnablcacdfebfac", sum := "7d58dc00ab7e6db0f9f365e8c079e754c8745f88ccbb9243c468a368a8620043", func := "loop.example/symmetricsums/laws.FnSignsSquare", spec := "fnSignsSquare", unfollowed := true, recurses := true, plainKeys := false, leaving := true, apart := false, narrowed := true }
def FnSignsSquareUptoSaid : Prop := fnSignsSquareUptoRow.holds Try.pinned (OpenSpec.upto fnSignsSquareSpec)

/-- 'laws.FnExactShareIn', WHERE WHAT IT READS IS OF BULK AT MOST 1048576: true; the input reads as it did. -/
def fnExactShareInUptoRow : OpenClaim := { program := "ytnablcacdfebfac", sum := "7d58dc00ab7e6db0f9f365e8c079e754c8745f88ccbb9243c468a368a8620043", func := "loop.example/symmetricsums/laws.FnExactShareIn", spec := "fnExactShareIn", plainKeys := false, apart := false, narrowed := true }
def FnExactShareInUptoSaid : Prop := fnExactShareInUptoRow.holds Try.pinned (OpenSpec.upto fnExactShareInSpec)

/-- 'laws.FnExactShareAll', WHERE WHAT IT READS IS OF BULK AT MOST 1048576: true; the input reads as it did. -/
def fnExactShareAllUptoRow : OpenClaim := { program := "ytnablcacdfebfac", sum := "7d58dc00ab7e6db0f9f365e8c079e754c8745f88ccbb9243c468a368a8620043", func := "loop.example/symmetricsums/laws.FnExactShareAll", spec := "fnExactShareAll", unfollowed := true, recurses := true, plainKeys := false, leaving := true, apart := false, narrowed := true }
def FnExactShareAllUptoSaid : Prop := fnExactShareAllUptoRow.holds Try.pinned (OpenSpec.upto fnExactShareAllSpec)

/-- 'laws.FnExactSharePlace', WHERE WHAT IT READS IS OF BULK AT MOST 1048576: true; the input reads as it did. -/
def fnExactSharePlaceUptoRow : OpenClaim := { program := "ytnablcacdfebfac", sum := "7d58dc00ab7e6db0f9f365e8c079e754c8745f88ccbb9243c468a368a8620043", func := "loop.example/symmetricsums/laws.FnExactSharePlace", spec := "fnExactSharePlace", unfollowed := true, recurses := true, plainKeys := false, leaving := true, apart := false, narrowed := true }
def FnExactSharePlaceUptoSaid : Prop := fnExactSharePlaceUptoRow.holds Try.pinned (OpenSpec.upto fnExactSharePlaceSpec)

/-- 'laws.FnExactShareTurn', WHERE WHAT IT READS IS OF BULK AT MOST 1048576: true; the input reads as it did. -/
def fnExactShareTurnUptoRow : OpenClaim := { program := "ytnablcacdfebfac", sum := "7d58dc00ab7e6db0f9f365e8c079e754c8745f88ccbb9243c468a368a8620043", func := "loop.example/symmetricsums/laws.FnExactShareTurn", spec := "fnExactShareTurn", unfollowed := true, recurses := true, plainKeys := false, leaving := true, apart := false, narrowed := true }
def FnExactShareTurnUptoSaid : Prop := fnExactShareTurnUptoRow.holds Try.pinned (OpenSpec.upto fnExactShareTurnSpec)

/-- 'laws.FnExactShareAbove', WHERE WHAT IT READS IS OF BULK AT MOST 1048576: true; the input reads as it did. -/
def fnExactShareAboveUptoRow : OpenClaim := { program := "ytnablcacdfebfac", sum := "7d58dc00ab7e6db0f9f365e8c079e754c8745f88ccbb9243c468a368a8620043", func := "loop.example/symmetricsums/laws.FnExactShareAbove", spec := "fnExactShareAbove", plainKeys := false, apart := false, narrowed := true }
def FnExactShareAboveUptoSaid : Prop := fnExactShareAboveUptoRow.holds Try.pinned (OpenSpec.upto fnExactShareAboveSpec)

/-- 'laws.FnExactShareJoin', WHERE WHAT IT READS IS OF BULK AT MOST 1048576: true; the input reads as it did. -/
def fnExactShareJoinUptoRow : OpenClaim := { program := "ytnablcacdfebfac", sum := "7d58dc00ab7e6db0f9f365e8c079e754c8745f88ccbb9243c468a368a8620043", func := "loop.example/symmetricsums/laws.FnExactShareJoin", spec := "fnExactShareJoin", recurses := true, plainKeys := false, apart := false, narrowed := true }
def FnExactShareJoinUptoSaid : Prop := fnExactShareJoinUptoRow.holds Try.pinned (OpenSpec.upto fnExactShareJoinSpec)

/-- 'laws.FnExactShareTimes', WHERE WHAT IT READS IS OF BULK AT MOST 1048576: true; the input reads as it did. -/
def fnExactShareTimesUptoRow : OpenClaim := { program := "ytnablcacdfebfac", sum := "7d58dc00ab7e6db0f9f365e8c079e754c8745f88ccbb9243c468a368a8620043", func := "loop.example/symmetricsums/laws.FnExactShareTimes", spec := "fnExactShareTimes", unfollowed := true, recurses := true, plainKeys := false, leaving := true, apart := false, narrowed := true }
def FnExactShareTimesUptoSaid : Prop := fnExactShareTimesUptoRow.holds Try.pinned (OpenSpec.upto fnExactShareTimesSpec)

end Rows
end Go.Proofs.Ytnablcacdfebfac
