/-
  No cell of these rows narrows 'for every input' (looked for: loops, veiled, ifaces, maps, wideKeys, modest, calm, conditions, laid).
  DERIVED. THE GIVEN ROWS OF THIS SEAT. 8 by the template 'for every input the law returns true; each argument reads behind the call as it read before'; 0 by the template 'total and deterministic' (their statements: YthcdiaahpodkoacTotals.lean).
  GIVEN WITH THE SEED: the statements are not yours to turn. If you find one false, say at which input.
  Laid BY PROGRAM, IN A SANDBOX (cutbox-rows.mjs): the forced cells as the released guide's own fill.sh prints them over the translation fd595e65157c3264… (all of the seat's roots in one cut). By AI agents, Wed Nov 11 2026. No macro, syntax, notation, axiom, sorry.
-/
import Derived.Test.YthcdiaahpodkoacChecked
import GoSem.Claim
import GoSem.ClaimJoined
import GoSem.ClaimMapViews
import Derived.JoinedTies
import Derived.KernelRfl
namespace Go.Proofs.Ythcdiaahpodkoac
/- THE CELL 'sum', in the pinned program and in every row, IS THE sha256 OF THE DUMP (.gsa) THAT YthcdiaahpodkoacProg.lean LOADS. Nothing in Lean hashes anything: it is a label: what it is worth is what the hold of that sum in a sandbox is worth. -/
noncomputable def Try.pinned : Pinned := { name := "ythcdiaahpodkoac", sum := "fd595e65157c3264454fdf0f6fdfa812a1798c3b23ae46a39737ff795471745b", checked := Try.checked }
namespace Rows
def none {H : Type} : Left H := { results := [], args := [] }

/-- 'laws.FnTableDiagram': WHATEVER THE INPUT: true; the input reads as it did. -/
def fnTableDiagramSpec : ChangeSpec := { name := "fnTableDiagram", fn := fun _ => fun
  | [d] => { results := [.lit (.bool true)], args := [d] }
  | _ => none }
def fnTableDiagramRow : OpenClaim := { program := "ythcdiaahpodkoac", sum := "fd595e65157c3264454fdf0f6fdfa812a1798c3b23ae46a39737ff795471745b", func := "loop.example/symmetricsums/laws.FnTableDiagram", spec := "fnTableDiagram", unfollowed := true, recurses := true, plainKeys := false, leaving := true, apart := false }
def FnTableDiagramSaid : Prop := fnTableDiagramRow.holds Try.pinned (OpenSpec.ofChange fnTableDiagramSpec)

/-- ITS FALSE NEIGHBOUR: 'it returns false'. Refute it at one input. -/
def fnTableDiagramWrong : ChangeSpec := { name := "fnTableDiagram", fn := fun _ => fun
  | [d] => { results := [.lit (.bool false)], args := [d] }
  | _ => none }
def FnTableDiagramWrongFalsely : Prop := fnTableDiagramRow.holds Try.pinned (OpenSpec.ofChange fnTableDiagramWrong)

/-- 'laws.FnTableOf': WHATEVER THE INPUT: true; the input reads as it did. -/
def fnTableOfSpec : ChangeSpec := { name := "fnTableOf", fn := fun _ => fun
  | [d] => { results := [.lit (.bool true)], args := [d] }
  | _ => none }
def fnTableOfRow : OpenClaim := { program := "ythcdiaahpodkoac", sum := "fd595e65157c3264454fdf0f6fdfa812a1798c3b23ae46a39737ff795471745b", func := "loop.example/symmetricsums/laws.FnTableOf", spec := "fnTableOf", inPlace := ["(*sync.WaitGroup).Add", "internal/race.ReleaseMerge", "internal/race.Disable", "internal/race.Enable", "internal/synctest.IsInBubble", "internal/synctest.Associate[sync.WaitGroup]", "sync.fatal", "sync/atomic.OrUint64", "sync/atomic.AddUint64", "internal/race.Read", "sync/atomic.LoadUint64", "sync/atomic.StoreUint64", "internal/synctest.Disassociate[sync.WaitGroup]", "sync.runtime_Semrelease", "(*sync.WaitGroup).Done", "(*sync.WaitGroup).Wait", "internal/race.Acquire", "internal/synctest.IsAssociated[sync.WaitGroup]", "sync/atomic.CompareAndSwapUint64", "internal/race.Write", "sync.runtime_SemacquireWaitGroup"], unfollowed := true, recurses := true, plainKeys := false, leaving := true, apart := false }
def FnTableOfSaid : Prop := fnTableOfRow.holds Try.pinned (OpenSpec.ofChange fnTableOfSpec)

/-- ITS FALSE NEIGHBOUR: 'it returns false'. Refute it at one input. -/
def fnTableOfWrong : ChangeSpec := { name := "fnTableOf", fn := fun _ => fun
  | [d] => { results := [.lit (.bool false)], args := [d] }
  | _ => none }
def FnTableOfWrongFalsely : Prop := fnTableOfRow.holds Try.pinned (OpenSpec.ofChange fnTableOfWrong)

/-- 'laws.FnTableBack': WHATEVER THE INPUT: true; the input reads as it did. -/
def fnTableBackSpec : ChangeSpec := { name := "fnTableBack", fn := fun _ => fun
  | [d] => { results := [.lit (.bool true)], args := [d] }
  | _ => none }
def fnTableBackRow : OpenClaim := { program := "ythcdiaahpodkoac", sum := "fd595e65157c3264454fdf0f6fdfa812a1798c3b23ae46a39737ff795471745b", func := "loop.example/symmetricsums/laws.FnTableBack", spec := "fnTableBack", inPlace := ["(*sync.WaitGroup).Add", "internal/race.ReleaseMerge", "internal/race.Disable", "internal/race.Enable", "internal/synctest.IsInBubble", "internal/synctest.Associate[sync.WaitGroup]", "sync.fatal", "sync/atomic.OrUint64", "sync/atomic.AddUint64", "internal/race.Read", "sync/atomic.LoadUint64", "sync/atomic.StoreUint64", "internal/synctest.Disassociate[sync.WaitGroup]", "sync.runtime_Semrelease", "(*sync.WaitGroup).Done", "(*sync.WaitGroup).Wait", "internal/race.Acquire", "internal/synctest.IsAssociated[sync.WaitGroup]", "sync/atomic.CompareAndSwapUint64", "internal/race.Write", "sync.runtime_SemacquireWaitGroup"], unfollowed := true, recurses := true, plainKeys := false, leaving := true, apart := false }
def FnTableBackSaid : Prop := fnTableBackRow.holds Try.pinned (OpenSpec.ofChange fnTableBackSpec)

/-- ITS FALSE NEIGHBOUR: 'it returns false'. Refute it at one input. -/
def fnTableBackWrong : ChangeSpec := { name := "fnTableBack", fn := fun _ => fun
  | [d] => { results := [.lit (.bool false)], args := [d] }
  | _ => none }
def FnTableBackWrongFalsely : Prop := fnTableBackRow.holds Try.pinned (OpenSpec.ofChange fnTableBackWrong)

/-- 'laws.FnSigns': WHATEVER THE INPUT: true; the input reads as it did. -/
def fnSignsSpec : ChangeSpec := { name := "fnSigns", fn := fun _ => fun
  | [d] => { results := [.lit (.bool true)], args := [d] }
  | _ => none }
def fnSignsRow : OpenClaim := { program := "ythcdiaahpodkoac", sum := "fd595e65157c3264454fdf0f6fdfa812a1798c3b23ae46a39737ff795471745b", func := "loop.example/symmetricsums/laws.FnSigns", spec := "fnSigns", unfollowed := true, recurses := true, plainKeys := false, leaving := true, apart := false }
def FnSignsSaid : Prop := fnSignsRow.holds Try.pinned (OpenSpec.ofChange fnSignsSpec)

/-- ITS FALSE NEIGHBOUR: 'it returns false'. Refute it at one input. -/
def fnSignsWrong : ChangeSpec := { name := "fnSigns", fn := fun _ => fun
  | [d] => { results := [.lit (.bool false)], args := [d] }
  | _ => none }
def FnSignsWrongFalsely : Prop := fnSignsRow.holds Try.pinned (OpenSpec.ofChange fnSignsWrong)

/-- 'laws.FnSignsSquare': WHATEVER THE INPUT: true; the input reads as it did. -/
def fnSignsSquareSpec : ChangeSpec := { name := "fnSignsSquare", fn := fun _ => fun
  | [d] => { results := [.lit (.bool true)], args := [d] }
  | _ => none }
def fnSignsSquareRow : OpenClaim := { program := "ythcdiaahpodkoac", sum := "fd595e65157c3264454fdf0f6fdfa812a1798c3b23ae46a39737ff795471745b", func := "loop.example/symmetricsums/laws.FnSignsSquare", spec := "fnSignsSquare", unfollowed := true, recurses := true, plainKeys := false, leaving := true, apart := false }
def FnSignsSquareSaid : Prop := fnSignsSquareRow.holds Try.pinned (OpenSpec.ofChange fnSignsSquareSpec)

/-- ITS FALSE NEIGHBOUR: 'it returns false'. Refute it at one input. -/
def fnSignsSquareWrong : ChangeSpec := { name := "fnSignsSquare", fn := fun _ => fun
  | [d] => { results := [.lit (.bool false)], args := [d] }
  | _ => none }
def FnSignsSquareWrongFalsely : Prop := fnSignsSquareRow.holds Try.pinned (OpenSpec.ofChange fnSignsSquareWrong)

/-- 'laws.FnSumOf': WHATEVER THE INPUT: true; the input reads as it did. -/
def fnSumOfSpec : ChangeSpec := { name := "fnSumOf", fn := fun _ => fun
  | [d] => { results := [.lit (.bool true)], args := [d] }
  | _ => none }
def fnSumOfRow : OpenClaim := { program := "ythcdiaahpodkoac", sum := "fd595e65157c3264454fdf0f6fdfa812a1798c3b23ae46a39737ff795471745b", func := "loop.example/symmetricsums/laws.FnSumOf", spec := "fnSumOf", unfollowed := true, recurses := true, plainKeys := false, leaving := true, apart := false }
def FnSumOfSaid : Prop := fnSumOfRow.holds Try.pinned (OpenSpec.ofChange fnSumOfSpec)

/-- ITS FALSE NEIGHBOUR: 'it returns false'. Refute it at one input. -/
def fnSumOfWrong : ChangeSpec := { name := "fnSumOf", fn := fun _ => fun
  | [d] => { results := [.lit (.bool false)], args := [d] }
  | _ => none }
def FnSumOfWrongFalsely : Prop := fnSumOfRow.holds Try.pinned (OpenSpec.ofChange fnSumOfWrong)

/-- 'laws.FnSumAdd': WHATEVER THE INPUT: true; the input reads as it did. -/
def fnSumAddSpec : ChangeSpec := { name := "fnSumAdd", fn := fun _ => fun
  | [d] => { results := [.lit (.bool true)], args := [d] }
  | _ => none }
def fnSumAddRow : OpenClaim := { program := "ythcdiaahpodkoac", sum := "fd595e65157c3264454fdf0f6fdfa812a1798c3b23ae46a39737ff795471745b", func := "loop.example/symmetricsums/laws.FnSumAdd", spec := "fnSumAdd", unfollowed := true, recurses := true, plainKeys := false, leaving := true, apart := false }
def FnSumAddSaid : Prop := fnSumAddRow.holds Try.pinned (OpenSpec.ofChange fnSumAddSpec)

/-- ITS FALSE NEIGHBOUR: 'it returns false'. Refute it at one input. -/
def fnSumAddWrong : ChangeSpec := { name := "fnSumAdd", fn := fun _ => fun
  | [d] => { results := [.lit (.bool false)], args := [d] }
  | _ => none }
def FnSumAddWrongFalsely : Prop := fnSumAddRow.holds Try.pinned (OpenSpec.ofChange fnSumAddWrong)

/-- 'laws.FnSumTimes': WHATEVER THE INPUT: true; the input reads as it did. -/
def fnSumTimesSpec : ChangeSpec := { name := "fnSumTimes", fn := fun _ => fun
  | [d] => { results := [.lit (.bool true)], args := [d] }
  | _ => none }
def fnSumTimesRow : OpenClaim := { program := "ythcdiaahpodkoac", sum := "fd595e65157c3264454fdf0f6fdfa812a1798c3b23ae46a39737ff795471745b", func := "loop.example/symmetricsums/laws.FnSumTimes", spec := "fnSumTimes", unfollowed := true, recurses := true, plainKeys := false, leaving := true, apart := false }
def FnSumTimesSaid : Prop := fnSumTimesRow.holds Try.pinned (OpenSpec.ofChange fnSumTimesSpec)

/-- ITS FALSE NEIGHBOUR: 'it returns false'. Refute it at one input. -/
def fnSumTimesWrong : ChangeSpec := { name := "fnSumTimes", fn := fun _ => fun
  | [d] => { results := [.lit (.bool false)], args := [d] }
  | _ => none }
def FnSumTimesWrongFalsely : Prop := fnSumTimesRow.holds Try.pinned (OpenSpec.ofChange fnSumTimesWrong)

/- THE SECOND FORM. 'bulk': how many values and letters a reading holds, each counted each time it is reached (what is shared counts as often as it is met; a slice's spare places count too). A statement '..UptoSaid' is the law's where the arguments, and the package variables that the reading takes, are together of bulk at most 1048576: NARROWER than '..Said'. Prove '..Said' where nothing that the law and all that it calls make is longer than what came in: it says more and counts as full. Else prove '..UptoSaid'. A law counts once. -/
mutual
def uptoBulk {H : Type} : DataW H → Nat
  | .lit (.string bytes) => bytes.length + 1
  | .lit _ => 1
  | .nil => 1
  | .ptr d => uptoBulk d + 1
  | .slice elems spare => uptoBulkAll elems + uptoBulkAll spare + 1
  | .agg parts => uptoBulkAll parts + 1
  | .iface _ d => uptoBulk d + 1
  | .map entries => uptoBulkEntries entries + 1
  | .held _ => 1
def uptoBulkAll {H : Type} : List (DataW H) → Nat
  | [] => 0
  | d :: r => uptoBulk d + uptoBulkAll r
def uptoBulkEntries {H : Type} : List (Lit × DataW H) → Nat
  | [] => 0
  | x :: r => uptoBulkEntry x + uptoBulkEntries r
def uptoBulkEntry {H : Type} : Lit × DataW H → Nat
  | (.string bytes, d) => bytes.length + uptoBulk d + 1
  | (_, d) => uptoBulk d + 1
 end
def uptoSmall : (H : Type) → List (DataW H) → Bool := fun _ ds => decide (uptoBulkAll ds ≤ 1048576)
def OpenSpec.upto (s : _root_.Go.ChangeSpec) : _root_.Go.OpenSpec := { _root_.Go.OpenSpec.ofChange s with cond := some uptoSmall }

/-- 'laws.FnTableDiagram', WHERE WHAT IT READS IS OF BULK AT MOST 1048576: true; the input reads as it did. -/
def fnTableDiagramUptoRow : OpenClaim := { program := "ythcdiaahpodkoac", sum := "fd595e65157c3264454fdf0f6fdfa812a1798c3b23ae46a39737ff795471745b", func := "loop.example/symmetricsums/laws.FnTableDiagram", spec := "fnTableDiagram", unfollowed := true, recurses := true, plainKeys := false, leaving := true, apart := false, narrowed := true }
def FnTableDiagramUptoSaid : Prop := fnTableDiagramUptoRow.holds Try.pinned (OpenSpec.upto fnTableDiagramSpec)

/-- 'laws.FnTableOf', WHERE WHAT IT READS IS OF BULK AT MOST 1048576: true; the input reads as it did. -/
def fnTableOfUptoRow : OpenClaim := { program := "ythcdiaahpodkoac", sum := "fd595e65157c3264454fdf0f6fdfa812a1798c3b23ae46a39737ff795471745b", func := "loop.example/symmetricsums/laws.FnTableOf", spec := "fnTableOf", inPlace := ["(*sync.WaitGroup).Add", "internal/race.ReleaseMerge", "internal/race.Disable", "internal/race.Enable", "internal/synctest.IsInBubble", "internal/synctest.Associate[sync.WaitGroup]", "sync.fatal", "sync/atomic.OrUint64", "sync/atomic.AddUint64", "internal/race.Read", "sync/atomic.LoadUint64", "sync/atomic.StoreUint64", "internal/synctest.Disassociate[sync.WaitGroup]", "sync.runtime_Semrelease", "(*sync.WaitGroup).Done", "(*sync.WaitGroup).Wait", "internal/race.Acquire", "internal/synctest.IsAssociated[sync.WaitGroup]", "sync/atomic.CompareAndSwapUint64", "internal/race.Write", "sync.runtime_SemacquireWaitGroup"], unfollowed := true, recurses := true, plainKeys := false, leaving := true, apart := false, narrowed := true }
def FnTableOfUptoSaid : Prop := fnTableOfUptoRow.holds Try.pinned (OpenSpec.upto fnTableOfSpec)

/-- 'laws.FnTableBack', WHERE WHAT IT READS IS OF BULK AT MOST 1048576: true; the input reads as it did. -/
def fnTableBackUptoRow : OpenClaim := { program := "ythcdiaahpodkoac", sum := "fd595e65157c3264454fdf0f6fdfa812a1798c3b23ae46a39737ff795471745b", func := "loop.example/symmetricsums/laws.FnTableBack", spec := "fnTableBack", inPlace := ["(*sync.WaitGroup).Add", "internal/race.ReleaseMerge", "internal/race.Disable", "internal/race.Enable", "internal/synctest.IsInBubble", "internal/synctest.Associate[sync.WaitGroup]", "sync.fatal", "sync/atomic.OrUint64", "sync/atomic.AddUint64", "internal/race.Read", "sync/atomic.LoadUint64", "sync/atomic.StoreUint64", "internal/synctest.Disassociate[sync.WaitGroup]", "sync.runtime_Semrelease", "(*sync.WaitGroup).Done", "(*sync.WaitGroup).Wait", "internal/race.Acquire", "internal/synctest.IsAssociated[sync.WaitGroup]", "sync/atomic.CompareAndSwapUint64", "internal/race.Write", "sync.runtime_SemacquireWaitGroup"], unfollowed := true, recurses := true, plainKeys := false, leaving := true, apart := false, narrowed := true }
def FnTableBackUptoSaid : Prop := fnTableBackUptoRow.holds Try.pinned (OpenSpec.upto fnTableBackSpec)

/-- 'laws.FnSigns', WHERE WHAT IT READS IS OF BULK AT MOST 1048576: true; the input reads as it did. -/
def fnSignsUptoRow : OpenClaim := { program := "ythcdiaahpodkoac", sum := "fd595e65157c3264454fdf0f6fdfa812a1798c3b23ae46a39737ff795471745b", func := "loop.example/symmetricsums/laws.FnSigns", spec := "fnSigns", unfollowed := true, recurses := true, plainKeys := false, leaving := true, apart := false, narrowed := true }
def FnSignsUptoSaid : Prop := fnSignsUptoRow.holds Try.pinned (OpenSpec.upto fnSignsSpec)

/-- 'laws.FnSignsSquare', WHERE WHAT IT READS IS OF BULK AT MOST 1048576: true; the input reads as it did. -/
def fnSignsSquareUptoRow : OpenClaim := { program := "ythcdiaahpodkoac", sum := "fd595e65157c3264454fdf0f6fdfa812a1798c3b23ae46a39737ff795471745b", func := "loop.example/symmetricsums/laws.FnSignsSquare", spec := "fnSignsSquare", unfollowed := true, recurses := true, plainKeys := false, leaving := true, apart := false, narrowed := true }
def FnSignsSquareUptoSaid : Prop := fnSignsSquareUptoRow.holds Try.pinned (OpenSpec.upto fnSignsSquareSpec)

/-- 'laws.FnSumOf', WHERE WHAT IT READS IS OF BULK AT MOST 1048576: true; the input reads as it did. -/
def fnSumOfUptoRow : OpenClaim := { program := "ythcdiaahpodkoac", sum := "fd595e65157c3264454fdf0f6fdfa812a1798c3b23ae46a39737ff795471745b", func := "loop.example/symmetricsums/laws.FnSumOf", spec := "fnSumOf", unfollowed := true, recurses := true, plainKeys := false, leaving := true, apart := false, narrowed := true }
def FnSumOfUptoSaid : Prop := fnSumOfUptoRow.holds Try.pinned (OpenSpec.upto fnSumOfSpec)

/-- 'laws.FnSumAdd', WHERE WHAT IT READS IS OF BULK AT MOST 1048576: true; the input reads as it did. -/
def fnSumAddUptoRow : OpenClaim := { program := "ythcdiaahpodkoac", sum := "fd595e65157c3264454fdf0f6fdfa812a1798c3b23ae46a39737ff795471745b", func := "loop.example/symmetricsums/laws.FnSumAdd", spec := "fnSumAdd", unfollowed := true, recurses := true, plainKeys := false, leaving := true, apart := false, narrowed := true }
def FnSumAddUptoSaid : Prop := fnSumAddUptoRow.holds Try.pinned (OpenSpec.upto fnSumAddSpec)

/-- 'laws.FnSumTimes', WHERE WHAT IT READS IS OF BULK AT MOST 1048576: true; the input reads as it did. -/
def fnSumTimesUptoRow : OpenClaim := { program := "ythcdiaahpodkoac", sum := "fd595e65157c3264454fdf0f6fdfa812a1798c3b23ae46a39737ff795471745b", func := "loop.example/symmetricsums/laws.FnSumTimes", spec := "fnSumTimes", unfollowed := true, recurses := true, plainKeys := false, leaving := true, apart := false, narrowed := true }
def FnSumTimesUptoSaid : Prop := fnSumTimesUptoRow.holds Try.pinned (OpenSpec.upto fnSumTimesSpec)

end Rows
end Go.Proofs.Ythcdiaahpodkoac
