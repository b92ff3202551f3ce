/-
  No cell of these rows narrows 'for every input' (looked for: loops, veiled, ifaces, maps, wideKeys, modest, calm, conditions, laid).
  DERIVED. THE GIVEN ROWS OF THIS SEAT. 10 by the template 'for every input the law returns true; each argument reads behind the call as it read before'; 0 by the template 'total and deterministic' (their statements: YtadmpiidofncpacTotals.lean).
  GIVEN WITH THE SEED: the statements are not yours to turn. If you find one false, say at which input.
  Laid BY PROGRAM, IN A SANDBOX (cutbox-rows.mjs): the forced cells as the released guide's own fill.sh prints them over the translation 036b84716e9f6483… (all of the seat's roots in one cut). By AI agents, Wed Nov 11 2026. No macro, syntax, notation, axiom, sorry.
-/
import Derived.Test.YtadmpiidofncpacChecked
import GoSem.Claim
import GoSem.ClaimJoined
import GoSem.ClaimMapViews
import Derived.JoinedTies
import Derived.KernelRfl
namespace Go.Proofs.Ytadmpiidofncpac
/- THE CELL 'sum', in the pinned program and in every row, IS THE sha256 OF THE DUMP (.gsa) THAT YtadmpiidofncpacProg.lean LOADS. Nothing in Lean hashes anything: it is a label: what it is worth is what the hold of that sum in a sandbox is worth. -/
noncomputable def Try.pinned : Pinned := { name := "ytadmpiidofncpac", sum := "036b84716e9f6483a6d176759c564de04337148e686764a4167167a030c1c7e8", checked := Try.checked }
namespace Rows
def none {H : Type} : Left H := { results := [], args := [] }

/-- 'laws.FnLettersSum': WHATEVER THE INPUT: true; the input reads as it did. -/
def fnLettersSumSpec : ChangeSpec := { name := "fnLettersSum", fn := fun _ => fun
  | [d] => { results := [.lit (.bool true)], args := [d] }
  | _ => none }
def fnLettersSumRow : OpenClaim := { program := "ytadmpiidofncpac", sum := "036b84716e9f6483a6d176759c564de04337148e686764a4167167a030c1c7e8", func := "loop.example/symmetricsums/laws.FnLettersSum", spec := "fnLettersSum", unfollowed := true, recurses := true, plainKeys := false, leaving := true, apart := false }
def FnLettersSumSaid : Prop := fnLettersSumRow.holds Try.pinned (OpenSpec.ofChange fnLettersSumSpec)

/-- ITS FALSE NEIGHBOUR: 'it returns false'. Refute it at one input. -/
def fnLettersSumWrong : ChangeSpec := { name := "fnLettersSum", fn := fun _ => fun
  | [d] => { results := [.lit (.bool false)], args := [d] }
  | _ => none }
def FnLettersSumWrongFalsely : Prop := fnLettersSumRow.holds Try.pinned (OpenSpec.ofChange fnLettersSumWrong)

/-- 'laws.FnLettersSwap': WHATEVER THE INPUT: true; the input reads as it did. -/
def fnLettersSwapSpec : ChangeSpec := { name := "fnLettersSwap", fn := fun _ => fun
  | [d] => { results := [.lit (.bool true)], args := [d] }
  | _ => none }
def fnLettersSwapRow : OpenClaim := { program := "ytadmpiidofncpac", sum := "036b84716e9f6483a6d176759c564de04337148e686764a4167167a030c1c7e8", func := "loop.example/symmetricsums/laws.FnLettersSwap", spec := "fnLettersSwap", unfollowed := true, recurses := true, plainKeys := false, leaving := true, apart := false }
def FnLettersSwapSaid : Prop := fnLettersSwapRow.holds Try.pinned (OpenSpec.ofChange fnLettersSwapSpec)

/-- ITS FALSE NEIGHBOUR: 'it returns false'. Refute it at one input. -/
def fnLettersSwapWrong : ChangeSpec := { name := "fnLettersSwap", fn := fun _ => fun
  | [d] => { results := [.lit (.bool false)], args := [d] }
  | _ => none }
def FnLettersSwapWrongFalsely : Prop := fnLettersSwapRow.holds Try.pinned (OpenSpec.ofChange fnLettersSwapWrong)

/-- 'laws.FnSymmetric': WHATEVER THE INPUT: true; the input reads as it did. -/
def fnSymmetricSpec : ChangeSpec := { name := "fnSymmetric", fn := fun _ => fun
  | [d] => { results := [.lit (.bool true)], args := [d] }
  | _ => none }
def fnSymmetricRow : OpenClaim := { program := "ytadmpiidofncpac", sum := "036b84716e9f6483a6d176759c564de04337148e686764a4167167a030c1c7e8", func := "loop.example/symmetricsums/laws.FnSymmetric", spec := "fnSymmetric", unfollowed := true, recurses := true, plainKeys := false, leaving := true, apart := false }
def FnSymmetricSaid : Prop := fnSymmetricRow.holds Try.pinned (OpenSpec.ofChange fnSymmetricSpec)

/-- ITS FALSE NEIGHBOUR: 'it returns false'. Refute it at one input. -/
def fnSymmetricWrong : ChangeSpec := { name := "fnSymmetric", fn := fun _ => fun
  | [d] => { results := [.lit (.bool false)], args := [d] }
  | _ => none }
def FnSymmetricWrongFalsely : Prop := fnSymmetricRow.holds Try.pinned (OpenSpec.ofChange fnSymmetricWrong)

/-- 'laws.FnLettersAll': WHATEVER THE INPUT: true; the input reads as it did. -/
def fnLettersAllSpec : ChangeSpec := { name := "fnLettersAll", fn := fun _ => fun
  | [d] => { results := [.lit (.bool true)], args := [d] }
  | _ => none }
def fnLettersAllRow : OpenClaim := { program := "ytadmpiidofncpac", sum := "036b84716e9f6483a6d176759c564de04337148e686764a4167167a030c1c7e8", func := "loop.example/symmetricsums/laws.FnLettersAll", spec := "fnLettersAll", unfollowed := true, recurses := true, plainKeys := false, leaving := true, apart := false }
def FnLettersAllSaid : Prop := fnLettersAllRow.holds Try.pinned (OpenSpec.ofChange fnLettersAllSpec)

/-- ITS FALSE NEIGHBOUR: 'it returns false'. Refute it at one input. -/
def fnLettersAllWrong : ChangeSpec := { name := "fnLettersAll", fn := fun _ => fun
  | [d] => { results := [.lit (.bool false)], args := [d] }
  | _ => none }
def FnLettersAllWrongFalsely : Prop := fnLettersAllRow.holds Try.pinned (OpenSpec.ofChange fnLettersAllWrong)

/-- 'laws.FnLettersShares': WHATEVER THE INPUT: true; the input reads as it did. -/
def fnLettersSharesSpec : ChangeSpec := { name := "fnLettersShares", fn := fun _ => fun
  | [d] => { results := [.lit (.bool true)], args := [d] }
  | _ => none }
def fnLettersSharesRow : OpenClaim := { program := "ytadmpiidofncpac", sum := "036b84716e9f6483a6d176759c564de04337148e686764a4167167a030c1c7e8", func := "loop.example/symmetricsums/laws.FnLettersShares", spec := "fnLettersShares", unfollowed := true, recurses := true, plainKeys := false, leaving := true, apart := false }
def FnLettersSharesSaid : Prop := fnLettersSharesRow.holds Try.pinned (OpenSpec.ofChange fnLettersSharesSpec)

/-- ITS FALSE NEIGHBOUR: 'it returns false'. Refute it at one input. -/
def fnLettersSharesWrong : ChangeSpec := { name := "fnLettersShares", fn := fun _ => fun
  | [d] => { results := [.lit (.bool false)], args := [d] }
  | _ => none }
def FnLettersSharesWrongFalsely : Prop := fnLettersSharesRow.holds Try.pinned (OpenSpec.ofChange fnLettersSharesWrong)

/-- 'laws.FnLettersChosen': WHATEVER THE INPUT: true; the input reads as it did. -/
def fnLettersChosenSpec : ChangeSpec := { name := "fnLettersChosen", fn := fun _ => fun
  | [d] => { results := [.lit (.bool true)], args := [d] }
  | _ => none }
def fnLettersChosenRow : OpenClaim := { program := "ytadmpiidofncpac", sum := "036b84716e9f6483a6d176759c564de04337148e686764a4167167a030c1c7e8", func := "loop.example/symmetricsums/laws.FnLettersChosen", spec := "fnLettersChosen", unfollowed := true, recurses := true, plainKeys := false, leaving := true, apart := false }
def FnLettersChosenSaid : Prop := fnLettersChosenRow.holds Try.pinned (OpenSpec.ofChange fnLettersChosenSpec)

/-- ITS FALSE NEIGHBOUR: 'it returns false'. Refute it at one input. -/
def fnLettersChosenWrong : ChangeSpec := { name := "fnLettersChosen", fn := fun _ => fun
  | [d] => { results := [.lit (.bool false)], args := [d] }
  | _ => none }
def FnLettersChosenWrongFalsely : Prop := fnLettersChosenRow.holds Try.pinned (OpenSpec.ofChange fnLettersChosenWrong)

/-- 'laws.FnExactTableOf': WHATEVER THE INPUT: true; the input reads as it did. -/
def fnExactTableOfSpec : ChangeSpec := { name := "fnExactTableOf", fn := fun _ => fun
  | [d1, d2] => { results := [.lit (.bool true)], args := [d1, d2] }
  | _ => none }
def fnExactTableOfRow : OpenClaim := { program := "ytadmpiidofncpac", sum := "036b84716e9f6483a6d176759c564de04337148e686764a4167167a030c1c7e8", func := "loop.example/symmetricsums/laws.FnExactTableOf", spec := "fnExactTableOf", inPlace := ["(*sync.WaitGroup).Add", "internal/race.ReleaseMerge", "internal/race.Disable", "internal/race.Enable", "internal/synctest.IsInBubble", "internal/synctest.Associate[sync.WaitGroup]", "sync.fatal", "sync/atomic.OrUint64", "sync/atomic.AddUint64", "internal/race.Read", "sync/atomic.LoadUint64", "sync/atomic.StoreUint64", "internal/synctest.Disassociate[sync.WaitGroup]", "sync.runtime_Semrelease", "(*sync.WaitGroup).Done", "(*sync.WaitGroup).Wait", "internal/race.Acquire", "internal/synctest.IsAssociated[sync.WaitGroup]", "sync/atomic.CompareAndSwapUint64", "internal/race.Write", "sync.runtime_SemacquireWaitGroup"], unfollowed := true, recurses := true, plainKeys := false, leaving := true, apart := false }
def FnExactTableOfSaid : Prop := fnExactTableOfRow.holds Try.pinned (OpenSpec.ofChange fnExactTableOfSpec)

/-- ITS FALSE NEIGHBOUR: 'it returns false'. Refute it at one input. -/
def fnExactTableOfWrong : ChangeSpec := { name := "fnExactTableOf", fn := fun _ => fun
  | [d1, d2] => { results := [.lit (.bool false)], args := [d1, d2] }
  | _ => none }
def FnExactTableOfWrongFalsely : Prop := fnExactTableOfRow.holds Try.pinned (OpenSpec.ofChange fnExactTableOfWrong)

/-- 'laws.FnExactTableBack': WHATEVER THE INPUT: true; the input reads as it did. -/
def fnExactTableBackSpec : ChangeSpec := { name := "fnExactTableBack", fn := fun _ => fun
  | [d] => { results := [.lit (.bool true)], args := [d] }
  | _ => none }
def fnExactTableBackRow : OpenClaim := { program := "ytadmpiidofncpac", sum := "036b84716e9f6483a6d176759c564de04337148e686764a4167167a030c1c7e8", func := "loop.example/symmetricsums/laws.FnExactTableBack", spec := "fnExactTableBack", inPlace := ["(*sync.WaitGroup).Add", "internal/race.ReleaseMerge", "internal/race.Disable", "internal/race.Enable", "internal/synctest.IsInBubble", "internal/synctest.Associate[sync.WaitGroup]", "sync.fatal", "sync/atomic.OrUint64", "sync/atomic.AddUint64", "internal/race.Read", "sync/atomic.LoadUint64", "sync/atomic.StoreUint64", "internal/synctest.Disassociate[sync.WaitGroup]", "sync.runtime_Semrelease", "(*sync.WaitGroup).Done", "(*sync.WaitGroup).Wait", "internal/race.Acquire", "internal/synctest.IsAssociated[sync.WaitGroup]", "sync/atomic.CompareAndSwapUint64", "internal/race.Write", "sync.runtime_SemacquireWaitGroup"], unfollowed := true, recurses := true, plainKeys := false, leaving := true, apart := false }
def FnExactTableBackSaid : Prop := fnExactTableBackRow.holds Try.pinned (OpenSpec.ofChange fnExactTableBackSpec)

/-- ITS FALSE NEIGHBOUR: 'it returns false'. Refute it at one input. -/
def fnExactTableBackWrong : ChangeSpec := { name := "fnExactTableBack", fn := fun _ => fun
  | [d] => { results := [.lit (.bool false)], args := [d] }
  | _ => none }
def FnExactTableBackWrongFalsely : Prop := fnExactTableBackRow.holds Try.pinned (OpenSpec.ofChange fnExactTableBackWrong)

/-- 'laws.FnTableOf': WHATEVER THE INPUT: true; the input reads as it did. -/
def fnTableOfSpec : ChangeSpec := { name := "fnTableOf", fn := fun _ => fun
  | [d] => { results := [.lit (.bool true)], args := [d] }
  | _ => none }
def fnTableOfRow : OpenClaim := { program := "ytadmpiidofncpac", sum := "036b84716e9f6483a6d176759c564de04337148e686764a4167167a030c1c7e8", func := "loop.example/symmetricsums/laws.FnTableOf", spec := "fnTableOf", inPlace := ["(*sync.WaitGroup).Add", "internal/race.ReleaseMerge", "internal/race.Disable", "internal/race.Enable", "internal/synctest.IsInBubble", "internal/synctest.Associate[sync.WaitGroup]", "sync.fatal", "sync/atomic.OrUint64", "sync/atomic.AddUint64", "internal/race.Read", "sync/atomic.LoadUint64", "sync/atomic.StoreUint64", "internal/synctest.Disassociate[sync.WaitGroup]", "sync.runtime_Semrelease", "(*sync.WaitGroup).Done", "(*sync.WaitGroup).Wait", "internal/race.Acquire", "internal/synctest.IsAssociated[sync.WaitGroup]", "sync/atomic.CompareAndSwapUint64", "internal/race.Write", "sync.runtime_SemacquireWaitGroup"], unfollowed := true, recurses := true, plainKeys := false, leaving := true, apart := false }
def FnTableOfSaid : Prop := fnTableOfRow.holds Try.pinned (OpenSpec.ofChange fnTableOfSpec)

/-- ITS FALSE NEIGHBOUR: 'it returns false'. Refute it at one input. -/
def fnTableOfWrong : ChangeSpec := { name := "fnTableOf", fn := fun _ => fun
  | [d] => { results := [.lit (.bool false)], args := [d] }
  | _ => none }
def FnTableOfWrongFalsely : Prop := fnTableOfRow.holds Try.pinned (OpenSpec.ofChange fnTableOfWrong)

/-- 'laws.FnTableBack': WHATEVER THE INPUT: true; the input reads as it did. -/
def fnTableBackSpec : ChangeSpec := { name := "fnTableBack", fn := fun _ => fun
  | [d] => { results := [.lit (.bool true)], args := [d] }
  | _ => none }
def fnTableBackRow : OpenClaim := { program := "ytadmpiidofncpac", sum := "036b84716e9f6483a6d176759c564de04337148e686764a4167167a030c1c7e8", func := "loop.example/symmetricsums/laws.FnTableBack", spec := "fnTableBack", inPlace := ["(*sync.WaitGroup).Add", "internal/race.ReleaseMerge", "internal/race.Disable", "internal/race.Enable", "internal/synctest.IsInBubble", "internal/synctest.Associate[sync.WaitGroup]", "sync.fatal", "sync/atomic.OrUint64", "sync/atomic.AddUint64", "internal/race.Read", "sync/atomic.LoadUint64", "sync/atomic.StoreUint64", "internal/synctest.Disassociate[sync.WaitGroup]", "sync.runtime_Semrelease", "(*sync.WaitGroup).Done", "(*sync.WaitGroup).Wait", "internal/race.Acquire", "internal/synctest.IsAssociated[sync.WaitGroup]", "sync/atomic.CompareAndSwapUint64", "internal/race.Write", "sync.runtime_SemacquireWaitGroup"], unfollowed := true, recurses := true, plainKeys := false, leaving := true, apart := false }
def FnTableBackSaid : Prop := fnTableBackRow.holds Try.pinned (OpenSpec.ofChange fnTableBackSpec)

/-- ITS FALSE NEIGHBOUR: 'it returns false'. Refute it at one input. -/
def fnTableBackWrong : ChangeSpec := { name := "fnTableBack", fn := fun _ => fun
  | [d] => { results := [.lit (.bool false)], args := [d] }
  | _ => none }
def FnTableBackWrongFalsely : Prop := fnTableBackRow.holds Try.pinned (OpenSpec.ofChange fnTableBackWrong)

/- THE SECOND FORM. 'bulk': how many values and letters a reading holds, each counted each time it is reached (what is shared counts as often as it is met; a slice's spare places count too). A statement '..UptoSaid' is the law's where the arguments, and the package variables that the reading takes, are together of bulk at most 1048576: NARROWER than '..Said'. Prove '..Said' where nothing that the law and all that it calls make is longer than what came in: it says more and counts as full. Else prove '..UptoSaid'. A law counts once. -/
mutual
def uptoBulk {H : Type} : DataW H → Nat
  | .lit (.string bytes) => bytes.length + 1
  | .lit _ => 1
  | .nil => 1
  | .ptr d => uptoBulk d + 1
  | .slice elems spare => uptoBulkAll elems + uptoBulkAll spare + 1
  | .agg parts => uptoBulkAll parts + 1
  | .iface _ d => uptoBulk d + 1
  | .map entries => uptoBulkEntries entries + 1
  | .held _ => 1
def uptoBulkAll {H : Type} : List (DataW H) → Nat
  | [] => 0
  | d :: r => uptoBulk d + uptoBulkAll r
def uptoBulkEntries {H : Type} : List (Lit × DataW H) → Nat
  | [] => 0
  | x :: r => uptoBulkEntry x + uptoBulkEntries r
def uptoBulkEntry {H : Type} : Lit × DataW H → Nat
  | (.string bytes, d) => bytes.length + uptoBulk d + 1
  | (_, d) => uptoBulk d + 1
 end
def uptoSmall : (H : Type) → List (DataW H) → Bool := fun _ ds => decide (uptoBulkAll ds ≤ 1048576)
def OpenSpec.upto (s : _root_.Go.ChangeSpec) : _root_.Go.OpenSpec := { _root_.Go.OpenSpec.ofChange s with cond := some uptoSmall }

/-- 'laws.FnLettersSum', WHERE WHAT IT READS IS OF BULK AT MOST 1048576: true; the input reads as it did. -/
def fnLettersSumUptoRow : OpenClaim := { program := "ytadmpiidofncpac", sum := "036b84716e9f6483a6d176759c564de04337148e686764a4167167a030c1c7e8", func := "loop.example/symmetricsums/laws.FnLettersSum", spec := "fnLettersSum", unfollowed := true, recurses := true, plainKeys := false, leaving := true, apart := false, narrowed := true }
def FnLettersSumUptoSaid : Prop := fnLettersSumUptoRow.holds Try.pinned (OpenSpec.upto fnLettersSumSpec)

/-- 'laws.FnLettersSwap', WHERE WHAT IT READS IS OF BULK AT MOST 1048576: true; the input reads as it did. -/
def fnLettersSwapUptoRow : OpenClaim := { program := "ytadmpiidofncpac", sum := "036b84716e9f6483a6d176759c564de04337148e686764a4167167a030c1c7e8", func := "loop.example/symmetricsums/laws.FnLettersSwap", spec := "fnLettersSwap", unfollowed := true, recurses := true, plainKeys := false, leaving := true, apart := false, narrowed := true }
def FnLettersSwapUptoSaid : Prop := fnLettersSwapUptoRow.holds Try.pinned (OpenSpec.upto fnLettersSwapSpec)

/-- 'laws.FnSymmetric', WHERE WHAT IT READS IS OF BULK AT MOST 1048576: true; the input reads as it did. -/
def fnSymmetricUptoRow : OpenClaim := { program := "ytadmpiidofncpac", sum := "036b84716e9f6483a6d176759c564de04337148e686764a4167167a030c1c7e8", func := "loop.example/symmetricsums/laws.FnSymmetric", spec := "fnSymmetric", unfollowed := true, recurses := true, plainKeys := false, leaving := true, apart := false, narrowed := true }
def FnSymmetricUptoSaid : Prop := fnSymmetricUptoRow.holds Try.pinned (OpenSpec.upto fnSymmetricSpec)

/-- 'laws.FnLettersAll', WHERE WHAT IT READS IS OF BULK AT MOST 1048576: true; the input reads as it did. -/
def fnLettersAllUptoRow : OpenClaim := { program := "ytadmpiidofncpac", sum := "036b84716e9f6483a6d176759c564de04337148e686764a4167167a030c1c7e8", func := "loop.example/symmetricsums/laws.FnLettersAll", spec := "fnLettersAll", unfollowed := true, recurses := true, plainKeys := false, leaving := true, apart := false, narrowed := true }
def FnLettersAllUptoSaid : Prop := fnLettersAllUptoRow.holds Try.pinned (OpenSpec.upto fnLettersAllSpec)

/-- 'laws.FnLettersShares', WHERE WHAT IT READS IS OF BULK AT MOST 1048576: true; the input reads as it did. -/
def fnLettersSharesUptoRow : OpenClaim := { program := "ytadmpiidofncpac", sum := "036b84716e9f6483a6d176759c564de04337148e686764a4167167a030c1c7e8", func := "loop.example/symmetricsums/laws.FnLettersShares", spec := "fnLettersShares", unfollowed := true, recurses := true, plainKeys := false, leaving := true, apart := false, narrowed := true }
def FnLettersSharesUptoSaid : Prop := fnLettersSharesUptoRow.holds Try.pinned (OpenSpec.upto fnLettersSharesSpec)

/-- 'laws.FnLettersChosen', WHERE WHAT IT READS IS OF BULK AT MOST 1048576: true; the input reads as it did. -/
def fnLettersChosenUptoRow : OpenClaim := { program := "ytadmpiidofncpac", sum := "036b84716e9f6483a6d176759c564de04337148e686764a4167167a030c1c7e8", func := "loop.example/symmetricsums/laws.FnLettersChosen", spec := "fnLettersChosen", unfollowed := true, recurses := true, plainKeys := false, leaving := true, apart := false, narrowed := true }
def FnLettersChosenUptoSaid : Prop := fnLettersChosenUptoRow.holds Try.pinned (OpenSpec.upto fnLettersChosenSpec)

/-- 'laws.FnExactTableOf', WHERE WHAT IT READS IS OF BULK AT MOST 1048576: true; the input reads as it did. -/
def fnExactTableOfUptoRow : OpenClaim := { program := "ytadmpiidofncpac", sum := "036b84716e9f6483a6d176759c564de04337148e686764a4167167a030c1c7e8", func := "loop.example/symmetricsums/laws.FnExactTableOf", spec := "fnExactTableOf", inPlace := ["(*sync.WaitGroup).Add", "internal/race.ReleaseMerge", "internal/race.Disable", "internal/race.Enable", "internal/synctest.IsInBubble", "internal/synctest.Associate[sync.WaitGroup]", "sync.fatal", "sync/atomic.OrUint64", "sync/atomic.AddUint64", "internal/race.Read", "sync/atomic.LoadUint64", "sync/atomic.StoreUint64", "internal/synctest.Disassociate[sync.WaitGroup]", "sync.runtime_Semrelease", "(*sync.WaitGroup).Done", "(*sync.WaitGroup).Wait", "internal/race.Acquire", "internal/synctest.IsAssociated[sync.WaitGroup]", "sync/atomic.CompareAndSwapUint64", "internal/race.Write", "sync.runtime_SemacquireWaitGroup"], unfollowed := true, recurses := true, plainKeys := false, leaving := true, apart := false, narrowed := true }
def FnExactTableOfUptoSaid : Prop := fnExactTableOfUptoRow.holds Try.pinned (OpenSpec.upto fnExactTableOfSpec)

/-- 'laws.FnExactTableBack', WHERE WHAT IT READS IS OF BULK AT MOST 1048576: true; the input reads as it did. -/
def fnExactTableBackUptoRow : OpenClaim := { program := "ytadmpiidofncpac", sum := "036b84716e9f6483a6d176759c564de04337148e686764a4167167a030c1c7e8", func := "loop.example/symmetricsums/laws.FnExactTableBack", spec := "fnExactTableBack", inPlace := ["(*sync.WaitGroup).Add", "internal/race.ReleaseMerge", "internal/race.Disable", "internal/race.Enable", "internal/synctest.IsInBubble", "internal/synctest.Associate[sync.WaitGroup]", "sync.fatal", "sync/atomic.OrUint64", "sync/atomic.AddUint64", "internal/race.Read", "sync/atomic.LoadUint64", "sync/atomic.StoreUint64", "internal/synctest.Disassociate[sync.WaitGroup]", "sync.runtime_Semrelease", "(*sync.WaitGroup).Done", "(*sync.WaitGroup).Wait", "internal/race.Acquire", "internal/synctest.IsAssociated[sync.WaitGroup]", "sync/atomic.CompareAndSwapUint64", "internal/race.Write", "sync.runtime_SemacquireWaitGroup"], unfollowed := true, recurses := true, plainKeys := false, leaving := true, apart := false, narrowed := true }
def FnExactTableBackUptoSaid : Prop := fnExactTableBackUptoRow.holds Try.pinned (OpenSpec.upto fnExactTableBackSpec)

/-- 'laws.FnTableOf', WHERE WHAT IT READS IS OF BULK AT MOST 1048576: true; the input reads as it did. -/
def fnTableOfUptoRow : OpenClaim := { program := "ytadmpiidofncpac", sum := "036b84716e9f6483a6d176759c564de04337148e686764a4167167a030c1c7e8", func := "loop.example/symmetricsums/laws.FnTableOf", spec := "fnTableOf", inPlace := ["(*sync.WaitGroup).Add", "internal/race.ReleaseMerge", "internal/race.Disable", "internal/race.Enable", "internal/synctest.IsInBubble", "internal/synctest.Associate[sync.WaitGroup]", "sync.fatal", "sync/atomic.OrUint64", "sync/atomic.AddUint64", "internal/race.Read", "sync/atomic.LoadUint64", "sync/atomic.StoreUint64", "internal/synctest.Disassociate[sync.WaitGroup]", "sync.runtime_Semrelease", "(*sync.WaitGroup).Done", "(*sync.WaitGroup).Wait", "internal/race.Acquire", "internal/synctest.IsAssociated[sync.WaitGroup]", "sync/atomic.CompareAndSwapUint64", "internal/race.Write", "sync.runtime_SemacquireWaitGroup"], unfollowed := true, recurses := true, plainKeys := false, leaving := true, apart := false, narrowed := true }
def FnTableOfUptoSaid : Prop := fnTableOfUptoRow.holds Try.pinned (OpenSpec.upto fnTableOfSpec)

/-- 'laws.FnTableBack', WHERE WHAT IT READS IS OF BULK AT MOST 1048576: true; the input reads as it did. -/
def fnTableBackUptoRow : OpenClaim := { program := "ytadmpiidofncpac", sum := "036b84716e9f6483a6d176759c564de04337148e686764a4167167a030c1c7e8", func := "loop.example/symmetricsums/laws.FnTableBack", spec := "fnTableBack", inPlace := ["(*sync.WaitGroup).Add", "internal/race.ReleaseMerge", "internal/race.Disable", "internal/race.Enable", "internal/synctest.IsInBubble", "internal/synctest.Associate[sync.WaitGroup]", "sync.fatal", "sync/atomic.OrUint64", "sync/atomic.AddUint64", "internal/race.Read", "sync/atomic.LoadUint64", "sync/atomic.StoreUint64", "internal/synctest.Disassociate[sync.WaitGroup]", "sync.runtime_Semrelease", "(*sync.WaitGroup).Done", "(*sync.WaitGroup).Wait", "internal/race.Acquire", "internal/synctest.IsAssociated[sync.WaitGroup]", "sync/atomic.CompareAndSwapUint64", "internal/race.Write", "sync.runtime_SemacquireWaitGroup"], unfollowed := true, recurses := true, plainKeys := false, leaving := true, apart := false, narrowed := true }
def FnTableBackUptoSaid : Prop := fnTableBackUptoRow.holds Try.pinned (OpenSpec.upto fnTableBackSpec)

end Rows
end Go.Proofs.Ytadmpiidofncpac
