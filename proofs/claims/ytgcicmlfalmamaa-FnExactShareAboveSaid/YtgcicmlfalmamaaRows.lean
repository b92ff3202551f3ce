/-
  No cell of these rows narrows 'for every input' (looked for: loops, veiled, ifaces, maps, wideKeys, modest, calm, conditions, laid).
  DERIVED. THE GIVEN ROWS OF THIS SEAT. 12 by the template 'for every input the law returns true; each argument reads behind the call as it read before'; 0 by the template 'total and deterministic' (their statements: YtgcicmlfalmamaaTotals.lean).
  GIVEN WITH THE SEED: the statements are not yours to turn. If you find one false, say at which input.
  Laid BY PROGRAM, IN A SANDBOX (cutbox-rows.mjs): the forced cells as the released guide's own fill.sh prints them over the translation e6566844ae00e6c9… (all of the seat's roots in one cut). By AI agents, Wed Nov 11 2026. No macro, syntax, notation, axiom, sorry.
-/
import Derived.Test.YtgcicmlfalmamaaChecked
import GoSem.Claim
import GoSem.ClaimJoined
import GoSem.ClaimMapViews
import Derived.JoinedTies
import Derived.KernelRfl
namespace Go.Proofs.Ytgcicmlfalmamaa
/- THE CELL 'sum', in the pinned program and in every row, IS THE sha256 OF THE DUMP (.gsa) THAT YtgcicmlfalmamaaProg.lean LOADS. Nothing in Lean hashes anything: it is a label: what it is worth is what the hold of that sum in a sandbox is worth. -/
noncomputable def Try.pinned : Pinned := { name := "ytgcicmlfalmamaa", sum := "e6566844ae00e6c9f91c748b8385225ee090b6419c4159bd3774a3e6e2506277", checked := Try.checked }
namespace Rows
def none {H : Type} : Left H := { results := [], args := [] }

/-- 'laws.FnExactShareIn': WHATEVER THE INPUT: true; the input reads as it did. -/
def fnExactShareInSpec : ChangeSpec := { name := "fnExactShareIn", fn := fun _ => fun
  | [d] => { results := [.lit (.bool true)], args := [d] }
  | _ => none }
def fnExactShareInRow : OpenClaim := { program := "ytgcicmlfalmamaa", sum := "e6566844ae00e6c9f91c748b8385225ee090b6419c4159bd3774a3e6e2506277", func := "loop.example/symmetricsums/laws.FnExactShareIn", spec := "fnExactShareIn", apart := false }
def FnExactShareInSaid : Prop := fnExactShareInRow.holds Try.pinned (OpenSpec.ofChange fnExactShareInSpec)

/-- ITS FALSE NEIGHBOUR: 'it returns false'. Refute it at one input. -/
def fnExactShareInWrong : ChangeSpec := { name := "fnExactShareIn", fn := fun _ => fun
  | [d] => { results := [.lit (.bool false)], args := [d] }
  | _ => none }
def FnExactShareInWrongFalsely : Prop := fnExactShareInRow.holds Try.pinned (OpenSpec.ofChange fnExactShareInWrong)

/-- 'laws.FnExactShareAll': WHATEVER THE INPUT: true; the input reads as it did. -/
def fnExactShareAllSpec : ChangeSpec := { name := "fnExactShareAll", fn := fun _ => fun
  | [d] => { results := [.lit (.bool true)], args := [d] }
  | _ => none }
def fnExactShareAllRow : OpenClaim := { program := "ytgcicmlfalmamaa", sum := "e6566844ae00e6c9f91c748b8385225ee090b6419c4159bd3774a3e6e2506277", func := "loop.example/symmetricsums/laws.FnExactShareAll", spec := "fnExactShareAll", unfollowed := true, recurses := true, apart := false }
def FnExactShareAllSaid : Prop := fnExactShareAllRow.holds Try.pinned (OpenSpec.ofChange fnExactShareAllSpec)

/-- ITS FALSE NEIGHBOUR: 'it returns false'. Refute it at one input. -/
def fnExactShareAllWrong : ChangeSpec := { name := "fnExactShareAll", fn := fun _ => fun
  | [d] => { results := [.lit (.bool false)], args := [d] }
  | _ => none }
def FnExactShareAllWrongFalsely : Prop := fnExactShareAllRow.holds Try.pinned (OpenSpec.ofChange fnExactShareAllWrong)

/-- 'laws.FnExactSharePlace': WHATEVER THE INPUT: true; the input reads as it did. -/
def fnExactSharePlaceSpec : ChangeSpec := { name := "fnExactSharePlace", fn := fun _ => fun
  | [d] => { results := [.lit (.bool true)], args := [d] }
  | _ => none }
def fnExactSharePlaceRow : OpenClaim := { program := "ytgcicmlfalmamaa", sum := "e6566844ae00e6c9f91c748b8385225ee090b6419c4159bd3774a3e6e2506277", func := "loop.example/symmetricsums/laws.FnExactSharePlace", spec := "fnExactSharePlace", unfollowed := true, recurses := true, apart := false }
def FnExactSharePlaceSaid : Prop := fnExactSharePlaceRow.holds Try.pinned (OpenSpec.ofChange fnExactSharePlaceSpec)

/-- ITS FALSE NEIGHBOUR: 'it returns false'. Refute it at one input. -/
def fnExactSharePlaceWrong : ChangeSpec := { name := "fnExactSharePlace", fn := fun _ => fun
  | [d] => { results := [.lit (.bool false)], args := [d] }
  | _ => none }
def FnExactSharePlaceWrongFalsely : Prop := fnExactSharePlaceRow.holds Try.pinned (OpenSpec.ofChange fnExactSharePlaceWrong)

/-- 'laws.FnExactShareTurn': WHATEVER THE INPUT: true; the input reads as it did. -/
def fnExactShareTurnSpec : ChangeSpec := { name := "fnExactShareTurn", fn := fun _ => fun
  | [d] => { results := [.lit (.bool true)], args := [d] }
  | _ => none }
def fnExactShareTurnRow : OpenClaim := { program := "ytgcicmlfalmamaa", sum := "e6566844ae00e6c9f91c748b8385225ee090b6419c4159bd3774a3e6e2506277", func := "loop.example/symmetricsums/laws.FnExactShareTurn", spec := "fnExactShareTurn", unfollowed := true, recurses := true, apart := false }
def FnExactShareTurnSaid : Prop := fnExactShareTurnRow.holds Try.pinned (OpenSpec.ofChange fnExactShareTurnSpec)

/-- ITS FALSE NEIGHBOUR: 'it returns false'. Refute it at one input. -/
def fnExactShareTurnWrong : ChangeSpec := { name := "fnExactShareTurn", fn := fun _ => fun
  | [d] => { results := [.lit (.bool false)], args := [d] }
  | _ => none }
def FnExactShareTurnWrongFalsely : Prop := fnExactShareTurnRow.holds Try.pinned (OpenSpec.ofChange fnExactShareTurnWrong)

/-- 'laws.FnExactShareAbove': WHATEVER THE INPUT: true; the input reads as it did. -/
def fnExactShareAboveSpec : ChangeSpec := { name := "fnExactShareAbove", fn := fun _ => fun
  | [d1, d2] => { results := [.lit (.bool true)], args := [d1, d2] }
  | _ => none }
def fnExactShareAboveRow : OpenClaim := { program := "ytgcicmlfalmamaa", sum := "e6566844ae00e6c9f91c748b8385225ee090b6419c4159bd3774a3e6e2506277", func := "loop.example/symmetricsums/laws.FnExactShareAbove", spec := "fnExactShareAbove", apart := false }
def FnExactShareAboveSaid : Prop := fnExactShareAboveRow.holds Try.pinned (OpenSpec.ofChange fnExactShareAboveSpec)

/-- ITS FALSE NEIGHBOUR: 'it returns false'. Refute it at one input. -/
def fnExactShareAboveWrong : ChangeSpec := { name := "fnExactShareAbove", fn := fun _ => fun
  | [d1, d2] => { results := [.lit (.bool false)], args := [d1, d2] }
  | _ => none }
def FnExactShareAboveWrongFalsely : Prop := fnExactShareAboveRow.holds Try.pinned (OpenSpec.ofChange fnExactShareAboveWrong)

/-- 'laws.FnExactShareJoin': WHATEVER THE INPUT: true; the input reads as it did. -/
def fnExactShareJoinSpec : ChangeSpec := { name := "fnExactShareJoin", fn := fun _ => fun
  | [d1, d2] => { results := [.lit (.bool true)], args := [d1, d2] }
  | _ => none }
def fnExactShareJoinRow : OpenClaim := { program := "ytgcicmlfalmamaa", sum := "e6566844ae00e6c9f91c748b8385225ee090b6419c4159bd3774a3e6e2506277", func := "loop.example/symmetricsums/laws.FnExactShareJoin", spec := "fnExactShareJoin", recurses := true, apart := false }
def FnExactShareJoinSaid : Prop := fnExactShareJoinRow.holds Try.pinned (OpenSpec.ofChange fnExactShareJoinSpec)

/-- ITS FALSE NEIGHBOUR: 'it returns false'. Refute it at one input. -/
def fnExactShareJoinWrong : ChangeSpec := { name := "fnExactShareJoin", fn := fun _ => fun
  | [d1, d2] => { results := [.lit (.bool false)], args := [d1, d2] }
  | _ => none }
def FnExactShareJoinWrongFalsely : Prop := fnExactShareJoinRow.holds Try.pinned (OpenSpec.ofChange fnExactShareJoinWrong)

/-- 'laws.FnExactShareTimes': WHATEVER THE INPUT: true; the input reads as it did. -/
def fnExactShareTimesSpec : ChangeSpec := { name := "fnExactShareTimes", fn := fun _ => fun
  | [d] => { results := [.lit (.bool true)], args := [d] }
  | _ => none }
def fnExactShareTimesRow : OpenClaim := { program := "ytgcicmlfalmamaa", sum := "e6566844ae00e6c9f91c748b8385225ee090b6419c4159bd3774a3e6e2506277", func := "loop.example/symmetricsums/laws.FnExactShareTimes", spec := "fnExactShareTimes", unfollowed := true, recurses := true, apart := false }
def FnExactShareTimesSaid : Prop := fnExactShareTimesRow.holds Try.pinned (OpenSpec.ofChange fnExactShareTimesSpec)

/-- ITS FALSE NEIGHBOUR: 'it returns false'. Refute it at one input. -/
def fnExactShareTimesWrong : ChangeSpec := { name := "fnExactShareTimes", fn := fun _ => fun
  | [d] => { results := [.lit (.bool false)], args := [d] }
  | _ => none }
def FnExactShareTimesWrongFalsely : Prop := fnExactShareTimesRow.holds Try.pinned (OpenSpec.ofChange fnExactShareTimesWrong)

/-- 'laws.FnExactShareOrders': WHATEVER THE INPUT: true; the input reads as it did. -/
def fnExactShareOrdersSpec : ChangeSpec := { name := "fnExactShareOrders", fn := fun _ => fun
  | [d] => { results := [.lit (.bool true)], args := [d] }
  | _ => none }
def fnExactShareOrdersRow : OpenClaim := { program := "ytgcicmlfalmamaa", sum := "e6566844ae00e6c9f91c748b8385225ee090b6419c4159bd3774a3e6e2506277", func := "loop.example/symmetricsums/laws.FnExactShareOrders", spec := "fnExactShareOrders", unfollowed := true, recurses := true, apart := false }
def FnExactShareOrdersSaid : Prop := fnExactShareOrdersRow.holds Try.pinned (OpenSpec.ofChange fnExactShareOrdersSpec)

/-- ITS FALSE NEIGHBOUR: 'it returns false'. Refute it at one input. -/
def fnExactShareOrdersWrong : ChangeSpec := { name := "fnExactShareOrders", fn := fun _ => fun
  | [d] => { results := [.lit (.bool false)], args := [d] }
  | _ => none }
def FnExactShareOrdersWrongFalsely : Prop := fnExactShareOrdersRow.holds Try.pinned (OpenSpec.ofChange fnExactShareOrdersWrong)

/-- 'laws.FnExactShareSign': WHATEVER THE INPUT: true; the input reads as it did. -/
def fnExactShareSignSpec : ChangeSpec := { name := "fnExactShareSign", fn := fun _ => fun
  | [d] => { results := [.lit (.bool true)], args := [d] }
  | _ => none }
def fnExactShareSignRow : OpenClaim := { program := "ytgcicmlfalmamaa", sum := "e6566844ae00e6c9f91c748b8385225ee090b6419c4159bd3774a3e6e2506277", func := "loop.example/symmetricsums/laws.FnExactShareSign", spec := "fnExactShareSign", unfollowed := true, recurses := true, apart := false }
def FnExactShareSignSaid : Prop := fnExactShareSignRow.holds Try.pinned (OpenSpec.ofChange fnExactShareSignSpec)

/-- ITS FALSE NEIGHBOUR: 'it returns false'. Refute it at one input. -/
def fnExactShareSignWrong : ChangeSpec := { name := "fnExactShareSign", fn := fun _ => fun
  | [d] => { results := [.lit (.bool false)], args := [d] }
  | _ => none }
def FnExactShareSignWrongFalsely : Prop := fnExactShareSignRow.holds Try.pinned (OpenSpec.ofChange fnExactShareSignWrong)

/-- 'laws.FnExactShareCells': WHATEVER THE INPUT: true; the input reads as it did. -/
def fnExactShareCellsSpec : ChangeSpec := { name := "fnExactShareCells", fn := fun _ => fun
  | [d] => { results := [.lit (.bool true)], args := [d] }
  | _ => none }
def fnExactShareCellsRow : OpenClaim := { program := "ytgcicmlfalmamaa", sum := "e6566844ae00e6c9f91c748b8385225ee090b6419c4159bd3774a3e6e2506277", func := "loop.example/symmetricsums/laws.FnExactShareCells", spec := "fnExactShareCells", unfollowed := true, recurses := true, apart := false }
def FnExactShareCellsSaid : Prop := fnExactShareCellsRow.holds Try.pinned (OpenSpec.ofChange fnExactShareCellsSpec)

/-- ITS FALSE NEIGHBOUR: 'it returns false'. Refute it at one input. -/
def fnExactShareCellsWrong : ChangeSpec := { name := "fnExactShareCells", fn := fun _ => fun
  | [d] => { results := [.lit (.bool false)], args := [d] }
  | _ => none }
def FnExactShareCellsWrongFalsely : Prop := fnExactShareCellsRow.holds Try.pinned (OpenSpec.ofChange fnExactShareCellsWrong)

/-- 'laws.FnExactShareLists': WHATEVER THE INPUT: true; the input reads as it did. -/
def fnExactShareListsSpec : ChangeSpec := { name := "fnExactShareLists", fn := fun _ => fun
  | [d] => { results := [.lit (.bool true)], args := [d] }
  | _ => none }
def fnExactShareListsRow : OpenClaim := { program := "ytgcicmlfalmamaa", sum := "e6566844ae00e6c9f91c748b8385225ee090b6419c4159bd3774a3e6e2506277", func := "loop.example/symmetricsums/laws.FnExactShareLists", spec := "fnExactShareLists", unfollowed := true, recurses := true, apart := false }
def FnExactShareListsSaid : Prop := fnExactShareListsRow.holds Try.pinned (OpenSpec.ofChange fnExactShareListsSpec)

/-- ITS FALSE NEIGHBOUR: 'it returns false'. Refute it at one input. -/
def fnExactShareListsWrong : ChangeSpec := { name := "fnExactShareLists", fn := fun _ => fun
  | [d] => { results := [.lit (.bool false)], args := [d] }
  | _ => none }
def FnExactShareListsWrongFalsely : Prop := fnExactShareListsRow.holds Try.pinned (OpenSpec.ofChange fnExactShareListsWrong)

/-- 'laws.FnExactShareLower': WHATEVER THE INPUT: true; the input reads as it did. -/
def fnExactShareLowerSpec : ChangeSpec := { name := "fnExactShareLower", fn := fun _ => fun
  | [d] => { results := [.lit (.bool true)], args := [d] }
  | _ => none }
def fnExactShareLowerRow : OpenClaim := { program := "ytgcicmlfalmamaa", sum := "e6566844ae00e6c9f91c748b8385225ee090b6419c4159bd3774a3e6e2506277", func := "loop.example/symmetricsums/laws.FnExactShareLower", spec := "fnExactShareLower", unfollowed := true, recurses := true, apart := false }
def FnExactShareLowerSaid : Prop := fnExactShareLowerRow.holds Try.pinned (OpenSpec.ofChange fnExactShareLowerSpec)

/-- ITS FALSE NEIGHBOUR: 'it returns false'. Refute it at one input. -/
def fnExactShareLowerWrong : ChangeSpec := { name := "fnExactShareLower", fn := fun _ => fun
  | [d] => { results := [.lit (.bool false)], args := [d] }
  | _ => none }
def FnExactShareLowerWrongFalsely : Prop := fnExactShareLowerRow.holds Try.pinned (OpenSpec.ofChange fnExactShareLowerWrong)

/- THE SECOND FORM. 'bulk': how many values and letters a reading holds, each counted each time it is reached (what is shared counts as often as it is met; a slice's spare places count too). A statement '..UptoSaid' is the law's where the arguments, and the package variables that the reading takes, are together of bulk at most 1048576: NARROWER than '..Said'. Prove '..Said' where nothing that the law and all that it calls make is longer than what came in: it says more and counts as full. Else prove '..UptoSaid'. A law counts once. -/
mutual
def uptoBulk {H : Type} : DataW H → Nat
  | .lit (.string bytes) => bytes.length + 1
  | .lit _ => 1
  | .nil => 1
  | .ptr d => uptoBulk d + 1
  | .slice elems spare => uptoBulkAll elems + uptoBulkAll spare + 1
  | .agg parts => uptoBulkAll parts + 1
  | .iface _ d => uptoBulk d + 1
  | .map entries => uptoBulkEntries entries + 1
  | .held _ => 1
def uptoBulkAll {H : Type} : List (DataW H) → Nat
  | [] => 0
  | d :: r => uptoBulk d + uptoBulkAll r
def uptoBulkEntries {H : Type} : List (Lit × DataW H) → Nat
  | [] => 0
  | x :: r => uptoBulkEntry x + uptoBulkEntries r
def uptoBulkEntry {H : Type} : Lit × DataW H → Nat
  | (.string bytes, d) => bytes.length + uptoBulk d + 1
  | (_, d) => uptoBulk d + 1
 end
def uptoSmall : (H : Type) → List (DataW H) → Bool := fun _ ds => decide (uptoBulkAll ds ≤ 1048576)
def OpenSpec.upto (s : _root_.Go.ChangeSpec) : _root_.Go.OpenSpec := { _root_.Go.OpenSpec.ofChange s with cond := some uptoSmall }

/-- 'laws.FnExactShareIn', WHERE WHAT IT READS IS OF BULK AT MOST 1048576: true; the input reads as it did. -/
def fnExactShareInUptoRow : OpenClaim := { program := "ytgcicmlfalmamaa", sum := "e6566844ae00e6c9f91c748b8385225ee090b6419c4159bd3774a3e6e2506277", func := "loop.example/symmetricsums/laws.FnExactShareIn", spec := "fnExactShareIn", apart := false, narrowed := true }
def FnExactShareInUptoSaid : Prop := fnExactShareInUptoRow.holds Try.pinned (OpenSpec.upto fnExactShareInSpec)

/-- 'laws.FnExactShareAll', WHERE WHAT IT READS IS OF BULK AT MOST 1048576: true; the input reads as it did. -/
def fnExactShareAllUptoRow : OpenClaim := { program := "ytgcicmlfalmamaa", sum := "e6566844ae00e6c9f91c748b8385225ee090b6419c4159bd3774a3e6e2506277", func := "loop.example/symmetricsums/laws.FnExactShareAll", spec := "fnExactShareAll", unfollowed := true, recurses := true, apart := false, narrowed := true }
def FnExactShareAllUptoSaid : Prop := fnExactShareAllUptoRow.holds Try.pinned (OpenSpec.upto fnExactShareAllSpec)

/-- 'laws.FnExactSharePlace', WHERE WHAT IT READS IS OF BULK AT MOST 1048576: true; the input reads as it did. -/
def fnExactSharePlaceUptoRow : OpenClaim := { program := "ytgcicmlfalmamaa", sum := "e6566844ae00e6c9f91c748b8385225ee090b6419c4159bd3774a3e6e2506277", func := "loop.example/symmetricsums/laws.FnExactSharePlace", spec := "fnExactSharePlace", unfollowed := true, recurses := true, apart := false, narrowed := true }
def FnExactSharePlaceUptoSaid : Prop := fnExactSharePlaceUptoRow.holds Try.pinned (OpenSpec.upto fnExactSharePlaceSpec)

/-- 'laws.FnExactShareTurn', WHERE WHAT IT READS IS OF BULK AT MOST 1048576: true; the input reads as it did. -/
def fnExactShareTurnUptoRow : OpenClaim := { program := "ytgcicmlfalmamaa", sum := "e6566844ae00e6c9f91c748b8385225ee090b6419c4159bd3774a3e6e2506277", func := "loop.example/symmetricsums/laws.FnExactShareTurn", spec := "fnExactShareTurn", unfollowed := true, recurses := true, apart := false, narrowed := true }
def FnExactShareTurnUptoSaid : Prop := fnExactShareTurnUptoRow.holds Try.pinned (OpenSpec.upto fnExactShareTurnSpec)

/-- 'laws.FnExactShareAbove', WHERE WHAT IT READS IS OF BULK AT MOST 1048576: true; the input reads as it did. -/
def fnExactShareAboveUptoRow : OpenClaim := { program := "ytgcicmlfalmamaa", sum := "e6566844ae00e6c9f91c748b8385225ee090b6419c4159bd3774a3e6e2506277", func := "loop.example/symmetricsums/laws.FnExactShareAbove", spec := "fnExactShareAbove", apart := false, narrowed := true }
def FnExactShareAboveUptoSaid : Prop := fnExactShareAboveUptoRow.holds Try.pinned (OpenSpec.upto fnExactShareAboveSpec)

/-- 'laws.FnExactShareJoin', WHERE WHAT IT READS IS OF BULK AT MOST 1048576: true; the input reads as it did. -/
def fnExactShareJoinUptoRow : OpenClaim := { program := "ytgcicmlfalmamaa", sum := "e6566844ae00e6c9f91c748b8385225ee090b6419c4159bd3774a3e6e2506277", func := "loop.example/symmetricsums/laws.FnExactShareJoin", spec := "fnExactShareJoin", recurses := true, apart := false, narrowed := true }
def FnExactShareJoinUptoSaid : Prop := fnExactShareJoinUptoRow.holds Try.pinned (OpenSpec.upto fnExactShareJoinSpec)

/-- 'laws.FnExactShareTimes', WHERE WHAT IT READS IS OF BULK AT MOST 1048576: true; the input reads as it did. -/
def fnExactShareTimesUptoRow : OpenClaim := { program := "ytgcicmlfalmamaa", sum := "e6566844ae00e6c9f91c748b8385225ee090b6419c4159bd3774a3e6e2506277", func := "loop.example/symmetricsums/laws.FnExactShareTimes", spec := "fnExactShareTimes", unfollowed := true, recurses := true, apart := false, narrowed := true }
def FnExactShareTimesUptoSaid : Prop := fnExactShareTimesUptoRow.holds Try.pinned (OpenSpec.upto fnExactShareTimesSpec)

/-- 'laws.FnExactShareOrders', WHERE WHAT IT READS IS OF BULK AT MOST 1048576: true; the input reads as it did. -/
def fnExactShareOrdersUptoRow : OpenClaim := { program := "ytgcicmlfalmamaa", sum := "e6566844ae00e6c9f91c748b8385225ee090b6419c4159bd3774a3e6e2506277", func := "loop.example/symmetricsums/laws.FnExactShareOrders", spec := "fnExactShareOrders", unfollowed := true, recurses := true, apart := false, narrowed := true }
def FnExactShareOrdersUptoSaid : Prop := fnExactShareOrdersUptoRow.holds Try.pinned (OpenSpec.upto fnExactShareOrdersSpec)

/-- 'laws.FnExactShareSign', WHERE WHAT IT READS IS OF BULK AT MOST 1048576: true; the input reads as it did. -/
def fnExactShareSignUptoRow : OpenClaim := { program := "ytgcicmlfalmamaa", sum := "e6566844ae00e6c9f91c748b8385225ee090b6419c4159bd3774a3e6e2506277", func := "loop.example/symmetricsums/laws.FnExactShareSign", spec := "fnExactShareSign", unfollowed := true, recurses := true, apart := false, narrowed := true }
def FnExactShareSignUptoSaid : Prop := fnExactShareSignUptoRow.holds Try.pinned (OpenSpec.upto fnExactShareSignSpec)

/-- 'laws.FnExactShareCells', WHERE WHAT IT READS IS OF BULK AT MOST 1048576: true; the input reads as it did. -/
def fnExactShareCellsUptoRow : OpenClaim := { program := "ytgcicmlfalmamaa", sum := "e6566844ae00e6c9f91c748b8385225ee090b6419c4159bd3774a3e6e2506277", func := "loop.example/symmetricsums/laws.FnExactShareCells", spec := "fnExactShareCells", unfollowed := true, recurses := true, apart := false, narrowed := true }
def FnExactShareCellsUptoSaid : Prop := fnExactShareCellsUptoRow.holds Try.pinned (OpenSpec.upto fnExactShareCellsSpec)

/-- 'laws.FnExactShareLists', WHERE WHAT IT READS IS OF BULK AT MOST 1048576: true; the input reads as it did. -/
def fnExactShareListsUptoRow : OpenClaim := { program := "ytgcicmlfalmamaa", sum := "e6566844ae00e6c9f91c748b8385225ee090b6419c4159bd3774a3e6e2506277", func := "loop.example/symmetricsums/laws.FnExactShareLists", spec := "fnExactShareLists", unfollowed := true, recurses := true, apart := false, narrowed := true }
def FnExactShareListsUptoSaid : Prop := fnExactShareListsUptoRow.holds Try.pinned (OpenSpec.upto fnExactShareListsSpec)

/-- 'laws.FnExactShareLower', WHERE WHAT IT READS IS OF BULK AT MOST 1048576: true; the input reads as it did. -/
def fnExactShareLowerUptoRow : OpenClaim := { program := "ytgcicmlfalmamaa", sum := "e6566844ae00e6c9f91c748b8385225ee090b6419c4159bd3774a3e6e2506277", func := "loop.example/symmetricsums/laws.FnExactShareLower", spec := "fnExactShareLower", unfollowed := true, recurses := true, apart := false, narrowed := true }
def FnExactShareLowerUptoSaid : Prop := fnExactShareLowerUptoRow.holds Try.pinned (OpenSpec.upto fnExactShareLowerSpec)

end Rows
end Go.Proofs.Ytgcicmlfalmamaa
