/-
  No cell of these rows narrows 'for every input' (looked for: loops, veiled, ifaces, maps, wideKeys, modest, calm, conditions, laid).
  DERIVED. THE GIVEN ROWS OF THIS SEAT. 10 by the template 'for every input the law returns true; each argument reads behind the call as it read before'; 0 by the template 'total and deterministic' (their statements: YtcjemdcffmfloaaTotals.lean).
  GIVEN WITH THE SEED: the statements are not yours to turn. If you find one false, say at which input.
  Laid BY PROGRAM, IN A SANDBOX (cutbox-rows.mjs): the forced cells as the released guide's own fill.sh prints them over the translation a91d1d6fcd8f76ef… (all of the seat's roots in one cut). By AI agents, Wed Nov 11 2026. No macro, syntax, notation, axiom, sorry.
-/
import Derived.Test.YtcjemdcffmfloaaChecked
import GoSem.Claim
import GoSem.ClaimJoined
import GoSem.ClaimMapViews
import Derived.JoinedTies
import Derived.KernelRfl
namespace Go.Proofs.Ytcjemdcffmfloaa
/- THE CELL 'sum', in the pinned program and in every row, IS THE sha256 OF THE DUMP (.gsa) THAT YtcjemdcffmfloaaProg.lean LOADS. Nothing in Lean hashes anything: it is a label: what it is worth is what the hold of that sum in a sandbox is worth. -/
noncomputable def Try.pinned : Pinned := { name := "ytcjemdcffmfloaa", sum := "a91d1d6fcd8f76ef2bb5c210935977b4c2ced0bcc0990f9f090ad3ad84c877b9", checked := Try.checked }
namespace Rows
def none {H : Type} : Left H := { results := [], args := [] }

/-- 'laws.FnExactShareJoin': WHATEVER THE INPUT: true; the input reads as it did. -/
def fnExactShareJoinSpec : ChangeSpec := { name := "fnExactShareJoin", fn := fun _ => fun
  | [d1, d2] => { results := [.lit (.bool true)], args := [d1, d2] }
  | _ => none }
def fnExactShareJoinRow : OpenClaim := { program := "ytcjemdcffmfloaa", sum := "a91d1d6fcd8f76ef2bb5c210935977b4c2ced0bcc0990f9f090ad3ad84c877b9", func := "loop.example/symmetricsums/laws.FnExactShareJoin", spec := "fnExactShareJoin", recurses := true, plainKeys := false, apart := false }
def FnExactShareJoinSaid : Prop := fnExactShareJoinRow.holds Try.pinned (OpenSpec.ofChange fnExactShareJoinSpec)

/-- ITS FALSE NEIGHBOUR: 'it returns false'. Refute it at one input. -/
def fnExactShareJoinWrong : ChangeSpec := { name := "fnExactShareJoin", fn := fun _ => fun
  | [d1, d2] => { results := [.lit (.bool false)], args := [d1, d2] }
  | _ => none }
def FnExactShareJoinWrongFalsely : Prop := fnExactShareJoinRow.holds Try.pinned (OpenSpec.ofChange fnExactShareJoinWrong)

/-- 'laws.FnExactShareLower': WHATEVER THE INPUT: true; the input reads as it did. -/
def fnExactShareLowerSpec : ChangeSpec := { name := "fnExactShareLower", fn := fun _ => fun
  | [d] => { results := [.lit (.bool true)], args := [d] }
  | _ => none }
def fnExactShareLowerRow : OpenClaim := { program := "ytcjemdcffmfloaa", sum := "a91d1d6fcd8f76ef2bb5c210935977b4c2ced0bcc0990f9f090ad3ad84c877b9", func := "loop.example/symmetricsums/laws.FnExactShareLower", spec := "fnExactShareLower", unfollowed := true, recurses := true, plainKeys := false, apart := false }
def FnExactShareLowerSaid : Prop := fnExactShareLowerRow.holds Try.pinned (OpenSpec.ofChange fnExactShareLowerSpec)

/-- ITS FALSE NEIGHBOUR: 'it returns false'. Refute it at one input. -/
def fnExactShareLowerWrong : ChangeSpec := { name := "fnExactShareLower", fn := fun _ => fun
  | [d] => { results := [.lit (.bool false)], args := [d] }
  | _ => none }
def FnExactShareLowerWrongFalsely : Prop := fnExactShareLowerRow.holds Try.pinned (OpenSpec.ofChange fnExactShareLowerWrong)

/-- 'laws.FnExactStripRow': WHATEVER THE INPUT: true; the input reads as it did. -/
def fnExactStripRowSpec : ChangeSpec := { name := "fnExactStripRow", fn := fun _ => fun
  | [d1, d2] => { results := [.lit (.bool true)], args := [d1, d2] }
  | _ => none }
def fnExactStripRowRow : OpenClaim := { program := "ytcjemdcffmfloaa", sum := "a91d1d6fcd8f76ef2bb5c210935977b4c2ced0bcc0990f9f090ad3ad84c877b9", func := "loop.example/symmetricsums/laws.FnExactStripRow", spec := "fnExactStripRow", unfollowed := true, recurses := true, plainKeys := false, apart := false }
def FnExactStripRowSaid : Prop := fnExactStripRowRow.holds Try.pinned (OpenSpec.ofChange fnExactStripRowSpec)

/-- ITS FALSE NEIGHBOUR: 'it returns false'. Refute it at one input. -/
def fnExactStripRowWrong : ChangeSpec := { name := "fnExactStripRow", fn := fun _ => fun
  | [d1, d2] => { results := [.lit (.bool false)], args := [d1, d2] }
  | _ => none }
def FnExactStripRowWrongFalsely : Prop := fnExactStripRowRow.holds Try.pinned (OpenSpec.ofChange fnExactStripRowWrong)

/-- 'laws.FnExactStripColumn': WHATEVER THE INPUT: true; the input reads as it did. -/
def fnExactStripColumnSpec : ChangeSpec := { name := "fnExactStripColumn", fn := fun _ => fun
  | [d1, d2] => { results := [.lit (.bool true)], args := [d1, d2] }
  | _ => none }
def fnExactStripColumnRow : OpenClaim := { program := "ytcjemdcffmfloaa", sum := "a91d1d6fcd8f76ef2bb5c210935977b4c2ced0bcc0990f9f090ad3ad84c877b9", func := "loop.example/symmetricsums/laws.FnExactStripColumn", spec := "fnExactStripColumn", unfollowed := true, recurses := true, plainKeys := false, apart := false }
def FnExactStripColumnSaid : Prop := fnExactStripColumnRow.holds Try.pinned (OpenSpec.ofChange fnExactStripColumnSpec)

/-- ITS FALSE NEIGHBOUR: 'it returns false'. Refute it at one input. -/
def fnExactStripColumnWrong : ChangeSpec := { name := "fnExactStripColumn", fn := fun _ => fun
  | [d1, d2] => { results := [.lit (.bool false)], args := [d1, d2] }
  | _ => none }
def FnExactStripColumnWrongFalsely : Prop := fnExactStripColumnRow.holds Try.pinned (OpenSpec.ofChange fnExactStripColumnWrong)

/-- 'laws.FnExactProductNumber': WHATEVER THE INPUT: true; the input reads as it did. -/
def fnExactProductNumberSpec : ChangeSpec := { name := "fnExactProductNumber", fn := fun _ => fun
  | [d1, d2, d3] => { results := [.lit (.bool true)], args := [d1, d2, d3] }
  | _ => none }
def fnExactProductNumberRow : OpenClaim := { program := "ytcjemdcffmfloaa", sum := "a91d1d6fcd8f76ef2bb5c210935977b4c2ced0bcc0990f9f090ad3ad84c877b9", func := "loop.example/symmetricsums/laws.FnExactProductNumber", spec := "fnExactProductNumber", recurses := true, plainKeys := false, apart := false }
def FnExactProductNumberSaid : Prop := fnExactProductNumberRow.holds Try.pinned (OpenSpec.ofChange fnExactProductNumberSpec)

/-- ITS FALSE NEIGHBOUR: 'it returns false'. Refute it at one input. -/
def fnExactProductNumberWrong : ChangeSpec := { name := "fnExactProductNumber", fn := fun _ => fun
  | [d1, d2, d3] => { results := [.lit (.bool false)], args := [d1, d2, d3] }
  | _ => none }
def FnExactProductNumberWrongFalsely : Prop := fnExactProductNumberRow.holds Try.pinned (OpenSpec.ofChange fnExactProductNumberWrong)

/-- 'laws.FnExactProductRow': WHATEVER THE INPUT: true; the input reads as it did. -/
def fnExactProductRowSpec : ChangeSpec := { name := "fnExactProductRow", fn := fun _ => fun
  | [d1, d2] => { results := [.lit (.bool true)], args := [d1, d2] }
  | _ => none }
def fnExactProductRowRow : OpenClaim := { program := "ytcjemdcffmfloaa", sum := "a91d1d6fcd8f76ef2bb5c210935977b4c2ced0bcc0990f9f090ad3ad84c877b9", func := "loop.example/symmetricsums/laws.FnExactProductRow", spec := "fnExactProductRow", unfollowed := true, recurses := true, plainKeys := false, apart := false }
def FnExactProductRowSaid : Prop := fnExactProductRowRow.holds Try.pinned (OpenSpec.ofChange fnExactProductRowSpec)

/-- ITS FALSE NEIGHBOUR: 'it returns false'. Refute it at one input. -/
def fnExactProductRowWrong : ChangeSpec := { name := "fnExactProductRow", fn := fun _ => fun
  | [d1, d2] => { results := [.lit (.bool false)], args := [d1, d2] }
  | _ => none }
def FnExactProductRowWrongFalsely : Prop := fnExactProductRowRow.holds Try.pinned (OpenSpec.ofChange fnExactProductRowWrong)

/-- 'laws.FnExactRestSum': WHATEVER THE INPUT: true; the input reads as it did. -/
def fnExactRestSumSpec : ChangeSpec := { name := "fnExactRestSum", fn := fun _ => fun
  | [d1, d2] => { results := [.lit (.bool true)], args := [d1, d2] }
  | _ => none }
def fnExactRestSumRow : OpenClaim := { program := "ytcjemdcffmfloaa", sum := "a91d1d6fcd8f76ef2bb5c210935977b4c2ced0bcc0990f9f090ad3ad84c877b9", func := "loop.example/symmetricsums/laws.FnExactRestSum", spec := "fnExactRestSum", unfollowed := true, recurses := true, plainKeys := false, apart := false }
def FnExactRestSumSaid : Prop := fnExactRestSumRow.holds Try.pinned (OpenSpec.ofChange fnExactRestSumSpec)

/-- ITS FALSE NEIGHBOUR: 'it returns false'. Refute it at one input. -/
def fnExactRestSumWrong : ChangeSpec := { name := "fnExactRestSum", fn := fun _ => fun
  | [d1, d2] => { results := [.lit (.bool false)], args := [d1, d2] }
  | _ => none }
def FnExactRestSumWrongFalsely : Prop := fnExactRestSumRow.holds Try.pinned (OpenSpec.ofChange fnExactRestSumWrong)

/-- 'laws.FnExactProductWays': WHATEVER THE INPUT: true; the input reads as it did. -/
def fnExactProductWaysSpec : ChangeSpec := { name := "fnExactProductWays", fn := fun _ => fun
  | [d1, d2] => { results := [.lit (.bool true)], args := [d1, d2] }
  | _ => none }
def fnExactProductWaysRow : OpenClaim := { program := "ytcjemdcffmfloaa", sum := "a91d1d6fcd8f76ef2bb5c210935977b4c2ced0bcc0990f9f090ad3ad84c877b9", func := "loop.example/symmetricsums/laws.FnExactProductWays", spec := "fnExactProductWays", recurses := true, plainKeys := false, apart := false }
def FnExactProductWaysSaid : Prop := fnExactProductWaysRow.holds Try.pinned (OpenSpec.ofChange fnExactProductWaysSpec)

/-- ITS FALSE NEIGHBOUR: 'it returns false'. Refute it at one input. -/
def fnExactProductWaysWrong : ChangeSpec := { name := "fnExactProductWays", fn := fun _ => fun
  | [d1, d2] => { results := [.lit (.bool false)], args := [d1, d2] }
  | _ => none }
def FnExactProductWaysWrongFalsely : Prop := fnExactProductWaysRow.holds Try.pinned (OpenSpec.ofChange fnExactProductWaysWrong)

/-- 'laws.FnExactDiagRest': WHATEVER THE INPUT: true; the input reads as it did. -/
def fnExactDiagRestSpec : ChangeSpec := { name := "fnExactDiagRest", fn := fun _ => fun
  | [d1, d2, d3] => { results := [.lit (.bool true)], args := [d1, d2, d3] }
  | _ => none }
def fnExactDiagRestRow : OpenClaim := { program := "ytcjemdcffmfloaa", sum := "a91d1d6fcd8f76ef2bb5c210935977b4c2ced0bcc0990f9f090ad3ad84c877b9", func := "loop.example/symmetricsums/laws.FnExactDiagRest", spec := "fnExactDiagRest", unfollowed := true, recurses := true, plainKeys := false, apart := false }
def FnExactDiagRestSaid : Prop := fnExactDiagRestRow.holds Try.pinned (OpenSpec.ofChange fnExactDiagRestSpec)

/-- ITS FALSE NEIGHBOUR: 'it returns false'. Refute it at one input. -/
def fnExactDiagRestWrong : ChangeSpec := { name := "fnExactDiagRest", fn := fun _ => fun
  | [d1, d2, d3] => { results := [.lit (.bool false)], args := [d1, d2, d3] }
  | _ => none }
def FnExactDiagRestWrongFalsely : Prop := fnExactDiagRestRow.holds Try.pinned (OpenSpec.ofChange fnExactDiagRestWrong)

/-- 'laws.FnExactDiagRestFull': WHATEVER THE INPUT: true; the input reads as it did. -/
def fnExactDiagRestFullSpec : ChangeSpec := { name := "fnExactDiagRestFull", fn := fun _ => fun
  | [d1, d2, d3] => { results := [.lit (.bool true)], args := [d1, d2, d3] }
  | _ => none }
def fnExactDiagRestFullRow : OpenClaim := { program := "ytcjemdcffmfloaa", sum := "a91d1d6fcd8f76ef2bb5c210935977b4c2ced0bcc0990f9f090ad3ad84c877b9", func := "loop.example/symmetricsums/laws.FnExactDiagRestFull", spec := "fnExactDiagRestFull", unfollowed := true, recurses := true, plainKeys := false, apart := false }
def FnExactDiagRestFullSaid : Prop := fnExactDiagRestFullRow.holds Try.pinned (OpenSpec.ofChange fnExactDiagRestFullSpec)

/-- ITS FALSE NEIGHBOUR: 'it returns false'. Refute it at one input. -/
def fnExactDiagRestFullWrong : ChangeSpec := { name := "fnExactDiagRestFull", fn := fun _ => fun
  | [d1, d2, d3] => { results := [.lit (.bool false)], args := [d1, d2, d3] }
  | _ => none }
def FnExactDiagRestFullWrongFalsely : Prop := fnExactDiagRestFullRow.holds Try.pinned (OpenSpec.ofChange fnExactDiagRestFullWrong)

/- THE SECOND FORM. 'bulk': how many values and letters a reading holds, each counted each time it is reached (what is shared counts as often as it is met; a slice's spare places count too). A statement '..UptoSaid' is the law's where the arguments, and the package variables that the reading takes, are together of bulk at most 1048576: NARROWER than '..Said'. Prove '..Said' where nothing that the law and all that it calls make is longer than what came in: it says more and counts as full. Else prove '..UptoSaid'. A law counts once. -/
mutual
def uptoBulk {H : Type} : DataW H → Nat
  | .lit (.string bytes) => bytes.length + 1
  | .lit _ => 1
  | .nil => 1
  | .ptr d => uptoBulk d + 1
  | .slice elems spare => uptoBulkAll elems + uptoBulkAll spare + 1
  | .agg parts => uptoBulkAll parts + 1
  | .iface _ d => uptoBulk d + 1
  | .map entries => uptoBulkEntries entries + 1
  | .held _ => 1
def uptoBulkAll {H : Type} : List (DataW H) → Nat
  | [] => 0
  | d :: r => uptoBulk d + uptoBulkAll r
def uptoBulkEntries {H : Type} : List (Lit × DataW H) → Nat
  | [] => 0
  | x :: r => uptoBulkEntry x + uptoBulkEntries r
def uptoBulkEntry {H : Type} : Lit × DataW H → Nat
  | (.string bytes, d) => bytes.length + uptoBulk d + 1
  | (_, d) => uptoBulk d + 1
 end
def uptoSmall : (H : Type) → List (DataW H) → Bool := fun _ ds => decide (uptoBulkAll ds ≤ 1048576)
def OpenSpec.upto (s : _root_.Go.ChangeSpec) : _root_.Go.OpenSpec := { _root_.Go.OpenSpec.ofChange s with cond := some uptoSmall }

/-- 'laws.FnExactShareJoin', WHERE WHAT IT READS IS OF BULK AT MOST 1048576: true; the input reads as it did. -/
def fnExactShareJoinUptoRow : OpenClaim := { program := "ytcjemdcffmfloaa", sum := "a91d1d6fcd8f76ef2bb5c210935977b4c2ced0bcc0990f9f090ad3ad84c877b9", func := "loop.example/symmetricsums/laws.FnExactShareJoin", spec := "fnExactShareJoin", recurses := true, plainKeys := false, apart := false, narrowed := true }
def FnExactShareJoinUptoSaid : Prop := fnExactShareJoinUptoRow.holds Try.pinned (OpenSpec.upto fnExactShareJoinSpec)

/-- 'laws.FnExactShareLower', WHERE WHAT IT READS IS OF BULK AT MOST 1048576: true; the input reads as it did. -/
def fnExactShareLowerUptoRow : OpenClaim := { program := "ytcjemdcffmfloaa", sum := "a91d1d6fcd8f76ef2bb5c210935977b4c2ced0bcc0990f9f090ad3ad84c877b9", func := "loop.example/symmetricsums/laws.FnExactShareLower", spec := "fnExactShareLower", unfollowed := true, recurses := true, plainKeys := false, apart := false, narrowed := true }
def FnExactShareLowerUptoSaid : Prop := fnExactShareLowerUptoRow.holds Try.pinned (OpenSpec.upto fnExactShareLowerSpec)

/-- 'laws.FnExactStripRow', WHERE WHAT IT READS IS OF BULK AT MOST 1048576: true; the input reads as it did. -/
def fnExactStripRowUptoRow : OpenClaim := { program := "ytcjemdcffmfloaa", sum := "a91d1d6fcd8f76ef2bb5c210935977b4c2ced0bcc0990f9f090ad3ad84c877b9", func := "loop.example/symmetricsums/laws.FnExactStripRow", spec := "fnExactStripRow", unfollowed := true, recurses := true, plainKeys := false, apart := false, narrowed := true }
def FnExactStripRowUptoSaid : Prop := fnExactStripRowUptoRow.holds Try.pinned (OpenSpec.upto fnExactStripRowSpec)

/-- 'laws.FnExactStripColumn', WHERE WHAT IT READS IS OF BULK AT MOST 1048576: true; the input reads as it did. -/
def fnExactStripColumnUptoRow : OpenClaim := { program := "ytcjemdcffmfloaa", sum := "a91d1d6fcd8f76ef2bb5c210935977b4c2ced0bcc0990f9f090ad3ad84c877b9", func := "loop.example/symmetricsums/laws.FnExactStripColumn", spec := "fnExactStripColumn", unfollowed := true, recurses := true, plainKeys := false, apart := false, narrowed := true }
def FnExactStripColumnUptoSaid : Prop := fnExactStripColumnUptoRow.holds Try.pinned (OpenSpec.upto fnExactStripColumnSpec)

/-- 'laws.FnExactProductNumber', WHERE WHAT IT READS IS OF BULK AT MOST 1048576: true; the input reads as it did. -/
def fnExactProductNumberUptoRow : OpenClaim := { program := "ytcjemdcffmfloaa", sum := "a91d1d6fcd8f76ef2bb5c210935977b4c2ced0bcc0990f9f090ad3ad84c877b9", func := "loop.example/symmetricsums/laws.FnExactProductNumber", spec := "fnExactProductNumber", recurses := true, plainKeys := false, apart := false, narrowed := true }
def FnExactProductNumberUptoSaid : Prop := fnExactProductNumberUptoRow.holds Try.pinned (OpenSpec.upto fnExactProductNumberSpec)

/-- 'laws.FnExactProductRow', WHERE WHAT IT READS IS OF BULK AT MOST 1048576: true; the input reads as it did. -/
def fnExactProductRowUptoRow : OpenClaim := { program := "ytcjemdcffmfloaa", sum := "a91d1d6fcd8f76ef2bb5c210935977b4c2ced0bcc0990f9f090ad3ad84c877b9", func := "loop.example/symmetricsums/laws.FnExactProductRow", spec := "fnExactProductRow", unfollowed := true, recurses := true, plainKeys := false, apart := false, narrowed := true }
def FnExactProductRowUptoSaid : Prop := fnExactProductRowUptoRow.holds Try.pinned (OpenSpec.upto fnExactProductRowSpec)

/-- 'laws.FnExactRestSum', WHERE WHAT IT READS IS OF BULK AT MOST 1048576: true; the input reads as it did. -/
def fnExactRestSumUptoRow : OpenClaim := { program := "ytcjemdcffmfloaa", sum := "a91d1d6fcd8f76ef2bb5c210935977b4c2ced0bcc0990f9f090ad3ad84c877b9", func := "loop.example/symmetricsums/laws.FnExactRestSum", spec := "fnExactRestSum", unfollowed := true, recurses := true, plainKeys := false, apart := false, narrowed := true }
def FnExactRestSumUptoSaid : Prop := fnExactRestSumUptoRow.holds Try.pinned (OpenSpec.upto fnExactRestSumSpec)

/-- 'laws.FnExactProductWays', WHERE WHAT IT READS IS OF BULK AT MOST 1048576: true; the input reads as it did. -/
def fnExactProductWaysUptoRow : OpenClaim := { program := "ytcjemdcffmfloaa", sum := "a91d1d6fcd8f76ef2bb5c210935977b4c2ced0bcc0990f9f090ad3ad84c877b9", func := "loop.example/symmetricsums/laws.FnExactProductWays", spec := "fnExactProductWays", recurses := true, plainKeys := false, apart := false, narrowed := true }
def FnExactProductWaysUptoSaid : Prop := fnExactProductWaysUptoRow.holds Try.pinned (OpenSpec.upto fnExactProductWaysSpec)

/-- 'laws.FnExactDiagRest', WHERE WHAT IT READS IS OF BULK AT MOST 1048576: true; the input reads as it did. -/
def fnExactDiagRestUptoRow : OpenClaim := { program := "ytcjemdcffmfloaa", sum := "a91d1d6fcd8f76ef2bb5c210935977b4c2ced0bcc0990f9f090ad3ad84c877b9", func := "loop.example/symmetricsums/laws.FnExactDiagRest", spec := "fnExactDiagRest", unfollowed := true, recurses := true, plainKeys := false, apart := false, narrowed := true }
def FnExactDiagRestUptoSaid : Prop := fnExactDiagRestUptoRow.holds Try.pinned (OpenSpec.upto fnExactDiagRestSpec)

/-- 'laws.FnExactDiagRestFull', WHERE WHAT IT READS IS OF BULK AT MOST 1048576: true; the input reads as it did. -/
def fnExactDiagRestFullUptoRow : OpenClaim := { program := "ytcjemdcffmfloaa", sum := "a91d1d6fcd8f76ef2bb5c210935977b4c2ced0bcc0990f9f090ad3ad84c877b9", func := "loop.example/symmetricsums/laws.FnExactDiagRestFull", spec := "fnExactDiagRestFull", unfollowed := true, recurses := true, plainKeys := false, apart := false, narrowed := true }
def FnExactDiagRestFullUptoSaid : Prop := fnExactDiagRestFullUptoRow.holds Try.pinned (OpenSpec.upto fnExactDiagRestFullSpec)

end Rows
end Go.Proofs.Ytcjemdcffmfloaa
