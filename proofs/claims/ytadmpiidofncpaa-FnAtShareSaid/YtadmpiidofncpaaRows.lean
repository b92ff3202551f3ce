/-
  No cell of these rows narrows 'for every input' (looked for: loops, veiled, ifaces, maps, wideKeys, modest, calm, conditions, laid).
  DERIVED. THE GIVEN ROWS OF THIS SEAT. 10 by the template 'for every input the law returns true; each argument reads behind the call as it read before'; 0 by the template 'total and deterministic' (their statements: YtadmpiidofncpaaTotals.lean).
  GIVEN WITH THE SEED: the statements are not yours to turn. If you find one false, say at which input.
  Laid BY PROGRAM, IN A SANDBOX (cutbox-rows.mjs): the forced cells as the released guide's own fill.sh prints them over the translation 710161832077f34d… (all of the seat's roots in one cut). By AI agents, Wed Nov 11 2026. No macro, syntax, notation, axiom, sorry.
-/
import Derived.Test.YtadmpiidofncpaaChecked
import GoSem.Claim
import GoSem.ClaimJoined
import GoSem.ClaimMapViews
import Derived.JoinedTies
import Derived.KernelRfl
namespace Go.Proofs.Ytadmpiidofncpaa
/- THE CELL 'sum', in the pinned program and in every row, IS THE sha256 OF THE DUMP (.gsa) THAT YtadmpiidofncpaaProg.lean LOADS. Nothing in Lean hashes anything: it is a label: what it is worth is what the hold of that sum in a sandbox is worth. -/
noncomputable def Try.pinned : Pinned := { name := "ytadmpiidofncpaa", sum := "710161832077f34d30bee1c9103936bf3b0c2b2ef9889f524975b438867c7cee", checked := Try.checked }
namespace Rows
def none {H : Type} : Left H := { results := [], args := [] }

/-- 'laws.FnAtShare': WHATEVER THE INPUT: true; the input reads as it did. -/
def fnAtShareSpec : ChangeSpec := { name := "fnAtShare", fn := fun _ => fun
  | [d] => { results := [.lit (.bool true)], args := [d] }
  | _ => none }
def fnAtShareRow : OpenClaim := { program := "ytadmpiidofncpaa", sum := "710161832077f34d30bee1c9103936bf3b0c2b2ef9889f524975b438867c7cee", func := "loop.example/symmetricsums/laws.FnAtShare", spec := "fnAtShare", unfollowed := true, recurses := true, plainKeys := false, apart := false }
def FnAtShareSaid : Prop := fnAtShareRow.holds Try.pinned (OpenSpec.ofChange fnAtShareSpec)

/-- ITS FALSE NEIGHBOUR: 'it returns false'. Refute it at one input. -/
def fnAtShareWrong : ChangeSpec := { name := "fnAtShare", fn := fun _ => fun
  | [d] => { results := [.lit (.bool false)], args := [d] }
  | _ => none }
def FnAtShareWrongFalsely : Prop := fnAtShareRow.holds Try.pinned (OpenSpec.ofChange fnAtShareWrong)

/-- 'laws.FnMuirhead': WHATEVER THE INPUT: true; the input reads as it did. -/
def fnMuirheadSpec : ChangeSpec := { name := "fnMuirhead", fn := fun _ => fun
  | [d] => { results := [.lit (.bool true)], args := [d] }
  | _ => none }
def fnMuirheadRow : OpenClaim := { program := "ytadmpiidofncpaa", sum := "710161832077f34d30bee1c9103936bf3b0c2b2ef9889f524975b438867c7cee", func := "loop.example/symmetricsums/laws.FnMuirhead", spec := "fnMuirhead", unfollowed := true, recurses := true, plainKeys := false, apart := false }
def FnMuirheadSaid : Prop := fnMuirheadRow.holds Try.pinned (OpenSpec.ofChange fnMuirheadSpec)

/-- ITS FALSE NEIGHBOUR: 'it returns false'. Refute it at one input. -/
def fnMuirheadWrong : ChangeSpec := { name := "fnMuirhead", fn := fun _ => fun
  | [d] => { results := [.lit (.bool false)], args := [d] }
  | _ => none }
def FnMuirheadWrongFalsely : Prop := fnMuirheadRow.holds Try.pinned (OpenSpec.ofChange fnMuirheadWrong)

/-- 'laws.FnExactDiagRest': WHATEVER THE INPUT: true; the input reads as it did. -/
def fnExactDiagRestSpec : ChangeSpec := { name := "fnExactDiagRest", fn := fun _ => fun
  | [d1, d2, d3] => { results := [.lit (.bool true)], args := [d1, d2, d3] }
  | _ => none }
def fnExactDiagRestRow : OpenClaim := { program := "ytadmpiidofncpaa", sum := "710161832077f34d30bee1c9103936bf3b0c2b2ef9889f524975b438867c7cee", func := "loop.example/symmetricsums/laws.FnExactDiagRest", spec := "fnExactDiagRest", unfollowed := true, recurses := true, plainKeys := false, apart := false }
def FnExactDiagRestSaid : Prop := fnExactDiagRestRow.holds Try.pinned (OpenSpec.ofChange fnExactDiagRestSpec)

/-- ITS FALSE NEIGHBOUR: 'it returns false'. Refute it at one input. -/
def fnExactDiagRestWrong : ChangeSpec := { name := "fnExactDiagRest", fn := fun _ => fun
  | [d1, d2, d3] => { results := [.lit (.bool false)], args := [d1, d2, d3] }
  | _ => none }
def FnExactDiagRestWrongFalsely : Prop := fnExactDiagRestRow.holds Try.pinned (OpenSpec.ofChange fnExactDiagRestWrong)

/-- 'laws.FnHolds': WHATEVER THE INPUT: true; the input reads as it did. -/
def fnHoldsSpec : ChangeSpec := { name := "fnHolds", fn := fun _ => fun
  | [d] => { results := [.lit (.bool true)], args := [d] }
  | _ => none }
def fnHoldsRow : OpenClaim := { program := "ytadmpiidofncpaa", sum := "710161832077f34d30bee1c9103936bf3b0c2b2ef9889f524975b438867c7cee", func := "loop.example/symmetricsums/laws.FnHolds", spec := "fnHolds", unfollowed := true, recurses := true, plainKeys := false, apart := false }
def FnHoldsSaid : Prop := fnHoldsRow.holds Try.pinned (OpenSpec.ofChange fnHoldsSpec)

/-- ITS FALSE NEIGHBOUR: 'it returns false'. Refute it at one input. -/
def fnHoldsWrong : ChangeSpec := { name := "fnHolds", fn := fun _ => fun
  | [d] => { results := [.lit (.bool false)], args := [d] }
  | _ => none }
def FnHoldsWrongFalsely : Prop := fnHoldsRow.holds Try.pinned (OpenSpec.ofChange fnHoldsWrong)

/-- 'laws.FnRestSplit': WHATEVER THE INPUT: true; the input reads as it did. -/
def fnRestSplitSpec : ChangeSpec := { name := "fnRestSplit", fn := fun _ => fun
  | [d] => { results := [.lit (.bool true)], args := [d] }
  | _ => none }
def fnRestSplitRow : OpenClaim := { program := "ytadmpiidofncpaa", sum := "710161832077f34d30bee1c9103936bf3b0c2b2ef9889f524975b438867c7cee", func := "loop.example/symmetricsums/laws.FnRestSplit", spec := "fnRestSplit", unfollowed := true, recurses := true, plainKeys := false, apart := false }
def FnRestSplitSaid : Prop := fnRestSplitRow.holds Try.pinned (OpenSpec.ofChange fnRestSplitSpec)

/-- ITS FALSE NEIGHBOUR: 'it returns false'. Refute it at one input. -/
def fnRestSplitWrong : ChangeSpec := { name := "fnRestSplit", fn := fun _ => fun
  | [d] => { results := [.lit (.bool false)], args := [d] }
  | _ => none }
def FnRestSplitWrongFalsely : Prop := fnRestSplitRow.holds Try.pinned (OpenSpec.ofChange fnRestSplitWrong)

/-- 'laws.FnRestFull': WHATEVER THE INPUT: true; the input reads as it did. -/
def fnRestFullSpec : ChangeSpec := { name := "fnRestFull", fn := fun _ => fun
  | [d] => { results := [.lit (.bool true)], args := [d] }
  | _ => none }
def fnRestFullRow : OpenClaim := { program := "ytadmpiidofncpaa", sum := "710161832077f34d30bee1c9103936bf3b0c2b2ef9889f524975b438867c7cee", func := "loop.example/symmetricsums/laws.FnRestFull", spec := "fnRestFull", unfollowed := true, recurses := true, plainKeys := false, apart := false }
def FnRestFullSaid : Prop := fnRestFullRow.holds Try.pinned (OpenSpec.ofChange fnRestFullSpec)

/-- ITS FALSE NEIGHBOUR: 'it returns false'. Refute it at one input. -/
def fnRestFullWrong : ChangeSpec := { name := "fnRestFull", fn := fun _ => fun
  | [d] => { results := [.lit (.bool false)], args := [d] }
  | _ => none }
def FnRestFullWrongFalsely : Prop := fnRestFullRow.holds Try.pinned (OpenSpec.ofChange fnRestFullWrong)

/-- 'laws.FnExactDiagRestFull': WHATEVER THE INPUT: true; the input reads as it did. -/
def fnExactDiagRestFullSpec : ChangeSpec := { name := "fnExactDiagRestFull", fn := fun _ => fun
  | [d1, d2, d3] => { results := [.lit (.bool true)], args := [d1, d2, d3] }
  | _ => none }
def fnExactDiagRestFullRow : OpenClaim := { program := "ytadmpiidofncpaa", sum := "710161832077f34d30bee1c9103936bf3b0c2b2ef9889f524975b438867c7cee", func := "loop.example/symmetricsums/laws.FnExactDiagRestFull", spec := "fnExactDiagRestFull", unfollowed := true, recurses := true, plainKeys := false, apart := false }
def FnExactDiagRestFullSaid : Prop := fnExactDiagRestFullRow.holds Try.pinned (OpenSpec.ofChange fnExactDiagRestFullSpec)

/-- ITS FALSE NEIGHBOUR: 'it returns false'. Refute it at one input. -/
def fnExactDiagRestFullWrong : ChangeSpec := { name := "fnExactDiagRestFull", fn := fun _ => fun
  | [d1, d2, d3] => { results := [.lit (.bool false)], args := [d1, d2, d3] }
  | _ => none }
def FnExactDiagRestFullWrongFalsely : Prop := fnExactDiagRestFullRow.holds Try.pinned (OpenSpec.ofChange fnExactDiagRestFullWrong)

/-- 'laws.FnRest': WHATEVER THE INPUT: true; the input reads as it did. -/
def fnRestSpec : ChangeSpec := { name := "fnRest", fn := fun _ => fun
  | [d] => { results := [.lit (.bool true)], args := [d] }
  | _ => none }
def fnRestRow : OpenClaim := { program := "ytadmpiidofncpaa", sum := "710161832077f34d30bee1c9103936bf3b0c2b2ef9889f524975b438867c7cee", func := "loop.example/symmetricsums/laws.FnRest", spec := "fnRest", unfollowed := true, recurses := true, plainKeys := false, apart := false }
def FnRestSaid : Prop := fnRestRow.holds Try.pinned (OpenSpec.ofChange fnRestSpec)

/-- ITS FALSE NEIGHBOUR: 'it returns false'. Refute it at one input. -/
def fnRestWrong : ChangeSpec := { name := "fnRest", fn := fun _ => fun
  | [d] => { results := [.lit (.bool false)], args := [d] }
  | _ => none }
def FnRestWrongFalsely : Prop := fnRestRow.holds Try.pinned (OpenSpec.ofChange fnRestWrong)

/-- 'laws.FnRestSum': WHATEVER THE INPUT: true; the input reads as it did. -/
def fnRestSumSpec : ChangeSpec := { name := "fnRestSum", fn := fun _ => fun
  | [d] => { results := [.lit (.bool true)], args := [d] }
  | _ => none }
def fnRestSumRow : OpenClaim := { program := "ytadmpiidofncpaa", sum := "710161832077f34d30bee1c9103936bf3b0c2b2ef9889f524975b438867c7cee", func := "loop.example/symmetricsums/laws.FnRestSum", spec := "fnRestSum", unfollowed := true, recurses := true, plainKeys := false, apart := false }
def FnRestSumSaid : Prop := fnRestSumRow.holds Try.pinned (OpenSpec.ofChange fnRestSumSpec)

/-- ITS FALSE NEIGHBOUR: 'it returns false'. Refute it at one input. -/
def fnRestSumWrong : ChangeSpec := { name := "fnRestSum", fn := fun _ => fun
  | [d] => { results := [.lit (.bool false)], args := [d] }
  | _ => none }
def FnRestSumWrongFalsely : Prop := fnRestSumRow.holds Try.pinned (OpenSpec.ofChange fnRestSumWrong)

/-- 'laws.FnRootFrom': WHATEVER THE INPUT: true; the input reads as it did. -/
def fnRootFromSpec : ChangeSpec := { name := "fnRootFrom", fn := fun _ => fun
  | [d] => { results := [.lit (.bool true)], args := [d] }
  | _ => none }
def fnRootFromRow : OpenClaim := { program := "ytadmpiidofncpaa", sum := "710161832077f34d30bee1c9103936bf3b0c2b2ef9889f524975b438867c7cee", func := "loop.example/symmetricsums/laws.FnRootFrom", spec := "fnRootFrom", unfollowed := true, recurses := true, plainKeys := false, apart := false }
def FnRootFromSaid : Prop := fnRootFromRow.holds Try.pinned (OpenSpec.ofChange fnRootFromSpec)

/-- ITS FALSE NEIGHBOUR: 'it returns false'. Refute it at one input. -/
def fnRootFromWrong : ChangeSpec := { name := "fnRootFrom", fn := fun _ => fun
  | [d] => { results := [.lit (.bool false)], args := [d] }
  | _ => none }
def FnRootFromWrongFalsely : Prop := fnRootFromRow.holds Try.pinned (OpenSpec.ofChange fnRootFromWrong)

/- THE SECOND FORM. 'bulk': how many values and letters a reading holds, each counted each time it is reached (what is shared counts as often as it is met; a slice's spare places count too). A statement '..UptoSaid' is the law's where the arguments, and the package variables that the reading takes, are together of bulk at most 1048576: NARROWER than '..Said'. Prove '..Said' where nothing that the law and all that it calls make is longer than what came in: it says more and counts as full. Else prove '..UptoSaid'. A law counts once. -/
mutual
def uptoBulk {H : Type} : DataW H → Nat
  | .lit (.string bytes) => bytes.length + 1
  | .lit _ => 1
  | .nil => 1
  | .ptr d => uptoBulk d + 1
  | .slice elems spare => uptoBulkAll elems + uptoBulkAll spare + 1
  | .agg parts => uptoBulkAll parts + 1
  | .iface _ d => uptoBulk d + 1
  | .map entries => uptoBulkEntries entries + 1
  | .held _ => 1
def uptoBulkAll {H : Type} : List (DataW H) → Nat
  | [] => 0
  | d :: r => uptoBulk d + uptoBulkAll r
def uptoBulkEntries {H : Type} : List (Lit × DataW H) → Nat
  | [] => 0
  | x :: r => uptoBulkEntry x + uptoBulkEntries r
def uptoBulkEntry {H : Type} : Lit × DataW H → Nat
  | (.string bytes, d) => bytes.length + uptoBulk d + 1
  | (_, d) => uptoBulk d + 1
 end
def uptoSmall : (H : Type) → List (DataW H) → Bool := fun _ ds => decide (uptoBulkAll ds ≤ 1048576)
def OpenSpec.upto (s : _root_.Go.ChangeSpec) : _root_.Go.OpenSpec := { _root_.Go.OpenSpec.ofChange s with cond := some uptoSmall }

/-- 'laws.FnAtShare', WHERE WHAT IT READS IS OF BULK AT MOST 1048576: true; the input reads as it did. -/
def fnAtShareUptoRow : OpenClaim := { program := "ytadmpiidofncpaa", sum := "710161832077f34d30bee1c9103936bf3b0c2b2ef9889f524975b438867c7cee", func := "loop.example/symmetricsums/laws.FnAtShare", spec := "fnAtShare", unfollowed := true, recurses := true, plainKeys := false, apart := false, narrowed := true }
def FnAtShareUptoSaid : Prop := fnAtShareUptoRow.holds Try.pinned (OpenSpec.upto fnAtShareSpec)

/-- 'laws.FnMuirhead', WHERE WHAT IT READS IS OF BULK AT MOST 1048576: true; the input reads as it did. -/
def fnMuirheadUptoRow : OpenClaim := { program := "ytadmpiidofncpaa", sum := "710161832077f34d30bee1c9103936bf3b0c2b2ef9889f524975b438867c7cee", func := "loop.example/symmetricsums/laws.FnMuirhead", spec := "fnMuirhead", unfollowed := true, recurses := true, plainKeys := false, apart := false, narrowed := true }
def FnMuirheadUptoSaid : Prop := fnMuirheadUptoRow.holds Try.pinned (OpenSpec.upto fnMuirheadSpec)

/-- 'laws.FnExactDiagRest', WHERE WHAT IT READS IS OF BULK AT MOST 1048576: true; the input reads as it did. -/
def fnExactDiagRestUptoRow : OpenClaim := { program := "ytadmpiidofncpaa", sum := "710161832077f34d30bee1c9103936bf3b0c2b2ef9889f524975b438867c7cee", func := "loop.example/symmetricsums/laws.FnExactDiagRest", spec := "fnExactDiagRest", unfollowed := true, recurses := true, plainKeys := false, apart := false, narrowed := true }
def FnExactDiagRestUptoSaid : Prop := fnExactDiagRestUptoRow.holds Try.pinned (OpenSpec.upto fnExactDiagRestSpec)

/-- 'laws.FnHolds', WHERE WHAT IT READS IS OF BULK AT MOST 1048576: true; the input reads as it did. -/
def fnHoldsUptoRow : OpenClaim := { program := "ytadmpiidofncpaa", sum := "710161832077f34d30bee1c9103936bf3b0c2b2ef9889f524975b438867c7cee", func := "loop.example/symmetricsums/laws.FnHolds", spec := "fnHolds", unfollowed := true, recurses := true, plainKeys := false, apart := false, narrowed := true }
def FnHoldsUptoSaid : Prop := fnHoldsUptoRow.holds Try.pinned (OpenSpec.upto fnHoldsSpec)

/-- 'laws.FnRestSplit', WHERE WHAT IT READS IS OF BULK AT MOST 1048576: true; the input reads as it did. -/
def fnRestSplitUptoRow : OpenClaim := { program := "ytadmpiidofncpaa", sum := "710161832077f34d30bee1c9103936bf3b0c2b2ef9889f524975b438867c7cee", func := "loop.example/symmetricsums/laws.FnRestSplit", spec := "fnRestSplit", unfollowed := true, recurses := true, plainKeys := false, apart := false, narrowed := true }
def FnRestSplitUptoSaid : Prop := fnRestSplitUptoRow.holds Try.pinned (OpenSpec.upto fnRestSplitSpec)

/-- 'laws.FnRestFull', WHERE WHAT IT READS IS OF BULK AT MOST 1048576: true; the input reads as it did. -/
def fnRestFullUptoRow : OpenClaim := { program := "ytadmpiidofncpaa", sum := "710161832077f34d30bee1c9103936bf3b0c2b2ef9889f524975b438867c7cee", func := "loop.example/symmetricsums/laws.FnRestFull", spec := "fnRestFull", unfollowed := true, recurses := true, plainKeys := false, apart := false, narrowed := true }
def FnRestFullUptoSaid : Prop := fnRestFullUptoRow.holds Try.pinned (OpenSpec.upto fnRestFullSpec)

/-- 'laws.FnExactDiagRestFull', WHERE WHAT IT READS IS OF BULK AT MOST 1048576: true; the input reads as it did. -/
def fnExactDiagRestFullUptoRow : OpenClaim := { program := "ytadmpiidofncpaa", sum := "710161832077f34d30bee1c9103936bf3b0c2b2ef9889f524975b438867c7cee", func := "loop.example/symmetricsums/laws.FnExactDiagRestFull", spec := "fnExactDiagRestFull", unfollowed := true, recurses := true, plainKeys := false, apart := false, narrowed := true }
def FnExactDiagRestFullUptoSaid : Prop := fnExactDiagRestFullUptoRow.holds Try.pinned (OpenSpec.upto fnExactDiagRestFullSpec)

/-- 'laws.FnRest', WHERE WHAT IT READS IS OF BULK AT MOST 1048576: true; the input reads as it did. -/
def fnRestUptoRow : OpenClaim := { program := "ytadmpiidofncpaa", sum := "710161832077f34d30bee1c9103936bf3b0c2b2ef9889f524975b438867c7cee", func := "loop.example/symmetricsums/laws.FnRest", spec := "fnRest", unfollowed := true, recurses := true, plainKeys := false, apart := false, narrowed := true }
def FnRestUptoSaid : Prop := fnRestUptoRow.holds Try.pinned (OpenSpec.upto fnRestSpec)

/-- 'laws.FnRestSum', WHERE WHAT IT READS IS OF BULK AT MOST 1048576: true; the input reads as it did. -/
def fnRestSumUptoRow : OpenClaim := { program := "ytadmpiidofncpaa", sum := "710161832077f34d30bee1c9103936bf3b0c2b2ef9889f524975b438867c7cee", func := "loop.example/symmetricsums/laws.FnRestSum", spec := "fnRestSum", unfollowed := true, recurses := true, plainKeys := false, apart := false, narrowed := true }
def FnRestSumUptoSaid : Prop := fnRestSumUptoRow.holds Try.pinned (OpenSpec.upto fnRestSumSpec)

/-- 'laws.FnRootFrom', WHERE WHAT IT READS IS OF BULK AT MOST 1048576: true; the input reads as it did. -/
def fnRootFromUptoRow : OpenClaim := { program := "ytadmpiidofncpaa", sum := "710161832077f34d30bee1c9103936bf3b0c2b2ef9889f524975b438867c7cee", func := "loop.example/symmetricsums/laws.FnRootFrom", spec := "fnRootFrom", unfollowed := true, recurses := true, plainKeys := false, apart := false, narrowed := true }
def FnRootFromUptoSaid : Prop := fnRootFromUptoRow.holds Try.pinned (OpenSpec.upto fnRootFromSpec)

end Rows
end Go.Proofs.Ytadmpiidofncpaa
