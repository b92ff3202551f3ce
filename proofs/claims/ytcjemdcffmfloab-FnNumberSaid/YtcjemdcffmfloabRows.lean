/-
  No cell of these rows narrows 'for every input' (looked for: loops, veiled, ifaces, maps, wideKeys, modest, calm, conditions, laid).
  DERIVED. THE GIVEN ROWS OF THIS SEAT. 10 by the template 'for every input the law returns true; each argument reads behind the call as it read before'; 0 by the template 'total and deterministic' (their statements: YtcjemdcffmfloabTotals.lean).
  GIVEN WITH THE SEED: the statements are not yours to turn. If you find one false, say at which input.
  Laid BY PROGRAM, IN A SANDBOX (cutbox-rows.mjs): the forced cells as the released guide's own fill.sh prints them over the translation 23a79a8b202d92d4… (all of the seat's roots in one cut). By AI agents, Wed Nov 11 2026. No macro, syntax, notation, axiom, sorry.
-/
import Derived.Test.YtcjemdcffmfloabChecked
import GoSem.Claim
import GoSem.ClaimJoined
import GoSem.ClaimMapViews
import Derived.JoinedTies
import Derived.KernelRfl
namespace Go.Proofs.Ytcjemdcffmfloab
/- THE CELL 'sum', in the pinned program and in every row, IS THE sha256 OF THE DUMP (.gsa) THAT YtcjemdcffmfloabProg.lean LOADS. Nothing in Lean hashes anything: it is a label: what it is worth is what the hold of that sum in a sandbox is worth. -/
noncomputable def Try.pinned : Pinned := { name := "ytcjemdcffmfloab", sum := "23a79a8b202d92d4dad643286a4743c16b7c6a4988d30d6306ffb8ff04b65ce4", checked := Try.checked }
namespace Rows
def none {H : Type} : Left H := { results := [], args := [] }

/-- 'laws.FnJoin': WHATEVER THE INPUT: true; the input reads as it did. -/
def fnJoinSpec : ChangeSpec := { name := "fnJoin", fn := fun _ => fun
  | [d] => { results := [.lit (.bool true)], args := [d] }
  | _ => none }
def fnJoinRow : OpenClaim := { program := "ytcjemdcffmfloab", sum := "23a79a8b202d92d4dad643286a4743c16b7c6a4988d30d6306ffb8ff04b65ce4", func := "loop.example/symmetricsums/laws.FnJoin", spec := "fnJoin", unfollowed := true, recurses := true, plainKeys := false, apart := false }
def FnJoinSaid : Prop := fnJoinRow.holds Try.pinned (OpenSpec.ofChange fnJoinSpec)

/-- ITS FALSE NEIGHBOUR: 'it returns false'. Refute it at one input. -/
def fnJoinWrong : ChangeSpec := { name := "fnJoin", fn := fun _ => fun
  | [d] => { results := [.lit (.bool false)], args := [d] }
  | _ => none }
def FnJoinWrongFalsely : Prop := fnJoinRow.holds Try.pinned (OpenSpec.ofChange fnJoinWrong)

/-- 'laws.FnLower': WHATEVER THE INPUT: true; the input reads as it did. -/
def fnLowerSpec : ChangeSpec := { name := "fnLower", fn := fun _ => fun
  | [d] => { results := [.lit (.bool true)], args := [d] }
  | _ => none }
def fnLowerRow : OpenClaim := { program := "ytcjemdcffmfloab", sum := "23a79a8b202d92d4dad643286a4743c16b7c6a4988d30d6306ffb8ff04b65ce4", func := "loop.example/symmetricsums/laws.FnLower", spec := "fnLower", unfollowed := true, recurses := true, plainKeys := false, apart := false }
def FnLowerSaid : Prop := fnLowerRow.holds Try.pinned (OpenSpec.ofChange fnLowerSpec)

/-- ITS FALSE NEIGHBOUR: 'it returns false'. Refute it at one input. -/
def fnLowerWrong : ChangeSpec := { name := "fnLower", fn := fun _ => fun
  | [d] => { results := [.lit (.bool false)], args := [d] }
  | _ => none }
def FnLowerWrongFalsely : Prop := fnLowerRow.holds Try.pinned (OpenSpec.ofChange fnLowerWrong)

/-- 'laws.FnSign': WHATEVER THE INPUT: true; the input reads as it did. -/
def fnSignSpec : ChangeSpec := { name := "fnSign", fn := fun _ => fun
  | [d] => { results := [.lit (.bool true)], args := [d] }
  | _ => none }
def fnSignRow : OpenClaim := { program := "ytcjemdcffmfloab", sum := "23a79a8b202d92d4dad643286a4743c16b7c6a4988d30d6306ffb8ff04b65ce4", func := "loop.example/symmetricsums/laws.FnSign", spec := "fnSign", unfollowed := true, recurses := true, plainKeys := false, apart := false }
def FnSignSaid : Prop := fnSignRow.holds Try.pinned (OpenSpec.ofChange fnSignSpec)

/-- ITS FALSE NEIGHBOUR: 'it returns false'. Refute it at one input. -/
def fnSignWrong : ChangeSpec := { name := "fnSign", fn := fun _ => fun
  | [d] => { results := [.lit (.bool false)], args := [d] }
  | _ => none }
def FnSignWrongFalsely : Prop := fnSignRow.holds Try.pinned (OpenSpec.ofChange fnSignWrong)

/-- 'laws.FnAtShare': WHATEVER THE INPUT: true; the input reads as it did. -/
def fnAtShareSpec : ChangeSpec := { name := "fnAtShare", fn := fun _ => fun
  | [d] => { results := [.lit (.bool true)], args := [d] }
  | _ => none }
def fnAtShareRow : OpenClaim := { program := "ytcjemdcffmfloab", sum := "23a79a8b202d92d4dad643286a4743c16b7c6a4988d30d6306ffb8ff04b65ce4", func := "loop.example/symmetricsums/laws.FnAtShare", spec := "fnAtShare", unfollowed := true, recurses := true, plainKeys := false, apart := false }
def FnAtShareSaid : Prop := fnAtShareRow.holds Try.pinned (OpenSpec.ofChange fnAtShareSpec)

/-- ITS FALSE NEIGHBOUR: 'it returns false'. Refute it at one input. -/
def fnAtShareWrong : ChangeSpec := { name := "fnAtShare", fn := fun _ => fun
  | [d] => { results := [.lit (.bool false)], args := [d] }
  | _ => none }
def FnAtShareWrongFalsely : Prop := fnAtShareRow.holds Try.pinned (OpenSpec.ofChange fnAtShareWrong)

/-- 'laws.FnStripRow': WHATEVER THE INPUT: true; the input reads as it did. -/
def fnStripRowSpec : ChangeSpec := { name := "fnStripRow", fn := fun _ => fun
  | [d] => { results := [.lit (.bool true)], args := [d] }
  | _ => none }
def fnStripRowRow : OpenClaim := { program := "ytcjemdcffmfloab", sum := "23a79a8b202d92d4dad643286a4743c16b7c6a4988d30d6306ffb8ff04b65ce4", func := "loop.example/symmetricsums/laws.FnStripRow", spec := "fnStripRow", unfollowed := true, recurses := true, plainKeys := false, apart := false }
def FnStripRowSaid : Prop := fnStripRowRow.holds Try.pinned (OpenSpec.ofChange fnStripRowSpec)

/-- ITS FALSE NEIGHBOUR: 'it returns false'. Refute it at one input. -/
def fnStripRowWrong : ChangeSpec := { name := "fnStripRow", fn := fun _ => fun
  | [d] => { results := [.lit (.bool false)], args := [d] }
  | _ => none }
def FnStripRowWrongFalsely : Prop := fnStripRowRow.holds Try.pinned (OpenSpec.ofChange fnStripRowWrong)

/-- 'laws.FnStripColumn': WHATEVER THE INPUT: true; the input reads as it did. -/
def fnStripColumnSpec : ChangeSpec := { name := "fnStripColumn", fn := fun _ => fun
  | [d] => { results := [.lit (.bool true)], args := [d] }
  | _ => none }
def fnStripColumnRow : OpenClaim := { program := "ytcjemdcffmfloab", sum := "23a79a8b202d92d4dad643286a4743c16b7c6a4988d30d6306ffb8ff04b65ce4", func := "loop.example/symmetricsums/laws.FnStripColumn", spec := "fnStripColumn", unfollowed := true, recurses := true, plainKeys := false, apart := false }
def FnStripColumnSaid : Prop := fnStripColumnRow.holds Try.pinned (OpenSpec.ofChange fnStripColumnSpec)

/-- ITS FALSE NEIGHBOUR: 'it returns false'. Refute it at one input. -/
def fnStripColumnWrong : ChangeSpec := { name := "fnStripColumn", fn := fun _ => fun
  | [d] => { results := [.lit (.bool false)], args := [d] }
  | _ => none }
def FnStripColumnWrongFalsely : Prop := fnStripColumnRow.holds Try.pinned (OpenSpec.ofChange fnStripColumnWrong)

/-- 'laws.FnNumber': WHATEVER THE INPUT: true; the input reads as it did. -/
def fnNumberSpec : ChangeSpec := { name := "fnNumber", fn := fun _ => fun
  | [d] => { results := [.lit (.bool true)], args := [d] }
  | _ => none }
def fnNumberRow : OpenClaim := { program := "ytcjemdcffmfloab", sum := "23a79a8b202d92d4dad643286a4743c16b7c6a4988d30d6306ffb8ff04b65ce4", func := "loop.example/symmetricsums/laws.FnNumber", spec := "fnNumber", unfollowed := true, recurses := true, plainKeys := false, apart := false }
def FnNumberSaid : Prop := fnNumberRow.holds Try.pinned (OpenSpec.ofChange fnNumberSpec)

/-- ITS FALSE NEIGHBOUR: 'it returns false'. Refute it at one input. -/
def fnNumberWrong : ChangeSpec := { name := "fnNumber", fn := fun _ => fun
  | [d] => { results := [.lit (.bool false)], args := [d] }
  | _ => none }
def FnNumberWrongFalsely : Prop := fnNumberRow.holds Try.pinned (OpenSpec.ofChange fnNumberWrong)

/-- 'laws.FnRestSum': WHATEVER THE INPUT: true; the input reads as it did. -/
def fnRestSumSpec : ChangeSpec := { name := "fnRestSum", fn := fun _ => fun
  | [d] => { results := [.lit (.bool true)], args := [d] }
  | _ => none }
def fnRestSumRow : OpenClaim := { program := "ytcjemdcffmfloab", sum := "23a79a8b202d92d4dad643286a4743c16b7c6a4988d30d6306ffb8ff04b65ce4", func := "loop.example/symmetricsums/laws.FnRestSum", spec := "fnRestSum", unfollowed := true, recurses := true, plainKeys := false, apart := false }
def FnRestSumSaid : Prop := fnRestSumRow.holds Try.pinned (OpenSpec.ofChange fnRestSumSpec)

/-- ITS FALSE NEIGHBOUR: 'it returns false'. Refute it at one input. -/
def fnRestSumWrong : ChangeSpec := { name := "fnRestSum", fn := fun _ => fun
  | [d] => { results := [.lit (.bool false)], args := [d] }
  | _ => none }
def FnRestSumWrongFalsely : Prop := fnRestSumRow.holds Try.pinned (OpenSpec.ofChange fnRestSumWrong)

/-- 'laws.FnHolds': WHATEVER THE INPUT: true; the input reads as it did. -/
def fnHoldsSpec : ChangeSpec := { name := "fnHolds", fn := fun _ => fun
  | [d] => { results := [.lit (.bool true)], args := [d] }
  | _ => none }
def fnHoldsRow : OpenClaim := { program := "ytcjemdcffmfloab", sum := "23a79a8b202d92d4dad643286a4743c16b7c6a4988d30d6306ffb8ff04b65ce4", func := "loop.example/symmetricsums/laws.FnHolds", spec := "fnHolds", unfollowed := true, recurses := true, plainKeys := false, apart := false }
def FnHoldsSaid : Prop := fnHoldsRow.holds Try.pinned (OpenSpec.ofChange fnHoldsSpec)

/-- ITS FALSE NEIGHBOUR: 'it returns false'. Refute it at one input. -/
def fnHoldsWrong : ChangeSpec := { name := "fnHolds", fn := fun _ => fun
  | [d] => { results := [.lit (.bool false)], args := [d] }
  | _ => none }
def FnHoldsWrongFalsely : Prop := fnHoldsRow.holds Try.pinned (OpenSpec.ofChange fnHoldsWrong)

/-- 'laws.FnRest': WHATEVER THE INPUT: true; the input reads as it did. -/
def fnRestSpec : ChangeSpec := { name := "fnRest", fn := fun _ => fun
  | [d] => { results := [.lit (.bool true)], args := [d] }
  | _ => none }
def fnRestRow : OpenClaim := { program := "ytcjemdcffmfloab", sum := "23a79a8b202d92d4dad643286a4743c16b7c6a4988d30d6306ffb8ff04b65ce4", func := "loop.example/symmetricsums/laws.FnRest", spec := "fnRest", unfollowed := true, recurses := true, plainKeys := false, apart := false }
def FnRestSaid : Prop := fnRestRow.holds Try.pinned (OpenSpec.ofChange fnRestSpec)

/-- ITS FALSE NEIGHBOUR: 'it returns false'. Refute it at one input. -/
def fnRestWrong : ChangeSpec := { name := "fnRest", fn := fun _ => fun
  | [d] => { results := [.lit (.bool false)], args := [d] }
  | _ => none }
def FnRestWrongFalsely : Prop := fnRestRow.holds Try.pinned (OpenSpec.ofChange fnRestWrong)

/- THE SECOND FORM. 'bulk': how many values and letters a reading holds, each counted each time it is reached (what is shared counts as often as it is met; a slice's spare places count too). A statement '..UptoSaid' is the law's where the arguments, and the package variables that the reading takes, are together of bulk at most 1048576: NARROWER than '..Said'. Prove '..Said' where nothing that the law and all that it calls make is longer than what came in: it says more and counts as full. Else prove '..UptoSaid'. A law counts once. -/
mutual
def uptoBulk {H : Type} : DataW H → Nat
  | .lit (.string bytes) => bytes.length + 1
  | .lit _ => 1
  | .nil => 1
  | .ptr d => uptoBulk d + 1
  | .slice elems spare => uptoBulkAll elems + uptoBulkAll spare + 1
  | .agg parts => uptoBulkAll parts + 1
  | .iface _ d => uptoBulk d + 1
  | .map entries => uptoBulkEntries entries + 1
  | .held _ => 1
def uptoBulkAll {H : Type} : List (DataW H) → Nat
  | [] => 0
  | d :: r => uptoBulk d + uptoBulkAll r
def uptoBulkEntries {H : Type} : List (Lit × DataW H) → Nat
  | [] => 0
  | x :: r => uptoBulkEntry x + uptoBulkEntries r
def uptoBulkEntry {H : Type} : Lit × DataW H → Nat
  | (.string bytes, d) => bytes.length + uptoBulk d + 1
  | (_, d) => uptoBulk d + 1
 end
def uptoSmall : (H : Type) → List (DataW H) → Bool := fun _ ds => decide (uptoBulkAll ds ≤ 1048576)
def OpenSpec.upto (s : _root_.Go.ChangeSpec) : _root_.Go.OpenSpec := { _root_.Go.OpenSpec.ofChange s with cond := some uptoSmall }

/-- 'laws.FnJoin', WHERE WHAT IT READS IS OF BULK AT MOST 1048576: true; the input reads as it did. -/
def fnJoinUptoRow : OpenClaim := { program := "ytcjemdcffmfloab", sum := "23a79a8b202d92d4dad643286a4743c16b7c6a4988d30d6306ffb8ff04b65ce4", func := "loop.example/symmetricsums/laws.FnJoin", spec := "fnJoin", unfollowed := true, recurses := true, plainKeys := false, apart := false, narrowed := true }
def FnJoinUptoSaid : Prop := fnJoinUptoRow.holds Try.pinned (OpenSpec.upto fnJoinSpec)

/-- 'laws.FnLower', WHERE WHAT IT READS IS OF BULK AT MOST 1048576: true; the input reads as it did. -/
def fnLowerUptoRow : OpenClaim := { program := "ytcjemdcffmfloab", sum := "23a79a8b202d92d4dad643286a4743c16b7c6a4988d30d6306ffb8ff04b65ce4", func := "loop.example/symmetricsums/laws.FnLower", spec := "fnLower", unfollowed := true, recurses := true, plainKeys := false, apart := false, narrowed := true }
def FnLowerUptoSaid : Prop := fnLowerUptoRow.holds Try.pinned (OpenSpec.upto fnLowerSpec)

/-- 'laws.FnSign', WHERE WHAT IT READS IS OF BULK AT MOST 1048576: true; the input reads as it did. -/
def fnSignUptoRow : OpenClaim := { program := "ytcjemdcffmfloab", sum := "23a79a8b202d92d4dad643286a4743c16b7c6a4988d30d6306ffb8ff04b65ce4", func := "loop.example/symmetricsums/laws.FnSign", spec := "fnSign", unfollowed := true, recurses := true, plainKeys := false, apart := false, narrowed := true }
def FnSignUptoSaid : Prop := fnSignUptoRow.holds Try.pinned (OpenSpec.upto fnSignSpec)

/-- 'laws.FnAtShare', WHERE WHAT IT READS IS OF BULK AT MOST 1048576: true; the input reads as it did. -/
def fnAtShareUptoRow : OpenClaim := { program := "ytcjemdcffmfloab", sum := "23a79a8b202d92d4dad643286a4743c16b7c6a4988d30d6306ffb8ff04b65ce4", func := "loop.example/symmetricsums/laws.FnAtShare", spec := "fnAtShare", unfollowed := true, recurses := true, plainKeys := false, apart := false, narrowed := true }
def FnAtShareUptoSaid : Prop := fnAtShareUptoRow.holds Try.pinned (OpenSpec.upto fnAtShareSpec)

/-- 'laws.FnStripRow', WHERE WHAT IT READS IS OF BULK AT MOST 1048576: true; the input reads as it did. -/
def fnStripRowUptoRow : OpenClaim := { program := "ytcjemdcffmfloab", sum := "23a79a8b202d92d4dad643286a4743c16b7c6a4988d30d6306ffb8ff04b65ce4", func := "loop.example/symmetricsums/laws.FnStripRow", spec := "fnStripRow", unfollowed := true, recurses := true, plainKeys := false, apart := false, narrowed := true }
def FnStripRowUptoSaid : Prop := fnStripRowUptoRow.holds Try.pinned (OpenSpec.upto fnStripRowSpec)

/-- 'laws.FnStripColumn', WHERE WHAT IT READS IS OF BULK AT MOST 1048576: true; the input reads as it did. -/
def fnStripColumnUptoRow : OpenClaim := { program := "ytcjemdcffmfloab", sum := "23a79a8b202d92d4dad643286a4743c16b7c6a4988d30d6306ffb8ff04b65ce4", func := "loop.example/symmetricsums/laws.FnStripColumn", spec := "fnStripColumn", unfollowed := true, recurses := true, plainKeys := false, apart := false, narrowed := true }
def FnStripColumnUptoSaid : Prop := fnStripColumnUptoRow.holds Try.pinned (OpenSpec.upto fnStripColumnSpec)

/-- 'laws.FnNumber', WHERE WHAT IT READS IS OF BULK AT MOST 1048576: true; the input reads as it did. -/
def fnNumberUptoRow : OpenClaim := { program := "ytcjemdcffmfloab", sum := "23a79a8b202d92d4dad643286a4743c16b7c6a4988d30d6306ffb8ff04b65ce4", func := "loop.example/symmetricsums/laws.FnNumber", spec := "fnNumber", unfollowed := true, recurses := true, plainKeys := false, apart := false, narrowed := true }
def FnNumberUptoSaid : Prop := fnNumberUptoRow.holds Try.pinned (OpenSpec.upto fnNumberSpec)

/-- 'laws.FnRestSum', WHERE WHAT IT READS IS OF BULK AT MOST 1048576: true; the input reads as it did. -/
def fnRestSumUptoRow : OpenClaim := { program := "ytcjemdcffmfloab", sum := "23a79a8b202d92d4dad643286a4743c16b7c6a4988d30d6306ffb8ff04b65ce4", func := "loop.example/symmetricsums/laws.FnRestSum", spec := "fnRestSum", unfollowed := true, recurses := true, plainKeys := false, apart := false, narrowed := true }
def FnRestSumUptoSaid : Prop := fnRestSumUptoRow.holds Try.pinned (OpenSpec.upto fnRestSumSpec)

/-- 'laws.FnHolds', WHERE WHAT IT READS IS OF BULK AT MOST 1048576: true; the input reads as it did. -/
def fnHoldsUptoRow : OpenClaim := { program := "ytcjemdcffmfloab", sum := "23a79a8b202d92d4dad643286a4743c16b7c6a4988d30d6306ffb8ff04b65ce4", func := "loop.example/symmetricsums/laws.FnHolds", spec := "fnHolds", unfollowed := true, recurses := true, plainKeys := false, apart := false, narrowed := true }
def FnHoldsUptoSaid : Prop := fnHoldsUptoRow.holds Try.pinned (OpenSpec.upto fnHoldsSpec)

/-- 'laws.FnRest', WHERE WHAT IT READS IS OF BULK AT MOST 1048576: true; the input reads as it did. -/
def fnRestUptoRow : OpenClaim := { program := "ytcjemdcffmfloab", sum := "23a79a8b202d92d4dad643286a4743c16b7c6a4988d30d6306ffb8ff04b65ce4", func := "loop.example/symmetricsums/laws.FnRest", spec := "fnRest", unfollowed := true, recurses := true, plainKeys := false, apart := false, narrowed := true }
def FnRestUptoSaid : Prop := fnRestUptoRow.holds Try.pinned (OpenSpec.upto fnRestSpec)

end Rows
end Go.Proofs.Ytcjemdcffmfloab
