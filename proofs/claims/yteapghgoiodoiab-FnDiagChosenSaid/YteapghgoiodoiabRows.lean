/-
  No cell of these rows narrows 'for every input' (looked for: loops, veiled, ifaces, maps, wideKeys, modest, calm, conditions, laid).
  DERIVED. THE GIVEN ROWS OF THIS SEAT. 9 by the template 'for every input the law returns true; each argument reads behind the call as it read before'; 0 by the template 'total and deterministic' (their statements: YteapghgoiodoiabTotals.lean).
  GIVEN WITH THE SEED: the statements are not yours to turn. If you find one false, say at which input.
  Laid BY PROGRAM, IN A SANDBOX (cutbox-rows.mjs): the forced cells as the released guide's own fill.sh prints them over the translation 11764c96fd139e68… (all of the seat's roots in one cut). By AI agents, Wed Nov 11 2026. No macro, syntax, notation, axiom, sorry.
-/
import Derived.Test.YteapghgoiodoiabChecked
import GoSem.Claim
import GoSem.ClaimJoined
import GoSem.ClaimMapViews
import Derived.JoinedTies
import Derived.KernelRfl
namespace Go.Proofs.Yteapghgoiodoiab
/- THE CELL 'sum', in the pinned program and in every row, IS THE sha256 OF THE DUMP (.gsa) THAT YteapghgoiodoiabProg.lean LOADS. Nothing in Lean hashes anything: it is a label: what it is worth is what the hold of that sum in a sandbox is worth. -/
noncomputable def Try.pinned : Pinned := { name := "yteapghgoiodoiab", sum := "11764c96fd139e6840c3aa3dcabff855166ababe5330ab8c1b94dd32678ad22f", checked := Try.checked }
namespace Rows
def none {H : Type} : Left H := { results := [], args := [] }

/-- 'laws.FnDiagFull': WHATEVER THE INPUT: true; the input reads as it did. -/
def fnDiagFullSpec : ChangeSpec := { name := "fnDiagFull", fn := fun _ => fun
  | [d] => { results := [.lit (.bool true)], args := [d] }
  | _ => none }
def fnDiagFullRow : OpenClaim := { program := "yteapghgoiodoiab", sum := "11764c96fd139e6840c3aa3dcabff855166ababe5330ab8c1b94dd32678ad22f", func := "loop.example/symmetricsums/laws.FnDiagFull", spec := "fnDiagFull", unfollowed := true, recurses := true, plainKeys := false, apart := false }
def FnDiagFullSaid : Prop := fnDiagFullRow.holds Try.pinned (OpenSpec.ofChange fnDiagFullSpec)

/-- ITS FALSE NEIGHBOUR: 'it returns false'. Refute it at one input. -/
def fnDiagFullWrong : ChangeSpec := { name := "fnDiagFull", fn := fun _ => fun
  | [d] => { results := [.lit (.bool false)], args := [d] }
  | _ => none }
def FnDiagFullWrongFalsely : Prop := fnDiagFullRow.holds Try.pinned (OpenSpec.ofChange fnDiagFullWrong)

/-- 'laws.FnDiagChosen': WHATEVER THE INPUT: true; the input reads as it did. -/
def fnDiagChosenSpec : ChangeSpec := { name := "fnDiagChosen", fn := fun _ => fun
  | [d] => { results := [.lit (.bool true)], args := [d] }
  | _ => none }
def fnDiagChosenRow : OpenClaim := { program := "yteapghgoiodoiab", sum := "11764c96fd139e6840c3aa3dcabff855166ababe5330ab8c1b94dd32678ad22f", func := "loop.example/symmetricsums/laws.FnDiagChosen", spec := "fnDiagChosen", unfollowed := true, recurses := true, plainKeys := false, apart := false }
def FnDiagChosenSaid : Prop := fnDiagChosenRow.holds Try.pinned (OpenSpec.ofChange fnDiagChosenSpec)

/-- ITS FALSE NEIGHBOUR: 'it returns false'. Refute it at one input. -/
def fnDiagChosenWrong : ChangeSpec := { name := "fnDiagChosen", fn := fun _ => fun
  | [d] => { results := [.lit (.bool false)], args := [d] }
  | _ => none }
def FnDiagChosenWrongFalsely : Prop := fnDiagChosenRow.holds Try.pinned (OpenSpec.ofChange fnDiagChosenWrong)

/-- 'laws.FnDiagQuotient': WHATEVER THE INPUT: true; the input reads as it did. -/
def fnDiagQuotientSpec : ChangeSpec := { name := "fnDiagQuotient", fn := fun _ => fun
  | [d] => { results := [.lit (.bool true)], args := [d] }
  | _ => none }
def fnDiagQuotientRow : OpenClaim := { program := "yteapghgoiodoiab", sum := "11764c96fd139e6840c3aa3dcabff855166ababe5330ab8c1b94dd32678ad22f", func := "loop.example/symmetricsums/laws.FnDiagQuotient", spec := "fnDiagQuotient", unfollowed := true, recurses := true, plainKeys := false, apart := false }
def FnDiagQuotientSaid : Prop := fnDiagQuotientRow.holds Try.pinned (OpenSpec.ofChange fnDiagQuotientSpec)

/-- ITS FALSE NEIGHBOUR: 'it returns false'. Refute it at one input. -/
def fnDiagQuotientWrong : ChangeSpec := { name := "fnDiagQuotient", fn := fun _ => fun
  | [d] => { results := [.lit (.bool false)], args := [d] }
  | _ => none }
def FnDiagQuotientWrongFalsely : Prop := fnDiagQuotientRow.holds Try.pinned (OpenSpec.ofChange fnDiagQuotientWrong)

/-- 'laws.FnDiagPlain': WHATEVER THE INPUT: true; the input reads as it did. -/
def fnDiagPlainSpec : ChangeSpec := { name := "fnDiagPlain", fn := fun _ => fun
  | [d] => { results := [.lit (.bool true)], args := [d] }
  | _ => none }
def fnDiagPlainRow : OpenClaim := { program := "yteapghgoiodoiab", sum := "11764c96fd139e6840c3aa3dcabff855166ababe5330ab8c1b94dd32678ad22f", func := "loop.example/symmetricsums/laws.FnDiagPlain", spec := "fnDiagPlain", unfollowed := true, recurses := true, plainKeys := false, apart := false }
def FnDiagPlainSaid : Prop := fnDiagPlainRow.holds Try.pinned (OpenSpec.ofChange fnDiagPlainSpec)

/-- ITS FALSE NEIGHBOUR: 'it returns false'. Refute it at one input. -/
def fnDiagPlainWrong : ChangeSpec := { name := "fnDiagPlain", fn := fun _ => fun
  | [d] => { results := [.lit (.bool false)], args := [d] }
  | _ => none }
def FnDiagPlainWrongFalsely : Prop := fnDiagPlainRow.holds Try.pinned (OpenSpec.ofChange fnDiagPlainWrong)

/-- 'laws.FnDiagPowers': WHATEVER THE INPUT: true; the input reads as it did. -/
def fnDiagPowersSpec : ChangeSpec := { name := "fnDiagPowers", fn := fun _ => fun
  | [d] => { results := [.lit (.bool true)], args := [d] }
  | _ => none }
def fnDiagPowersRow : OpenClaim := { program := "yteapghgoiodoiab", sum := "11764c96fd139e6840c3aa3dcabff855166ababe5330ab8c1b94dd32678ad22f", func := "loop.example/symmetricsums/laws.FnDiagPowers", spec := "fnDiagPowers", unfollowed := true, recurses := true, plainKeys := false, apart := false }
def FnDiagPowersSaid : Prop := fnDiagPowersRow.holds Try.pinned (OpenSpec.ofChange fnDiagPowersSpec)

/-- ITS FALSE NEIGHBOUR: 'it returns false'. Refute it at one input. -/
def fnDiagPowersWrong : ChangeSpec := { name := "fnDiagPowers", fn := fun _ => fun
  | [d] => { results := [.lit (.bool false)], args := [d] }
  | _ => none }
def FnDiagPowersWrongFalsely : Prop := fnDiagPowersRow.holds Try.pinned (OpenSpec.ofChange fnDiagPowersWrong)

/-- 'laws.FnHolds': WHATEVER THE INPUT: true; the input reads as it did. -/
def fnHoldsSpec : ChangeSpec := { name := "fnHolds", fn := fun _ => fun
  | [d] => { results := [.lit (.bool true)], args := [d] }
  | _ => none }
def fnHoldsRow : OpenClaim := { program := "yteapghgoiodoiab", sum := "11764c96fd139e6840c3aa3dcabff855166ababe5330ab8c1b94dd32678ad22f", func := "loop.example/symmetricsums/laws.FnHolds", spec := "fnHolds", unfollowed := true, recurses := true, plainKeys := false, apart := false }
def FnHoldsSaid : Prop := fnHoldsRow.holds Try.pinned (OpenSpec.ofChange fnHoldsSpec)

/-- ITS FALSE NEIGHBOUR: 'it returns false'. Refute it at one input. -/
def fnHoldsWrong : ChangeSpec := { name := "fnHolds", fn := fun _ => fun
  | [d] => { results := [.lit (.bool false)], args := [d] }
  | _ => none }
def FnHoldsWrongFalsely : Prop := fnHoldsRow.holds Try.pinned (OpenSpec.ofChange fnHoldsWrong)

/-- 'laws.FnRest': WHATEVER THE INPUT: true; the input reads as it did. -/
def fnRestSpec : ChangeSpec := { name := "fnRest", fn := fun _ => fun
  | [d] => { results := [.lit (.bool true)], args := [d] }
  | _ => none }
def fnRestRow : OpenClaim := { program := "yteapghgoiodoiab", sum := "11764c96fd139e6840c3aa3dcabff855166ababe5330ab8c1b94dd32678ad22f", func := "loop.example/symmetricsums/laws.FnRest", spec := "fnRest", unfollowed := true, recurses := true, plainKeys := false, apart := false }
def FnRestSaid : Prop := fnRestRow.holds Try.pinned (OpenSpec.ofChange fnRestSpec)

/-- ITS FALSE NEIGHBOUR: 'it returns false'. Refute it at one input. -/
def fnRestWrong : ChangeSpec := { name := "fnRest", fn := fun _ => fun
  | [d] => { results := [.lit (.bool false)], args := [d] }
  | _ => none }
def FnRestWrongFalsely : Prop := fnRestRow.holds Try.pinned (OpenSpec.ofChange fnRestWrong)

/-- 'laws.FnRestFull': WHATEVER THE INPUT: true; the input reads as it did. -/
def fnRestFullSpec : ChangeSpec := { name := "fnRestFull", fn := fun _ => fun
  | [d] => { results := [.lit (.bool true)], args := [d] }
  | _ => none }
def fnRestFullRow : OpenClaim := { program := "yteapghgoiodoiab", sum := "11764c96fd139e6840c3aa3dcabff855166ababe5330ab8c1b94dd32678ad22f", func := "loop.example/symmetricsums/laws.FnRestFull", spec := "fnRestFull", unfollowed := true, recurses := true, plainKeys := false, apart := false }
def FnRestFullSaid : Prop := fnRestFullRow.holds Try.pinned (OpenSpec.ofChange fnRestFullSpec)

/-- ITS FALSE NEIGHBOUR: 'it returns false'. Refute it at one input. -/
def fnRestFullWrong : ChangeSpec := { name := "fnRestFull", fn := fun _ => fun
  | [d] => { results := [.lit (.bool false)], args := [d] }
  | _ => none }
def FnRestFullWrongFalsely : Prop := fnRestFullRow.holds Try.pinned (OpenSpec.ofChange fnRestFullWrong)

/-- 'laws.FnRestSplit': WHATEVER THE INPUT: true; the input reads as it did. -/
def fnRestSplitSpec : ChangeSpec := { name := "fnRestSplit", fn := fun _ => fun
  | [d] => { results := [.lit (.bool true)], args := [d] }
  | _ => none }
def fnRestSplitRow : OpenClaim := { program := "yteapghgoiodoiab", sum := "11764c96fd139e6840c3aa3dcabff855166ababe5330ab8c1b94dd32678ad22f", func := "loop.example/symmetricsums/laws.FnRestSplit", spec := "fnRestSplit", unfollowed := true, recurses := true, plainKeys := false, apart := false }
def FnRestSplitSaid : Prop := fnRestSplitRow.holds Try.pinned (OpenSpec.ofChange fnRestSplitSpec)

/-- ITS FALSE NEIGHBOUR: 'it returns false'. Refute it at one input. -/
def fnRestSplitWrong : ChangeSpec := { name := "fnRestSplit", fn := fun _ => fun
  | [d] => { results := [.lit (.bool false)], args := [d] }
  | _ => none }
def FnRestSplitWrongFalsely : Prop := fnRestSplitRow.holds Try.pinned (OpenSpec.ofChange fnRestSplitWrong)

/- THE SECOND FORM. 'bulk': how many values and letters a reading holds, each counted each time it is reached (what is shared counts as often as it is met; a slice's spare places count too). A statement '..UptoSaid' is the law's where the arguments, and the package variables that the reading takes, are together of bulk at most 1048576: NARROWER than '..Said'. Prove '..Said' where nothing that the law and all that it calls make is longer than what came in: it says more and counts as full. Else prove '..UptoSaid'. A law counts once. -/
mutual
def uptoBulk {H : Type} : DataW H → Nat
  | .lit (.string bytes) => bytes.length + 1
  | .lit _ => 1
  | .nil => 1
  | .ptr d => uptoBulk d + 1
  | .slice elems spare => uptoBulkAll elems + uptoBulkAll spare + 1
  | .agg parts => uptoBulkAll parts + 1
  | .iface _ d => uptoBulk d + 1
  | .map entries => uptoBulkEntries entries + 1
  | .held _ => 1
def uptoBulkAll {H : Type} : List (DataW H) → Nat
  | [] => 0
  | d :: r => uptoBulk d + uptoBulkAll r
def uptoBulkEntries {H : Type} : List (Lit × DataW H) → Nat
  | [] => 0
  | x :: r => uptoBulkEntry x + uptoBulkEntries r
def uptoBulkEntry {H : Type} : Lit × DataW H → Nat
  | (.string bytes, d) => bytes.length + uptoBulk d + 1
  | (_, d) => uptoBulk d + 1
 end
def uptoSmall : (H : Type) → List (DataW H) → Bool := fun _ ds => decide (uptoBulkAll ds ≤ 1048576)
def OpenSpec.upto (s : _root_.Go.ChangeSpec) : _root_.Go.OpenSpec := { _root_.Go.OpenSpec.ofChange s with cond := some uptoSmall }

/-- 'laws.FnDiagFull', WHERE WHAT IT READS IS OF BULK AT MOST 1048576: true; the input reads as it did. -/
def fnDiagFullUptoRow : OpenClaim := { program := "yteapghgoiodoiab", sum := "11764c96fd139e6840c3aa3dcabff855166ababe5330ab8c1b94dd32678ad22f", func := "loop.example/symmetricsums/laws.FnDiagFull", spec := "fnDiagFull", unfollowed := true, recurses := true, plainKeys := false, apart := false, narrowed := true }
def FnDiagFullUptoSaid : Prop := fnDiagFullUptoRow.holds Try.pinned (OpenSpec.upto fnDiagFullSpec)

/-- 'laws.FnDiagChosen', WHERE WHAT IT READS IS OF BULK AT MOST 1048576: true; the input reads as it did. -/
def fnDiagChosenUptoRow : OpenClaim := { program := "yteapghgoiodoiab", sum := "11764c96fd139e6840c3aa3dcabff855166ababe5330ab8c1b94dd32678ad22f", func := "loop.example/symmetricsums/laws.FnDiagChosen", spec := "fnDiagChosen", unfollowed := true, recurses := true, plainKeys := false, apart := false, narrowed := true }
def FnDiagChosenUptoSaid : Prop := fnDiagChosenUptoRow.holds Try.pinned (OpenSpec.upto fnDiagChosenSpec)

/-- 'laws.FnDiagQuotient', WHERE WHAT IT READS IS OF BULK AT MOST 1048576: true; the input reads as it did. -/
def fnDiagQuotientUptoRow : OpenClaim := { program := "yteapghgoiodoiab", sum := "11764c96fd139e6840c3aa3dcabff855166ababe5330ab8c1b94dd32678ad22f", func := "loop.example/symmetricsums/laws.FnDiagQuotient", spec := "fnDiagQuotient", unfollowed := true, recurses := true, plainKeys := false, apart := false, narrowed := true }
def FnDiagQuotientUptoSaid : Prop := fnDiagQuotientUptoRow.holds Try.pinned (OpenSpec.upto fnDiagQuotientSpec)

/-- 'laws.FnDiagPlain', WHERE WHAT IT READS IS OF BULK AT MOST 1048576: true; the input reads as it did. -/
def fnDiagPlainUptoRow : OpenClaim := { program := "yteapghgoiodoiab", sum := "11764c96fd139e6840c3aa3dcabff855166ababe5330ab8c1b94dd32678ad22f", func := "loop.example/symmetricsums/laws.FnDiagPlain", spec := "fnDiagPlain", unfollowed := true, recurses := true, plainKeys := false, apart := false, narrowed := true }
def FnDiagPlainUptoSaid : Prop := fnDiagPlainUptoRow.holds Try.pinned (OpenSpec.upto fnDiagPlainSpec)

/-- 'laws.FnDiagPowers', WHERE WHAT IT READS IS OF BULK AT MOST 1048576: true; the input reads as it did. -/
def fnDiagPowersUptoRow : OpenClaim := { program := "yteapghgoiodoiab", sum := "11764c96fd139e6840c3aa3dcabff855166ababe5330ab8c1b94dd32678ad22f", func := "loop.example/symmetricsums/laws.FnDiagPowers", spec := "fnDiagPowers", unfollowed := true, recurses := true, plainKeys := false, apart := false, narrowed := true }
def FnDiagPowersUptoSaid : Prop := fnDiagPowersUptoRow.holds Try.pinned (OpenSpec.upto fnDiagPowersSpec)

/-- 'laws.FnHolds', WHERE WHAT IT READS IS OF BULK AT MOST 1048576: true; the input reads as it did. -/
def fnHoldsUptoRow : OpenClaim := { program := "yteapghgoiodoiab", sum := "11764c96fd139e6840c3aa3dcabff855166ababe5330ab8c1b94dd32678ad22f", func := "loop.example/symmetricsums/laws.FnHolds", spec := "fnHolds", unfollowed := true, recurses := true, plainKeys := false, apart := false, narrowed := true }
def FnHoldsUptoSaid : Prop := fnHoldsUptoRow.holds Try.pinned (OpenSpec.upto fnHoldsSpec)

/-- 'laws.FnRest', WHERE WHAT IT READS IS OF BULK AT MOST 1048576: true; the input reads as it did. -/
def fnRestUptoRow : OpenClaim := { program := "yteapghgoiodoiab", sum := "11764c96fd139e6840c3aa3dcabff855166ababe5330ab8c1b94dd32678ad22f", func := "loop.example/symmetricsums/laws.FnRest", spec := "fnRest", unfollowed := true, recurses := true, plainKeys := false, apart := false, narrowed := true }
def FnRestUptoSaid : Prop := fnRestUptoRow.holds Try.pinned (OpenSpec.upto fnRestSpec)

/-- 'laws.FnRestFull', WHERE WHAT IT READS IS OF BULK AT MOST 1048576: true; the input reads as it did. -/
def fnRestFullUptoRow : OpenClaim := { program := "yteapghgoiodoiab", sum := "11764c96fd139e6840c3aa3dcabff855166ababe5330ab8c1b94dd32678ad22f", func := "loop.example/symmetricsums/laws.FnRestFull", spec := "fnRestFull", unfollowed := true, recurses := true, plainKeys := false, apart := false, narrowed := true }
def FnRestFullUptoSaid : Prop := fnRestFullUptoRow.holds Try.pinned (OpenSpec.upto fnRestFullSpec)

/-- 'laws.FnRestSplit', WHERE WHAT IT READS IS OF BULK AT MOST 1048576: true; the input reads as it did. -/
def fnRestSplitUptoRow : OpenClaim := { program := "yteapghgoiodoiab", sum := "11764c96fd139e6840c3aa3dcabff855166ababe5330ab8c1b94dd32678ad22f", func := "loop.example/symmetricsums/laws.FnRestSplit", spec := "fnRestSplit", unfollowed := true, recurses := true, plainKeys := false, apart := false, narrowed := true }
def FnRestSplitUptoSaid : Prop := fnRestSplitUptoRow.holds Try.pinned (OpenSpec.upto fnRestSplitSpec)

end Rows
end Go.Proofs.Yteapghgoiodoiab
