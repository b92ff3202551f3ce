/-
  No cell of these rows narrows 'for every input' (looked for: loops, veiled, ifaces, maps, wideKeys, modest, calm, conditions, laid).
  DERIVED. THE GIVEN ROWS OF THIS SEAT. 5 by the template 'for every input the law returns true; each argument reads behind the call as it read before'; 0 by the template 'total and deterministic' (their statements: YtennigkljnfjmaaTotals.lean).
  GIVEN WITH THE SEED: the statements are not yours to turn. If you find one false, say at which input.
  Laid BY PROGRAM, IN A SANDBOX (cutbox-rows.mjs): the forced cells as the released guide's own fill.sh prints them over the translation bdf3d34d266855e9… (all of the seat's roots in one cut). By AI agents, Wed Nov 11 2026. No macro, syntax, notation, axiom, sorry.
-/
import Derived.Test.YtennigkljnfjmaaChecked
import GoSem.Claim
import GoSem.ClaimJoined
import GoSem.ClaimMapViews
import Derived.JoinedTies
import Derived.KernelRfl
namespace Go.Proofs.Ytennigkljnfjmaa
/- THE CELL 'sum', in the pinned program and in every row, IS THE sha256 OF THE DUMP (.gsa) THAT YtennigkljnfjmaaProg.lean LOADS. Nothing in Lean hashes anything: it is a label: what it is worth is what the hold of that sum in a sandbox is worth. -/
noncomputable def Try.pinned : Pinned := { name := "ytennigkljnfjmaa", sum := "bdf3d34d266855e93016b17af29db7b2313a99a22ebeb29eddb514ceac8b153a", checked := Try.checked }
namespace Rows
def none {H : Type} : Left H := { results := [], args := [] }

/-- 'laws.FnExactRootShift': WHATEVER THE INPUT: true; the input reads as it did. -/
def fnExactRootShiftSpec : ChangeSpec := { name := "fnExactRootShift", fn := fun _ => fun
  | [d1, d2] => { results := [.lit (.bool true)], args := [d1, d2] }
  | _ => none }
def fnExactRootShiftRow : OpenClaim := { program := "ytennigkljnfjmaa", sum := "bdf3d34d266855e93016b17af29db7b2313a99a22ebeb29eddb514ceac8b153a", func := "loop.example/symmetricsums/laws.FnExactRootShift", spec := "fnExactRootShift", unfollowed := true, recurses := true, apart := false }
def FnExactRootShiftSaid : Prop := fnExactRootShiftRow.holds Try.pinned (OpenSpec.ofChange fnExactRootShiftSpec)

/-- ITS FALSE NEIGHBOUR: 'it returns false'. Refute it at one input. -/
def fnExactRootShiftWrong : ChangeSpec := { name := "fnExactRootShift", fn := fun _ => fun
  | [d1, d2] => { results := [.lit (.bool false)], args := [d1, d2] }
  | _ => none }
def FnExactRootShiftWrongFalsely : Prop := fnExactRootShiftRow.holds Try.pinned (OpenSpec.ofChange fnExactRootShiftWrong)

/-- 'laws.FnExactRootBack': WHATEVER THE INPUT: true; the input reads as it did. -/
def fnExactRootBackSpec : ChangeSpec := { name := "fnExactRootBack", fn := fun _ => fun
  | [d] => { results := [.lit (.bool true)], args := [d] }
  | _ => none }
def fnExactRootBackRow : OpenClaim := { program := "ytennigkljnfjmaa", sum := "bdf3d34d266855e93016b17af29db7b2313a99a22ebeb29eddb514ceac8b153a", func := "loop.example/symmetricsums/laws.FnExactRootBack", spec := "fnExactRootBack", apart := false }
def FnExactRootBackSaid : Prop := fnExactRootBackRow.holds Try.pinned (OpenSpec.ofChange fnExactRootBackSpec)

/-- ITS FALSE NEIGHBOUR: 'it returns false'. Refute it at one input. -/
def fnExactRootBackWrong : ChangeSpec := { name := "fnExactRootBack", fn := fun _ => fun
  | [d] => { results := [.lit (.bool false)], args := [d] }
  | _ => none }
def FnExactRootBackWrongFalsely : Prop := fnExactRootBackRow.holds Try.pinned (OpenSpec.ofChange fnExactRootBackWrong)

/-- 'laws.FnExactRootFrom': WHATEVER THE INPUT: true; the input reads as it did. -/
def fnExactRootFromSpec : ChangeSpec := { name := "fnExactRootFrom", fn := fun _ => fun
  | [d] => { results := [.lit (.bool true)], args := [d] }
  | _ => none }
def fnExactRootFromRow : OpenClaim := { program := "ytennigkljnfjmaa", sum := "bdf3d34d266855e93016b17af29db7b2313a99a22ebeb29eddb514ceac8b153a", func := "loop.example/symmetricsums/laws.FnExactRootFrom", spec := "fnExactRootFrom", apart := false }
def FnExactRootFromSaid : Prop := fnExactRootFromRow.holds Try.pinned (OpenSpec.ofChange fnExactRootFromSpec)

/-- ITS FALSE NEIGHBOUR: 'it returns false'. Refute it at one input. -/
def fnExactRootFromWrong : ChangeSpec := { name := "fnExactRootFrom", fn := fun _ => fun
  | [d] => { results := [.lit (.bool false)], args := [d] }
  | _ => none }
def FnExactRootFromWrongFalsely : Prop := fnExactRootFromRow.holds Try.pinned (OpenSpec.ofChange fnExactRootFromWrong)

/-- 'laws.FnPowersFrom': WHATEVER THE INPUT: true; the input reads as it did. -/
def fnPowersFromSpec : ChangeSpec := { name := "fnPowersFrom", fn := fun _ => fun
  | [d] => { results := [.lit (.bool true)], args := [d] }
  | _ => none }
def fnPowersFromRow : OpenClaim := { program := "ytennigkljnfjmaa", sum := "bdf3d34d266855e93016b17af29db7b2313a99a22ebeb29eddb514ceac8b153a", func := "loop.example/symmetricsums/laws.FnPowersFrom", spec := "fnPowersFrom", unfollowed := true, recurses := true, apart := false }
def FnPowersFromSaid : Prop := fnPowersFromRow.holds Try.pinned (OpenSpec.ofChange fnPowersFromSpec)

/-- ITS FALSE NEIGHBOUR: 'it returns false'. Refute it at one input. -/
def fnPowersFromWrong : ChangeSpec := { name := "fnPowersFrom", fn := fun _ => fun
  | [d] => { results := [.lit (.bool false)], args := [d] }
  | _ => none }
def FnPowersFromWrongFalsely : Prop := fnPowersFromRow.holds Try.pinned (OpenSpec.ofChange fnPowersFromWrong)

/-- 'laws.FnRootFrom': WHATEVER THE INPUT: true; the input reads as it did. -/
def fnRootFromSpec : ChangeSpec := { name := "fnRootFrom", fn := fun _ => fun
  | [d] => { results := [.lit (.bool true)], args := [d] }
  | _ => none }
def fnRootFromRow : OpenClaim := { program := "ytennigkljnfjmaa", sum := "bdf3d34d266855e93016b17af29db7b2313a99a22ebeb29eddb514ceac8b153a", func := "loop.example/symmetricsums/laws.FnRootFrom", spec := "fnRootFrom", unfollowed := true, recurses := true, apart := false }
def FnRootFromSaid : Prop := fnRootFromRow.holds Try.pinned (OpenSpec.ofChange fnRootFromSpec)

/-- ITS FALSE NEIGHBOUR: 'it returns false'. Refute it at one input. -/
def fnRootFromWrong : ChangeSpec := { name := "fnRootFrom", fn := fun _ => fun
  | [d] => { results := [.lit (.bool false)], args := [d] }
  | _ => none }
def FnRootFromWrongFalsely : Prop := fnRootFromRow.holds Try.pinned (OpenSpec.ofChange fnRootFromWrong)

/- THE SECOND FORM. 'bulk': how many values and letters a reading holds, each counted each time it is reached (what is shared counts as often as it is met; a slice's spare places count too). A statement '..UptoSaid' is the law's where the arguments, and the package variables that the reading takes, are together of bulk at most 1048576: NARROWER than '..Said'. Prove '..Said' where nothing that the law and all that it calls make is longer than what came in: it says more and counts as full. Else prove '..UptoSaid'. A law counts once. -/
mutual
def uptoBulk {H : Type} : DataW H → Nat
  | .lit (.string bytes) => bytes.length + 1
  | .lit _ => 1
  | .nil => 1
  | .ptr d => uptoBulk d + 1
  | .slice elems spare => uptoBulkAll elems + uptoBulkAll spare + 1
  | .agg parts => uptoBulkAll parts + 1
  | .iface _ d => uptoBulk d + 1
  | .map entries => uptoBulkEntries entries + 1
  | .held _ => 1
def uptoBulkAll {H : Type} : List (DataW H) → Nat
  | [] => 0
  | d :: r => uptoBulk d + uptoBulkAll r
def uptoBulkEntries {H : Type} : List (Lit × DataW H) → Nat
  | [] => 0
  | x :: r => uptoBulkEntry x + uptoBulkEntries r
def uptoBulkEntry {H : Type} : Lit × DataW H → Nat
  | (.string bytes, d) => bytes.length + uptoBulk d + 1
  | (_, d) => uptoBulk d + 1
 end
def uptoSmall : (H : Type) → List (DataW H) → Bool := fun _ ds => decide (uptoBulkAll ds ≤ 1048576)
def OpenSpec.upto (s : _root_.Go.ChangeSpec) : _root_.Go.OpenSpec := { _root_.Go.OpenSpec.ofChange s with cond := some uptoSmall }

/-- 'laws.FnExactRootShift', WHERE WHAT IT READS IS OF BULK AT MOST 1048576: true; the input reads as it did. -/
def fnExactRootShiftUptoRow : OpenClaim := { program := "ytennigkljnfjmaa", sum := "bdf3d34d266855e93016b17af29db7b2313a99a22ebeb29eddb514ceac8b153a", func := "loop.example/symmetricsums/laws.FnExactRootShift", spec := "fnExactRootShift", unfollowed := true, recurses := true, apart := false, narrowed := true }
def FnExactRootShiftUptoSaid : Prop := fnExactRootShiftUptoRow.holds Try.pinned (OpenSpec.upto fnExactRootShiftSpec)

/-- 'laws.FnExactRootBack', WHERE WHAT IT READS IS OF BULK AT MOST 1048576: true; the input reads as it did. -/
def fnExactRootBackUptoRow : OpenClaim := { program := "ytennigkljnfjmaa", sum := "bdf3d34d266855e93016b17af29db7b2313a99a22ebeb29eddb514ceac8b153a", func := "loop.example/symmetricsums/laws.FnExactRootBack", spec := "fnExactRootBack", apart := false, narrowed := true }
def FnExactRootBackUptoSaid : Prop := fnExactRootBackUptoRow.holds Try.pinned (OpenSpec.upto fnExactRootBackSpec)

/-- 'laws.FnExactRootFrom', WHERE WHAT IT READS IS OF BULK AT MOST 1048576: true; the input reads as it did. -/
def fnExactRootFromUptoRow : OpenClaim := { program := "ytennigkljnfjmaa", sum := "bdf3d34d266855e93016b17af29db7b2313a99a22ebeb29eddb514ceac8b153a", func := "loop.example/symmetricsums/laws.FnExactRootFrom", spec := "fnExactRootFrom", apart := false, narrowed := true }
def FnExactRootFromUptoSaid : Prop := fnExactRootFromUptoRow.holds Try.pinned (OpenSpec.upto fnExactRootFromSpec)

/-- 'laws.FnPowersFrom', WHERE WHAT IT READS IS OF BULK AT MOST 1048576: true; the input reads as it did. -/
def fnPowersFromUptoRow : OpenClaim := { program := "ytennigkljnfjmaa", sum := "bdf3d34d266855e93016b17af29db7b2313a99a22ebeb29eddb514ceac8b153a", func := "loop.example/symmetricsums/laws.FnPowersFrom", spec := "fnPowersFrom", unfollowed := true, recurses := true, apart := false, narrowed := true }
def FnPowersFromUptoSaid : Prop := fnPowersFromUptoRow.holds Try.pinned (OpenSpec.upto fnPowersFromSpec)

/-- 'laws.FnRootFrom', WHERE WHAT IT READS IS OF BULK AT MOST 1048576: true; the input reads as it did. -/
def fnRootFromUptoRow : OpenClaim := { program := "ytennigkljnfjmaa", sum := "bdf3d34d266855e93016b17af29db7b2313a99a22ebeb29eddb514ceac8b153a", func := "loop.example/symmetricsums/laws.FnRootFrom", spec := "fnRootFrom", unfollowed := true, recurses := true, apart := false, narrowed := true }
def FnRootFromUptoSaid : Prop := fnRootFromUptoRow.holds Try.pinned (OpenSpec.upto fnRootFromSpec)

end Rows
end Go.Proofs.Ytennigkljnfjmaa
