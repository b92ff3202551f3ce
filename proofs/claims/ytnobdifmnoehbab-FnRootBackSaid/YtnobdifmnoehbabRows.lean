/-
  No cell of these rows narrows 'for every input' (looked for: loops, veiled, ifaces, maps, wideKeys, modest, calm, conditions, laid).
  DERIVED. THE GIVEN ROWS OF THIS SEAT. 12 by the template 'for every input the law returns true; each argument reads behind the call as it read before'; 0 by the template 'total and deterministic' (their statements: YtnobdifmnoehbabTotals.lean).
  GIVEN WITH THE SEED: the statements are not yours to turn. If you find one false, say at which input.
  Laid BY PROGRAM, IN A SANDBOX (cutbox-rows.mjs): the forced cells as the released guide's own fill.sh prints them over the translation 4ddab27952bb0f32… (all of the seat's roots in one cut). By AI agents, Wed Nov 11 2026. No macro, syntax, notation, axiom, sorry.
-/
import Derived.Test.YtnobdifmnoehbabChecked
import GoSem.Claim
import GoSem.ClaimJoined
import GoSem.ClaimMapViews
import Derived.JoinedTies
import Derived.KernelRfl
namespace Go.Proofs.Ytnobdifmnoehbab
/- THE CELL 'sum', in the pinned program and in every row, IS THE sha256 OF THE DUMP (.gsa) THAT YtnobdifmnoehbabProg.lean LOADS. Nothing in Lean hashes anything: it is a label: what it is worth is what the hold of that sum in a sandbox is worth. -/
noncomputable def Try.pinned : Pinned := { name := "ytnobdifmnoehbab", sum := "4ddab27952bb0f324ed2f7873b42e03964a313007f2173c7e01745c5f7620e58", checked := Try.checked }
namespace Rows
def none {H : Type} : Left H := { results := [], args := [] }

/-- 'laws.FnRoot': WHATEVER THE INPUT: true; the input reads as it did. -/
def fnRootSpec : ChangeSpec := { name := "fnRoot", fn := fun _ => fun
  | [d] => { results := [.lit (.bool true)], args := [d] }
  | _ => none }
def fnRootRow : OpenClaim := { program := "ytnobdifmnoehbab", sum := "4ddab27952bb0f324ed2f7873b42e03964a313007f2173c7e01745c5f7620e58", func := "loop.example/symmetricsums/laws.FnRoot", spec := "fnRoot", unfollowed := true, recurses := true, plainKeys := false, apart := false }
def FnRootSaid : Prop := fnRootRow.holds Try.pinned (OpenSpec.ofChange fnRootSpec)

/-- ITS FALSE NEIGHBOUR: 'it returns false'. Refute it at one input. -/
def fnRootWrong : ChangeSpec := { name := "fnRoot", fn := fun _ => fun
  | [d] => { results := [.lit (.bool false)], args := [d] }
  | _ => none }
def FnRootWrongFalsely : Prop := fnRootRow.holds Try.pinned (OpenSpec.ofChange fnRootWrong)

/-- 'laws.FnRootPowers': WHATEVER THE INPUT: true; the input reads as it did. -/
def fnRootPowersSpec : ChangeSpec := { name := "fnRootPowers", fn := fun _ => fun
  | [d] => { results := [.lit (.bool true)], args := [d] }
  | _ => none }
def fnRootPowersRow : OpenClaim := { program := "ytnobdifmnoehbab", sum := "4ddab27952bb0f324ed2f7873b42e03964a313007f2173c7e01745c5f7620e58", func := "loop.example/symmetricsums/laws.FnRootPowers", spec := "fnRootPowers", unfollowed := true, recurses := true, plainKeys := false, apart := false }
def FnRootPowersSaid : Prop := fnRootPowersRow.holds Try.pinned (OpenSpec.ofChange fnRootPowersSpec)

/-- ITS FALSE NEIGHBOUR: 'it returns false'. Refute it at one input. -/
def fnRootPowersWrong : ChangeSpec := { name := "fnRootPowers", fn := fun _ => fun
  | [d] => { results := [.lit (.bool false)], args := [d] }
  | _ => none }
def FnRootPowersWrongFalsely : Prop := fnRootPowersRow.holds Try.pinned (OpenSpec.ofChange fnRootPowersWrong)

/-- 'laws.FnRootFulls': WHATEVER THE INPUT: true; the input reads as it did. -/
def fnRootFullsSpec : ChangeSpec := { name := "fnRootFulls", fn := fun _ => fun
  | [d] => { results := [.lit (.bool true)], args := [d] }
  | _ => none }
def fnRootFullsRow : OpenClaim := { program := "ytnobdifmnoehbab", sum := "4ddab27952bb0f324ed2f7873b42e03964a313007f2173c7e01745c5f7620e58", func := "loop.example/symmetricsums/laws.FnRootFulls", spec := "fnRootFulls", unfollowed := true, recurses := true, plainKeys := false, apart := false }
def FnRootFullsSaid : Prop := fnRootFullsRow.holds Try.pinned (OpenSpec.ofChange fnRootFullsSpec)

/-- ITS FALSE NEIGHBOUR: 'it returns false'. Refute it at one input. -/
def fnRootFullsWrong : ChangeSpec := { name := "fnRootFulls", fn := fun _ => fun
  | [d] => { results := [.lit (.bool false)], args := [d] }
  | _ => none }
def FnRootFullsWrongFalsely : Prop := fnRootFullsRow.holds Try.pinned (OpenSpec.ofChange fnRootFullsWrong)

/-- 'laws.FnPowersFrom': WHATEVER THE INPUT: true; the input reads as it did. -/
def fnPowersFromSpec : ChangeSpec := { name := "fnPowersFrom", fn := fun _ => fun
  | [d] => { results := [.lit (.bool true)], args := [d] }
  | _ => none }
def fnPowersFromRow : OpenClaim := { program := "ytnobdifmnoehbab", sum := "4ddab27952bb0f324ed2f7873b42e03964a313007f2173c7e01745c5f7620e58", func := "loop.example/symmetricsums/laws.FnPowersFrom", spec := "fnPowersFrom", unfollowed := true, recurses := true, plainKeys := false, apart := false }
def FnPowersFromSaid : Prop := fnPowersFromRow.holds Try.pinned (OpenSpec.ofChange fnPowersFromSpec)

/-- ITS FALSE NEIGHBOUR: 'it returns false'. Refute it at one input. -/
def fnPowersFromWrong : ChangeSpec := { name := "fnPowersFrom", fn := fun _ => fun
  | [d] => { results := [.lit (.bool false)], args := [d] }
  | _ => none }
def FnPowersFromWrongFalsely : Prop := fnPowersFromRow.holds Try.pinned (OpenSpec.ofChange fnPowersFromWrong)

/-- 'laws.FnFulls': WHATEVER THE INPUT: true; the input reads as it did. -/
def fnFullsSpec : ChangeSpec := { name := "fnFulls", fn := fun _ => fun
  | [d] => { results := [.lit (.bool true)], args := [d] }
  | _ => none }
def fnFullsRow : OpenClaim := { program := "ytnobdifmnoehbab", sum := "4ddab27952bb0f324ed2f7873b42e03964a313007f2173c7e01745c5f7620e58", func := "loop.example/symmetricsums/laws.FnFulls", spec := "fnFulls", unfollowed := true, recurses := true, plainKeys := false, apart := false }
def FnFullsSaid : Prop := fnFullsRow.holds Try.pinned (OpenSpec.ofChange fnFullsSpec)

/-- ITS FALSE NEIGHBOUR: 'it returns false'. Refute it at one input. -/
def fnFullsWrong : ChangeSpec := { name := "fnFulls", fn := fun _ => fun
  | [d] => { results := [.lit (.bool false)], args := [d] }
  | _ => none }
def FnFullsWrongFalsely : Prop := fnFullsRow.holds Try.pinned (OpenSpec.ofChange fnFullsWrong)

/-- 'laws.FnRootFrom': WHATEVER THE INPUT: true; the input reads as it did. -/
def fnRootFromSpec : ChangeSpec := { name := "fnRootFrom", fn := fun _ => fun
  | [d] => { results := [.lit (.bool true)], args := [d] }
  | _ => none }
def fnRootFromRow : OpenClaim := { program := "ytnobdifmnoehbab", sum := "4ddab27952bb0f324ed2f7873b42e03964a313007f2173c7e01745c5f7620e58", func := "loop.example/symmetricsums/laws.FnRootFrom", spec := "fnRootFrom", unfollowed := true, recurses := true, plainKeys := false, apart := false }
def FnRootFromSaid : Prop := fnRootFromRow.holds Try.pinned (OpenSpec.ofChange fnRootFromSpec)

/-- ITS FALSE NEIGHBOUR: 'it returns false'. Refute it at one input. -/
def fnRootFromWrong : ChangeSpec := { name := "fnRootFrom", fn := fun _ => fun
  | [d] => { results := [.lit (.bool false)], args := [d] }
  | _ => none }
def FnRootFromWrongFalsely : Prop := fnRootFromRow.holds Try.pinned (OpenSpec.ofChange fnRootFromWrong)

/-- 'laws.FnShift': WHATEVER THE INPUT: true; the input reads as it did. -/
def fnShiftSpec : ChangeSpec := { name := "fnShift", fn := fun _ => fun
  | [d] => { results := [.lit (.bool true)], args := [d] }
  | _ => none }
def fnShiftRow : OpenClaim := { program := "ytnobdifmnoehbab", sum := "4ddab27952bb0f324ed2f7873b42e03964a313007f2173c7e01745c5f7620e58", func := "loop.example/symmetricsums/laws.FnShift", spec := "fnShift", unfollowed := true, recurses := true, plainKeys := false, apart := false }
def FnShiftSaid : Prop := fnShiftRow.holds Try.pinned (OpenSpec.ofChange fnShiftSpec)

/-- ITS FALSE NEIGHBOUR: 'it returns false'. Refute it at one input. -/
def fnShiftWrong : ChangeSpec := { name := "fnShift", fn := fun _ => fun
  | [d] => { results := [.lit (.bool false)], args := [d] }
  | _ => none }
def FnShiftWrongFalsely : Prop := fnShiftRow.holds Try.pinned (OpenSpec.ofChange fnShiftWrong)

/-- 'laws.FnShiftAt': WHATEVER THE INPUT: true; the input reads as it did. -/
def fnShiftAtSpec : ChangeSpec := { name := "fnShiftAt", fn := fun _ => fun
  | [d] => { results := [.lit (.bool true)], args := [d] }
  | _ => none }
def fnShiftAtRow : OpenClaim := { program := "ytnobdifmnoehbab", sum := "4ddab27952bb0f324ed2f7873b42e03964a313007f2173c7e01745c5f7620e58", func := "loop.example/symmetricsums/laws.FnShiftAt", spec := "fnShiftAt", unfollowed := true, recurses := true, plainKeys := false, apart := false }
def FnShiftAtSaid : Prop := fnShiftAtRow.holds Try.pinned (OpenSpec.ofChange fnShiftAtSpec)

/-- ITS FALSE NEIGHBOUR: 'it returns false'. Refute it at one input. -/
def fnShiftAtWrong : ChangeSpec := { name := "fnShiftAt", fn := fun _ => fun
  | [d] => { results := [.lit (.bool false)], args := [d] }
  | _ => none }
def FnShiftAtWrongFalsely : Prop := fnShiftAtRow.holds Try.pinned (OpenSpec.ofChange fnShiftAtWrong)

/-- 'laws.FnRootTimes': WHATEVER THE INPUT: true; the input reads as it did. -/
def fnRootTimesSpec : ChangeSpec := { name := "fnRootTimes", fn := fun _ => fun
  | [d] => { results := [.lit (.bool true)], args := [d] }
  | _ => none }
def fnRootTimesRow : OpenClaim := { program := "ytnobdifmnoehbab", sum := "4ddab27952bb0f324ed2f7873b42e03964a313007f2173c7e01745c5f7620e58", func := "loop.example/symmetricsums/laws.FnRootTimes", spec := "fnRootTimes", unfollowed := true, recurses := true, plainKeys := false, apart := false }
def FnRootTimesSaid : Prop := fnRootTimesRow.holds Try.pinned (OpenSpec.ofChange fnRootTimesSpec)

/-- ITS FALSE NEIGHBOUR: 'it returns false'. Refute it at one input. -/
def fnRootTimesWrong : ChangeSpec := { name := "fnRootTimes", fn := fun _ => fun
  | [d] => { results := [.lit (.bool false)], args := [d] }
  | _ => none }
def FnRootTimesWrongFalsely : Prop := fnRootTimesRow.holds Try.pinned (OpenSpec.ofChange fnRootTimesWrong)

/-- 'laws.FnSquares': WHATEVER THE INPUT: true; the input reads as it did. -/
def fnSquaresSpec : ChangeSpec := { name := "fnSquares", fn := fun _ => fun
  | [d] => { results := [.lit (.bool true)], args := [d] }
  | _ => none }
def fnSquaresRow : OpenClaim := { program := "ytnobdifmnoehbab", sum := "4ddab27952bb0f324ed2f7873b42e03964a313007f2173c7e01745c5f7620e58", func := "loop.example/symmetricsums/laws.FnSquares", spec := "fnSquares", unfollowed := true, recurses := true, plainKeys := false, apart := false }
def FnSquaresSaid : Prop := fnSquaresRow.holds Try.pinned (OpenSpec.ofChange fnSquaresSpec)

/-- ITS FALSE NEIGHBOUR: 'it returns false'. Refute it at one input. -/
def fnSquaresWrong : ChangeSpec := { name := "fnSquares", fn := fun _ => fun
  | [d] => { results := [.lit (.bool false)], args := [d] }
  | _ => none }
def FnSquaresWrongFalsely : Prop := fnSquaresRow.holds Try.pinned (OpenSpec.ofChange fnSquaresWrong)

/-- 'laws.FnRootBack': WHATEVER THE INPUT: true; the input reads as it did. -/
def fnRootBackSpec : ChangeSpec := { name := "fnRootBack", fn := fun _ => fun
  | [d] => { results := [.lit (.bool true)], args := [d] }
  | _ => none }
def fnRootBackRow : OpenClaim := { program := "ytnobdifmnoehbab", sum := "4ddab27952bb0f324ed2f7873b42e03964a313007f2173c7e01745c5f7620e58", func := "loop.example/symmetricsums/laws.FnRootBack", spec := "fnRootBack", recurses := true, plainKeys := false, apart := false }
def FnRootBackSaid : Prop := fnRootBackRow.holds Try.pinned (OpenSpec.ofChange fnRootBackSpec)

/-- ITS FALSE NEIGHBOUR: 'it returns false'. Refute it at one input. -/
def fnRootBackWrong : ChangeSpec := { name := "fnRootBack", fn := fun _ => fun
  | [d] => { results := [.lit (.bool false)], args := [d] }
  | _ => none }
def FnRootBackWrongFalsely : Prop := fnRootBackRow.holds Try.pinned (OpenSpec.ofChange fnRootBackWrong)

/-- 'laws.FnRootAt': WHATEVER THE INPUT: true; the input reads as it did. -/
def fnRootAtSpec : ChangeSpec := { name := "fnRootAt", fn := fun _ => fun
  | [d] => { results := [.lit (.bool true)], args := [d] }
  | _ => none }
def fnRootAtRow : OpenClaim := { program := "ytnobdifmnoehbab", sum := "4ddab27952bb0f324ed2f7873b42e03964a313007f2173c7e01745c5f7620e58", func := "loop.example/symmetricsums/laws.FnRootAt", spec := "fnRootAt", recurses := true, plainKeys := false, apart := false }
def FnRootAtSaid : Prop := fnRootAtRow.holds Try.pinned (OpenSpec.ofChange fnRootAtSpec)

/-- ITS FALSE NEIGHBOUR: 'it returns false'. Refute it at one input. -/
def fnRootAtWrong : ChangeSpec := { name := "fnRootAt", fn := fun _ => fun
  | [d] => { results := [.lit (.bool false)], args := [d] }
  | _ => none }
def FnRootAtWrongFalsely : Prop := fnRootAtRow.holds Try.pinned (OpenSpec.ofChange fnRootAtWrong)

/- THE SECOND FORM. 'bulk': how many values and letters a reading holds, each counted each time it is reached (what is shared counts as often as it is met; a slice's spare places count too). A statement '..UptoSaid' is the law's where the arguments, and the package variables that the reading takes, are together of bulk at most 1048576: NARROWER than '..Said'. Prove '..Said' where nothing that the law and all that it calls make is longer than what came in: it says more and counts as full. Else prove '..UptoSaid'. A law counts once. -/
mutual
def uptoBulk {H : Type} : DataW H → Nat
  | .lit (.string bytes) => bytes.length + 1
  | .lit _ => 1
  | .nil => 1
  | .ptr d => uptoBulk d + 1
  | .slice elems spare => uptoBulkAll elems + uptoBulkAll spare + 1
  | .agg parts => uptoBulkAll parts + 1
  | .iface _ d => uptoBulk d + 1
  | .map entries => uptoBulkEntries entries + 1
  | .held _ => 1
def uptoBulkAll {H : Type} : List (DataW H) → Nat
  | [] => 0
  | d :: r => uptoBulk d + uptoBulkAll r
def uptoBulkEntries {H : Type} : List (Lit × DataW H) → Nat
  | [] => 0
  | x :: r => uptoBulkEntry x + uptoBulkEntries r
def uptoBulkEntry {H : Type} : Lit × DataW H → Nat
  | (.string bytes, d) => bytes.length + uptoBulk d + 1
  | (_, d) => uptoBulk d + 1
 end
def uptoSmall : (H : Type) → List (DataW H) → Bool := fun _ ds => decide (uptoBulkAll ds ≤ 1048576)
def OpenSpec.upto (s : _root_.Go.ChangeSpec) : _root_.Go.OpenSpec := { _root_.Go.OpenSpec.ofChange s with cond := some uptoSmall }

/-- 'laws.FnRoot', WHERE WHAT IT READS IS OF BULK AT MOST 1048576: true; the input reads as it did. -/
def fnRootUptoRow : OpenClaim := { program := "ytnobdifmnoehbab", sum := "4ddab27952bb0f324ed2f7873b42e03964a313007f2173c7e01745c5f7620e58", func := "loop.example/symmetricsums/laws.FnRoot", spec := "fnRoot", unfollowed := true, recurses := true, plainKeys := false, apart := false, narrowed := true }
def FnRootUptoSaid : Prop := fnRootUptoRow.holds Try.pinned (OpenSpec.upto fnRootSpec)

/-- 'laws.FnRootPowers', WHERE WHAT IT READS IS OF BULK AT MOST 1048576: true; the input reads as it did. -/
def fnRootPowersUptoRow : OpenClaim := { program := "ytnobdifmnoehbab", sum := "4ddab27952bb0f324ed2f7873b42e03964a313007f2173c7e01745c5f7620e58", func := "loop.example/symmetricsums/laws.FnRootPowers", spec := "fnRootPowers", unfollowed := true, recurses := true, plainKeys := false, apart := false, narrowed := true }
def FnRootPowersUptoSaid : Prop := fnRootPowersUptoRow.holds Try.pinned (OpenSpec.upto fnRootPowersSpec)

/-- 'laws.FnRootFulls', WHERE WHAT IT READS IS OF BULK AT MOST 1048576: true; the input reads as it did. -/
def fnRootFullsUptoRow : OpenClaim := { program := "ytnobdifmnoehbab", sum := "4ddab27952bb0f324ed2f7873b42e03964a313007f2173c7e01745c5f7620e58", func := "loop.example/symmetricsums/laws.FnRootFulls", spec := "fnRootFulls", unfollowed := true, recurses := true, plainKeys := false, apart := false, narrowed := true }
def FnRootFullsUptoSaid : Prop := fnRootFullsUptoRow.holds Try.pinned (OpenSpec.upto fnRootFullsSpec)

/-- 'laws.FnPowersFrom', WHERE WHAT IT READS IS OF BULK AT MOST 1048576: true; the input reads as it did. -/
def fnPowersFromUptoRow : OpenClaim := { program := "ytnobdifmnoehbab", sum := "4ddab27952bb0f324ed2f7873b42e03964a313007f2173c7e01745c5f7620e58", func := "loop.example/symmetricsums/laws.FnPowersFrom", spec := "fnPowersFrom", unfollowed := true, recurses := true, plainKeys := false, apart := false, narrowed := true }
def FnPowersFromUptoSaid : Prop := fnPowersFromUptoRow.holds Try.pinned (OpenSpec.upto fnPowersFromSpec)

/-- 'laws.FnFulls', WHERE WHAT IT READS IS OF BULK AT MOST 1048576: true; the input reads as it did. -/
def fnFullsUptoRow : OpenClaim := { program := "ytnobdifmnoehbab", sum := "4ddab27952bb0f324ed2f7873b42e03964a313007f2173c7e01745c5f7620e58", func := "loop.example/symmetricsums/laws.FnFulls", spec := "fnFulls", unfollowed := true, recurses := true, plainKeys := false, apart := false, narrowed := true }
def FnFullsUptoSaid : Prop := fnFullsUptoRow.holds Try.pinned (OpenSpec.upto fnFullsSpec)

/-- 'laws.FnRootFrom', WHERE WHAT IT READS IS OF BULK AT MOST 1048576: true; the input reads as it did. -/
def fnRootFromUptoRow : OpenClaim := { program := "ytnobdifmnoehbab", sum := "4ddab27952bb0f324ed2f7873b42e03964a313007f2173c7e01745c5f7620e58", func := "loop.example/symmetricsums/laws.FnRootFrom", spec := "fnRootFrom", unfollowed := true, recurses := true, plainKeys := false, apart := false, narrowed := true }
def FnRootFromUptoSaid : Prop := fnRootFromUptoRow.holds Try.pinned (OpenSpec.upto fnRootFromSpec)

/-- 'laws.FnShift', WHERE WHAT IT READS IS OF BULK AT MOST 1048576: true; the input reads as it did. -/
def fnShiftUptoRow : OpenClaim := { program := "ytnobdifmnoehbab", sum := "4ddab27952bb0f324ed2f7873b42e03964a313007f2173c7e01745c5f7620e58", func := "loop.example/symmetricsums/laws.FnShift", spec := "fnShift", unfollowed := true, recurses := true, plainKeys := false, apart := false, narrowed := true }
def FnShiftUptoSaid : Prop := fnShiftUptoRow.holds Try.pinned (OpenSpec.upto fnShiftSpec)

/-- 'laws.FnShiftAt', WHERE WHAT IT READS IS OF BULK AT MOST 1048576: true; the input reads as it did. -/
def fnShiftAtUptoRow : OpenClaim := { program := "ytnobdifmnoehbab", sum := "4ddab27952bb0f324ed2f7873b42e03964a313007f2173c7e01745c5f7620e58", func := "loop.example/symmetricsums/laws.FnShiftAt", spec := "fnShiftAt", unfollowed := true, recurses := true, plainKeys := false, apart := false, narrowed := true }
def FnShiftAtUptoSaid : Prop := fnShiftAtUptoRow.holds Try.pinned (OpenSpec.upto fnShiftAtSpec)

/-- 'laws.FnRootTimes', WHERE WHAT IT READS IS OF BULK AT MOST 1048576: true; the input reads as it did. -/
def fnRootTimesUptoRow : OpenClaim := { program := "ytnobdifmnoehbab", sum := "4ddab27952bb0f324ed2f7873b42e03964a313007f2173c7e01745c5f7620e58", func := "loop.example/symmetricsums/laws.FnRootTimes", spec := "fnRootTimes", unfollowed := true, recurses := true, plainKeys := false, apart := false, narrowed := true }
def FnRootTimesUptoSaid : Prop := fnRootTimesUptoRow.holds Try.pinned (OpenSpec.upto fnRootTimesSpec)

/-- 'laws.FnSquares', WHERE WHAT IT READS IS OF BULK AT MOST 1048576: true; the input reads as it did. -/
def fnSquaresUptoRow : OpenClaim := { program := "ytnobdifmnoehbab", sum := "4ddab27952bb0f324ed2f7873b42e03964a313007f2173c7e01745c5f7620e58", func := "loop.example/symmetricsums/laws.FnSquares", spec := "fnSquares", unfollowed := true, recurses := true, plainKeys := false, apart := false, narrowed := true }
def FnSquaresUptoSaid : Prop := fnSquaresUptoRow.holds Try.pinned (OpenSpec.upto fnSquaresSpec)

/-- 'laws.FnRootBack', WHERE WHAT IT READS IS OF BULK AT MOST 1048576: true; the input reads as it did. -/
def fnRootBackUptoRow : OpenClaim := { program := "ytnobdifmnoehbab", sum := "4ddab27952bb0f324ed2f7873b42e03964a313007f2173c7e01745c5f7620e58", func := "loop.example/symmetricsums/laws.FnRootBack", spec := "fnRootBack", recurses := true, plainKeys := false, apart := false, narrowed := true }
def FnRootBackUptoSaid : Prop := fnRootBackUptoRow.holds Try.pinned (OpenSpec.upto fnRootBackSpec)

/-- 'laws.FnRootAt', WHERE WHAT IT READS IS OF BULK AT MOST 1048576: true; the input reads as it did. -/
def fnRootAtUptoRow : OpenClaim := { program := "ytnobdifmnoehbab", sum := "4ddab27952bb0f324ed2f7873b42e03964a313007f2173c7e01745c5f7620e58", func := "loop.example/symmetricsums/laws.FnRootAt", spec := "fnRootAt", recurses := true, plainKeys := false, apart := false, narrowed := true }
def FnRootAtUptoSaid : Prop := fnRootAtUptoRow.holds Try.pinned (OpenSpec.upto fnRootAtSpec)

end Rows
end Go.Proofs.Ytnobdifmnoehbab
