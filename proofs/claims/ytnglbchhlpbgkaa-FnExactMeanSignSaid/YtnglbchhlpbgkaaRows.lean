/-
  No cell of these rows narrows 'for every input' (looked for: loops, veiled, ifaces, maps, wideKeys, modest, calm, conditions, laid).
  DERIVED. THE GIVEN ROWS OF THIS SEAT. 10 by the template 'for every input the law returns true; each argument reads behind the call as it read before'; 0 by the template 'total and deterministic' (their statements: YtnglbchhlpbgkaaTotals.lean).
  GIVEN WITH THE SEED: the statements are not yours to turn. If you find one false, say at which input.
  Laid BY PROGRAM, IN A SANDBOX (cutbox-rows.mjs): the forced cells as the released guide's own fill.sh prints them over the translation 6bcfc3264da3f013… (all of the seat's roots in one cut). By AI agents, Wed Nov 11 2026. No macro, syntax, notation, axiom, sorry.
-/
import Derived.Test.YtnglbchhlpbgkaaChecked
import GoSem.Claim
import GoSem.ClaimJoined
import GoSem.ClaimMapViews
import Derived.JoinedTies
import Derived.KernelRfl
namespace Go.Proofs.Ytnglbchhlpbgkaa
/- THE CELL 'sum', in the pinned program and in every row, IS THE sha256 OF THE DUMP (.gsa) THAT YtnglbchhlpbgkaaProg.lean LOADS. Nothing in Lean hashes anything: it is a label: what it is worth is what the hold of that sum in a sandbox is worth. -/
noncomputable def Try.pinned : Pinned := { name := "ytnglbchhlpbgkaa", sum := "6bcfc3264da3f0132d65231952ca1c5aab59b8dd53550a44f2d514d66739ca51", checked := Try.checked }
namespace Rows
def none {H : Type} : Left H := { results := [], args := [] }

/-- 'laws.FnExactMeanTerms': WHATEVER THE INPUT: true; the input reads as it did. -/
def fnExactMeanTermsSpec : ChangeSpec := { name := "fnExactMeanTerms", fn := fun _ => fun
  | [d1, d2] => { results := [.lit (.bool true)], args := [d1, d2] }
  | _ => none }
def fnExactMeanTermsRow : OpenClaim := { program := "ytnglbchhlpbgkaa", sum := "6bcfc3264da3f0132d65231952ca1c5aab59b8dd53550a44f2d514d66739ca51", func := "loop.example/symmetricsums/laws.FnExactMeanTerms", spec := "fnExactMeanTerms", plainKeys := false, apart := false }
def FnExactMeanTermsSaid : Prop := fnExactMeanTermsRow.holds Try.pinned (OpenSpec.ofChange fnExactMeanTermsSpec)

/-- ITS FALSE NEIGHBOUR: 'it returns false'. Refute it at one input. -/
def fnExactMeanTermsWrong : ChangeSpec := { name := "fnExactMeanTerms", fn := fun _ => fun
  | [d1, d2] => { results := [.lit (.bool false)], args := [d1, d2] }
  | _ => none }
def FnExactMeanTermsWrongFalsely : Prop := fnExactMeanTermsRow.holds Try.pinned (OpenSpec.ofChange fnExactMeanTermsWrong)

/-- 'laws.FnExactMeanSign': WHATEVER THE INPUT: true; the input reads as it did. -/
def fnExactMeanSignSpec : ChangeSpec := { name := "fnExactMeanSign", fn := fun _ => fun
  | [d1, d2, d3] => { results := [.lit (.bool true)], args := [d1, d2, d3] }
  | _ => none }
def fnExactMeanSignRow : OpenClaim := { program := "ytnglbchhlpbgkaa", sum := "6bcfc3264da3f0132d65231952ca1c5aab59b8dd53550a44f2d514d66739ca51", func := "loop.example/symmetricsums/laws.FnExactMeanSign", spec := "fnExactMeanSign", unfollowed := true, recurses := true, plainKeys := false, apart := false }
def FnExactMeanSignSaid : Prop := fnExactMeanSignRow.holds Try.pinned (OpenSpec.ofChange fnExactMeanSignSpec)

/-- ITS FALSE NEIGHBOUR: 'it returns false'. Refute it at one input. -/
def fnExactMeanSignWrong : ChangeSpec := { name := "fnExactMeanSign", fn := fun _ => fun
  | [d1, d2, d3] => { results := [.lit (.bool false)], args := [d1, d2, d3] }
  | _ => none }
def FnExactMeanSignWrongFalsely : Prop := fnExactMeanSignRow.holds Try.pinned (OpenSpec.ofChange fnExactMeanSignWrong)

/-- 'laws.FnExactMeanNewton': WHATEVER THE INPUT: true; the input reads as it did. -/
def fnExactMeanNewtonSpec : ChangeSpec := { name := "fnExactMeanNewton", fn := fun _ => fun
  | [d1, d2] => { results := [.lit (.bool true)], args := [d1, d2] }
  | _ => none }
def fnExactMeanNewtonRow : OpenClaim := { program := "ytnglbchhlpbgkaa", sum := "6bcfc3264da3f0132d65231952ca1c5aab59b8dd53550a44f2d514d66739ca51", func := "loop.example/symmetricsums/laws.FnExactMeanNewton", spec := "fnExactMeanNewton", unfollowed := true, recurses := true, plainKeys := false, apart := false }
def FnExactMeanNewtonSaid : Prop := fnExactMeanNewtonRow.holds Try.pinned (OpenSpec.ofChange fnExactMeanNewtonSpec)

/-- ITS FALSE NEIGHBOUR: 'it returns false'. Refute it at one input. -/
def fnExactMeanNewtonWrong : ChangeSpec := { name := "fnExactMeanNewton", fn := fun _ => fun
  | [d1, d2] => { results := [.lit (.bool false)], args := [d1, d2] }
  | _ => none }
def FnExactMeanNewtonWrongFalsely : Prop := fnExactMeanNewtonRow.holds Try.pinned (OpenSpec.ofChange fnExactMeanNewtonWrong)

/-- 'laws.FnExactMeanSquare': WHATEVER THE INPUT: true; the input reads as it did. -/
def fnExactMeanSquareSpec : ChangeSpec := { name := "fnExactMeanSquare", fn := fun _ => fun
  | [d] => { results := [.lit (.bool true)], args := [d] }
  | _ => none }
def fnExactMeanSquareRow : OpenClaim := { program := "ytnglbchhlpbgkaa", sum := "6bcfc3264da3f0132d65231952ca1c5aab59b8dd53550a44f2d514d66739ca51", func := "loop.example/symmetricsums/laws.FnExactMeanSquare", spec := "fnExactMeanSquare", plainKeys := false, apart := false }
def FnExactMeanSquareSaid : Prop := fnExactMeanSquareRow.holds Try.pinned (OpenSpec.ofChange fnExactMeanSquareSpec)

/-- ITS FALSE NEIGHBOUR: 'it returns false'. Refute it at one input. -/
def fnExactMeanSquareWrong : ChangeSpec := { name := "fnExactMeanSquare", fn := fun _ => fun
  | [d] => { results := [.lit (.bool false)], args := [d] }
  | _ => none }
def FnExactMeanSquareWrongFalsely : Prop := fnExactMeanSquareRow.holds Try.pinned (OpenSpec.ofChange fnExactMeanSquareWrong)

/-- 'laws.FnExactMeanPure': WHATEVER THE INPUT: true; the input reads as it did. -/
def fnExactMeanPureSpec : ChangeSpec := { name := "fnExactMeanPure", fn := fun _ => fun
  | [d] => { results := [.lit (.bool true)], args := [d] }
  | _ => none }
def fnExactMeanPureRow : OpenClaim := { program := "ytnglbchhlpbgkaa", sum := "6bcfc3264da3f0132d65231952ca1c5aab59b8dd53550a44f2d514d66739ca51", func := "loop.example/symmetricsums/laws.FnExactMeanPure", spec := "fnExactMeanPure", unfollowed := true, recurses := true, plainKeys := false, apart := false }
def FnExactMeanPureSaid : Prop := fnExactMeanPureRow.holds Try.pinned (OpenSpec.ofChange fnExactMeanPureSpec)

/-- ITS FALSE NEIGHBOUR: 'it returns false'. Refute it at one input. -/
def fnExactMeanPureWrong : ChangeSpec := { name := "fnExactMeanPure", fn := fun _ => fun
  | [d] => { results := [.lit (.bool false)], args := [d] }
  | _ => none }
def FnExactMeanPureWrongFalsely : Prop := fnExactMeanPureRow.holds Try.pinned (OpenSpec.ofChange fnExactMeanPureWrong)

/-- 'laws.FnExactMeanLog': WHATEVER THE INPUT: true; the input reads as it did. -/
def fnExactMeanLogSpec : ChangeSpec := { name := "fnExactMeanLog", fn := fun _ => fun
  | [d1, d2] => { results := [.lit (.bool true)], args := [d1, d2] }
  | _ => none }
def fnExactMeanLogRow : OpenClaim := { program := "ytnglbchhlpbgkaa", sum := "6bcfc3264da3f0132d65231952ca1c5aab59b8dd53550a44f2d514d66739ca51", func := "loop.example/symmetricsums/laws.FnExactMeanLog", spec := "fnExactMeanLog", unfollowed := true, recurses := true, plainKeys := false, apart := false }
def FnExactMeanLogSaid : Prop := fnExactMeanLogRow.holds Try.pinned (OpenSpec.ofChange fnExactMeanLogSpec)

/-- ITS FALSE NEIGHBOUR: 'it returns false'. Refute it at one input. -/
def fnExactMeanLogWrong : ChangeSpec := { name := "fnExactMeanLog", fn := fun _ => fun
  | [d1, d2] => { results := [.lit (.bool false)], args := [d1, d2] }
  | _ => none }
def FnExactMeanLogWrongFalsely : Prop := fnExactMeanLogRow.holds Try.pinned (OpenSpec.ofChange fnExactMeanLogWrong)

/-- 'laws.FnExactMeanSchur': WHATEVER THE INPUT: true; the input reads as it did. -/
def fnExactMeanSchurSpec : ChangeSpec := { name := "fnExactMeanSchur", fn := fun _ => fun
  | [d1, d2, d3, d4] => { results := [.lit (.bool true)], args := [d1, d2, d3, d4] }
  | _ => none }
def fnExactMeanSchurRow : OpenClaim := { program := "ytnglbchhlpbgkaa", sum := "6bcfc3264da3f0132d65231952ca1c5aab59b8dd53550a44f2d514d66739ca51", func := "loop.example/symmetricsums/laws.FnExactMeanSchur", spec := "fnExactMeanSchur", unfollowed := true, recurses := true, plainKeys := false, apart := false }
def FnExactMeanSchurSaid : Prop := fnExactMeanSchurRow.holds Try.pinned (OpenSpec.ofChange fnExactMeanSchurSpec)

/-- ITS FALSE NEIGHBOUR: 'it returns false'. Refute it at one input. -/
def fnExactMeanSchurWrong : ChangeSpec := { name := "fnExactMeanSchur", fn := fun _ => fun
  | [d1, d2, d3, d4] => { results := [.lit (.bool false)], args := [d1, d2, d3, d4] }
  | _ => none }
def FnExactMeanSchurWrongFalsely : Prop := fnExactMeanSchurRow.holds Try.pinned (OpenSpec.ofChange fnExactMeanSchurWrong)

/-- 'laws.FnExactMeanStep': WHATEVER THE INPUT: true; the input reads as it did. -/
def fnExactMeanStepSpec : ChangeSpec := { name := "fnExactMeanStep", fn := fun _ => fun
  | [d1, d2, d3] => { results := [.lit (.bool true)], args := [d1, d2, d3] }
  | _ => none }
def fnExactMeanStepRow : OpenClaim := { program := "ytnglbchhlpbgkaa", sum := "6bcfc3264da3f0132d65231952ca1c5aab59b8dd53550a44f2d514d66739ca51", func := "loop.example/symmetricsums/laws.FnExactMeanStep", spec := "fnExactMeanStep", recurses := true, plainKeys := false, apart := false }
def FnExactMeanStepSaid : Prop := fnExactMeanStepRow.holds Try.pinned (OpenSpec.ofChange fnExactMeanStepSpec)

/-- ITS FALSE NEIGHBOUR: 'it returns false'. Refute it at one input. -/
def fnExactMeanStepWrong : ChangeSpec := { name := "fnExactMeanStep", fn := fun _ => fun
  | [d1, d2, d3] => { results := [.lit (.bool false)], args := [d1, d2, d3] }
  | _ => none }
def FnExactMeanStepWrongFalsely : Prop := fnExactMeanStepRow.holds Try.pinned (OpenSpec.ofChange fnExactMeanStepWrong)

/-- 'laws.FnExactShareJoin': WHATEVER THE INPUT: true; the input reads as it did. -/
def fnExactShareJoinSpec : ChangeSpec := { name := "fnExactShareJoin", fn := fun _ => fun
  | [d1, d2] => { results := [.lit (.bool true)], args := [d1, d2] }
  | _ => none }
def fnExactShareJoinRow : OpenClaim := { program := "ytnglbchhlpbgkaa", sum := "6bcfc3264da3f0132d65231952ca1c5aab59b8dd53550a44f2d514d66739ca51", func := "loop.example/symmetricsums/laws.FnExactShareJoin", spec := "fnExactShareJoin", recurses := true, plainKeys := false, apart := false }
def FnExactShareJoinSaid : Prop := fnExactShareJoinRow.holds Try.pinned (OpenSpec.ofChange fnExactShareJoinSpec)

/-- ITS FALSE NEIGHBOUR: 'it returns false'. Refute it at one input. -/
def fnExactShareJoinWrong : ChangeSpec := { name := "fnExactShareJoin", fn := fun _ => fun
  | [d1, d2] => { results := [.lit (.bool false)], args := [d1, d2] }
  | _ => none }
def FnExactShareJoinWrongFalsely : Prop := fnExactShareJoinRow.holds Try.pinned (OpenSpec.ofChange fnExactShareJoinWrong)

/-- 'laws.FnExactProductWays': WHATEVER THE INPUT: true; the input reads as it did. -/
def fnExactProductWaysSpec : ChangeSpec := { name := "fnExactProductWays", fn := fun _ => fun
  | [d1, d2] => { results := [.lit (.bool true)], args := [d1, d2] }
  | _ => none }
def fnExactProductWaysRow : OpenClaim := { program := "ytnglbchhlpbgkaa", sum := "6bcfc3264da3f0132d65231952ca1c5aab59b8dd53550a44f2d514d66739ca51", func := "loop.example/symmetricsums/laws.FnExactProductWays", spec := "fnExactProductWays", recurses := true, plainKeys := false, apart := false }
def FnExactProductWaysSaid : Prop := fnExactProductWaysRow.holds Try.pinned (OpenSpec.ofChange fnExactProductWaysSpec)

/-- ITS FALSE NEIGHBOUR: 'it returns false'. Refute it at one input. -/
def fnExactProductWaysWrong : ChangeSpec := { name := "fnExactProductWays", fn := fun _ => fun
  | [d1, d2] => { results := [.lit (.bool false)], args := [d1, d2] }
  | _ => none }
def FnExactProductWaysWrongFalsely : Prop := fnExactProductWaysRow.holds Try.pinned (OpenSpec.ofChange fnExactProductWaysWrong)

/- THE SECOND FORM. 'bulk': how many values and letters a reading holds, each counted each time it is reached (what is shared counts as often as it is met; a slice's spare places count too). A statement '..UptoSaid' is the law's where the arguments, and the package variables that the reading takes, are together of bulk at most 1048576: NARROWER than '..Said'. Prove '..Said' where nothing that the law and all that it calls make is longer than what came in: it says more and counts as full. Else prove '..UptoSaid'. A law counts once. -/
mutual
def uptoBulk {H : Type} : DataW H → Nat
  | .lit (.string bytes) => bytes.length + 1
  | .lit _ => 1
  | .nil => 1
  | .ptr d => uptoBulk d + 1
  | .slice elems spare => uptoBulkAll elems + uptoBulkAll spare + 1
  | .agg parts => uptoBulkAll parts + 1
  | .iface _ d => uptoBulk d + 1
  | .map entries => uptoBulkEntries entries + 1
  | .held _ => 1
def uptoBulkAll {H : Type} : List (DataW H) → Nat
  | [] => 0
  | d :: r => uptoBulk d + uptoBulkAll r
def uptoBulkEntries {H : Type} : List (Lit × DataW H) → Nat
  | [] => 0
  | x :: r => uptoBulkEntry x + uptoBulkEntries r
def uptoBulkEntry {H : Type} : Lit × DataW H → Nat
  | (.string bytes, d) => bytes.length + uptoBulk d + 1
  | (_, d) => uptoBulk d + 1
 end
def uptoSmall : (H : Type) → List (DataW H) → Bool := fun _ ds => decide (uptoBulkAll ds ≤ 1048576)
def OpenSpec.upto (s : _root_.Go.ChangeSpec) : _root_.Go.OpenSpec := { _root_.Go.OpenSpec.ofChange s with cond := some uptoSmall }

/-- 'laws.FnExactMeanTerms', WHERE WHAT IT READS IS OF BULK AT MOST 1048576: true; the input reads as it did. -/
def fnExactMeanTermsUptoRow : OpenClaim := { program := "ytnglbchhlpbgkaa", sum := "6bcfc3264da3f0132d65231952ca1c5aab59b8dd53550a44f2d514d66739ca51", func := "loop.example/symmetricsums/laws.FnExactMeanTerms", spec := "fnExactMeanTerms", plainKeys := false, apart := false, narrowed := true }
def FnExactMeanTermsUptoSaid : Prop := fnExactMeanTermsUptoRow.holds Try.pinned (OpenSpec.upto fnExactMeanTermsSpec)

/-- 'laws.FnExactMeanSign', WHERE WHAT IT READS IS OF BULK AT MOST 1048576: true; the input reads as it did. -/
def fnExactMeanSignUptoRow : OpenClaim := { program := "ytnglbchhlpbgkaa", sum := "6bcfc3264da3f0132d65231952ca1c5aab59b8dd53550a44f2d514d66739ca51", func := "loop.example/symmetricsums/laws.FnExactMeanSign", spec := "fnExactMeanSign", unfollowed := true, recurses := true, plainKeys := false, apart := false, narrowed := true }
def FnExactMeanSignUptoSaid : Prop := fnExactMeanSignUptoRow.holds Try.pinned (OpenSpec.upto fnExactMeanSignSpec)

/-- 'laws.FnExactMeanNewton', WHERE WHAT IT READS IS OF BULK AT MOST 1048576: true; the input reads as it did. -/
def fnExactMeanNewtonUptoRow : OpenClaim := { program := "ytnglbchhlpbgkaa", sum := "6bcfc3264da3f0132d65231952ca1c5aab59b8dd53550a44f2d514d66739ca51", func := "loop.example/symmetricsums/laws.FnExactMeanNewton", spec := "fnExactMeanNewton", unfollowed := true, recurses := true, plainKeys := false, apart := false, narrowed := true }
def FnExactMeanNewtonUptoSaid : Prop := fnExactMeanNewtonUptoRow.holds Try.pinned (OpenSpec.upto fnExactMeanNewtonSpec)

/-- 'laws.FnExactMeanSquare', WHERE WHAT IT READS IS OF BULK AT MOST 1048576: true; the input reads as it did. -/
def fnExactMeanSquareUptoRow : OpenClaim := { program := "ytnglbchhlpbgkaa", sum := "6bcfc3264da3f0132d65231952ca1c5aab59b8dd53550a44f2d514d66739ca51", func := "loop.example/symmetricsums/laws.FnExactMeanSquare", spec := "fnExactMeanSquare", plainKeys := false, apart := false, narrowed := true }
def FnExactMeanSquareUptoSaid : Prop := fnExactMeanSquareUptoRow.holds Try.pinned (OpenSpec.upto fnExactMeanSquareSpec)

/-- 'laws.FnExactMeanPure', WHERE WHAT IT READS IS OF BULK AT MOST 1048576: true; the input reads as it did. -/
def fnExactMeanPureUptoRow : OpenClaim := { program := "ytnglbchhlpbgkaa", sum := "6bcfc3264da3f0132d65231952ca1c5aab59b8dd53550a44f2d514d66739ca51", func := "loop.example/symmetricsums/laws.FnExactMeanPure", spec := "fnExactMeanPure", unfollowed := true, recurses := true, plainKeys := false, apart := false, narrowed := true }
def FnExactMeanPureUptoSaid : Prop := fnExactMeanPureUptoRow.holds Try.pinned (OpenSpec.upto fnExactMeanPureSpec)

/-- 'laws.FnExactMeanLog', WHERE WHAT IT READS IS OF BULK AT MOST 1048576: true; the input reads as it did. -/
def fnExactMeanLogUptoRow : OpenClaim := { program := "ytnglbchhlpbgkaa", sum := "6bcfc3264da3f0132d65231952ca1c5aab59b8dd53550a44f2d514d66739ca51", func := "loop.example/symmetricsums/laws.FnExactMeanLog", spec := "fnExactMeanLog", unfollowed := true, recurses := true, plainKeys := false, apart := false, narrowed := true }
def FnExactMeanLogUptoSaid : Prop := fnExactMeanLogUptoRow.holds Try.pinned (OpenSpec.upto fnExactMeanLogSpec)

/-- 'laws.FnExactMeanSchur', WHERE WHAT IT READS IS OF BULK AT MOST 1048576: true; the input reads as it did. -/
def fnExactMeanSchurUptoRow : OpenClaim := { program := "ytnglbchhlpbgkaa", sum := "6bcfc3264da3f0132d65231952ca1c5aab59b8dd53550a44f2d514d66739ca51", func := "loop.example/symmetricsums/laws.FnExactMeanSchur", spec := "fnExactMeanSchur", unfollowed := true, recurses := true, plainKeys := false, apart := false, narrowed := true }
def FnExactMeanSchurUptoSaid : Prop := fnExactMeanSchurUptoRow.holds Try.pinned (OpenSpec.upto fnExactMeanSchurSpec)

/-- 'laws.FnExactMeanStep', WHERE WHAT IT READS IS OF BULK AT MOST 1048576: true; the input reads as it did. -/
def fnExactMeanStepUptoRow : OpenClaim := { program := "ytnglbchhlpbgkaa", sum := "6bcfc3264da3f0132d65231952ca1c5aab59b8dd53550a44f2d514d66739ca51", func := "loop.example/symmetricsums/laws.FnExactMeanStep", spec := "fnExactMeanStep", recurses := true, plainKeys := false, apart := false, narrowed := true }
def FnExactMeanStepUptoSaid : Prop := fnExactMeanStepUptoRow.holds Try.pinned (OpenSpec.upto fnExactMeanStepSpec)

/-- 'laws.FnExactShareJoin', WHERE WHAT IT READS IS OF BULK AT MOST 1048576: true; the input reads as it did. -/
def fnExactShareJoinUptoRow : OpenClaim := { program := "ytnglbchhlpbgkaa", sum := "6bcfc3264da3f0132d65231952ca1c5aab59b8dd53550a44f2d514d66739ca51", func := "loop.example/symmetricsums/laws.FnExactShareJoin", spec := "fnExactShareJoin", recurses := true, plainKeys := false, apart := false, narrowed := true }
def FnExactShareJoinUptoSaid : Prop := fnExactShareJoinUptoRow.holds Try.pinned (OpenSpec.upto fnExactShareJoinSpec)

/-- 'laws.FnExactProductWays', WHERE WHAT IT READS IS OF BULK AT MOST 1048576: true; the input reads as it did. -/
def fnExactProductWaysUptoRow : OpenClaim := { program := "ytnglbchhlpbgkaa", sum := "6bcfc3264da3f0132d65231952ca1c5aab59b8dd53550a44f2d514d66739ca51", func := "loop.example/symmetricsums/laws.FnExactProductWays", spec := "fnExactProductWays", recurses := true, plainKeys := false, apart := false, narrowed := true }
def FnExactProductWaysUptoSaid : Prop := fnExactProductWaysUptoRow.holds Try.pinned (OpenSpec.upto fnExactProductWaysSpec)

end Rows
end Go.Proofs.Ytnglbchhlpbgkaa
