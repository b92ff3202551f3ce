/-
  No cell of these rows narrows 'for every input' (looked for: loops, veiled, ifaces, maps, wideKeys, modest, calm, conditions, laid).
  DERIVED. THE GIVEN ROWS OF THIS SEAT. 10 by the template 'for every input the law returns true; each argument reads behind the call as it read before'; 0 by the template 'total and deterministic' (their statements: YtnglbchhlpbgkabTotals.lean).
  GIVEN WITH THE SEED: the statements are not yours to turn. If you find one false, say at which input.
  Laid BY PROGRAM, IN A SANDBOX (cutbox-rows.mjs): the forced cells as the released guide's own fill.sh prints them over the translation ccd8af0905ec1373… (all of the seat's roots in one cut). By AI agents, Wed Nov 11 2026. No macro, syntax, notation, axiom, sorry.
-/
import Derived.Test.YtnglbchhlpbgkabChecked
import GoSem.Claim
import GoSem.ClaimJoined
import GoSem.ClaimMapViews
import Derived.JoinedTies
import Derived.KernelRfl
namespace Go.Proofs.Ytnglbchhlpbgkab
/- THE CELL 'sum', in the pinned program and in every row, IS THE sha256 OF THE DUMP (.gsa) THAT YtnglbchhlpbgkabProg.lean LOADS. Nothing in Lean hashes anything: it is a label: what it is worth is what the hold of that sum in a sandbox is worth. -/
noncomputable def Try.pinned : Pinned := { name := "ytnglbchhlpbgkab", sum := "ccd8af0905ec13737216ed2b6b6d8af2113ee66db2a2135e1c73bb44e0d1d44b", checked := Try.checked }
namespace Rows
def none {H : Type} : Left H := { results := [], args := [] }

/-- 'laws.FnTerms': WHATEVER THE INPUT: true; the input reads as it did. -/
def fnTermsSpec : ChangeSpec := { name := "fnTerms", fn := fun _ => fun
  | [d] => { results := [.lit (.bool true)], args := [d] }
  | _ => none }
def fnTermsRow : OpenClaim := { program := "ytnglbchhlpbgkab", sum := "ccd8af0905ec13737216ed2b6b6d8af2113ee66db2a2135e1c73bb44e0d1d44b", func := "loop.example/symmetricsums/laws.FnTerms", spec := "fnTerms", unfollowed := true, recurses := true, plainKeys := false, apart := false }
def FnTermsSaid : Prop := fnTermsRow.holds Try.pinned (OpenSpec.ofChange fnTermsSpec)

/-- ITS FALSE NEIGHBOUR: 'it returns false'. Refute it at one input. -/
def fnTermsWrong : ChangeSpec := { name := "fnTerms", fn := fun _ => fun
  | [d] => { results := [.lit (.bool false)], args := [d] }
  | _ => none }
def FnTermsWrongFalsely : Prop := fnTermsRow.holds Try.pinned (OpenSpec.ofChange fnTermsWrong)

/-- 'laws.FnMuirhead': WHATEVER THE INPUT: true; the input reads as it did. -/
def fnMuirheadSpec : ChangeSpec := { name := "fnMuirhead", fn := fun _ => fun
  | [d] => { results := [.lit (.bool true)], args := [d] }
  | _ => none }
def fnMuirheadRow : OpenClaim := { program := "ytnglbchhlpbgkab", sum := "ccd8af0905ec13737216ed2b6b6d8af2113ee66db2a2135e1c73bb44e0d1d44b", func := "loop.example/symmetricsums/laws.FnMuirhead", spec := "fnMuirhead", unfollowed := true, recurses := true, plainKeys := false, apart := false }
def FnMuirheadSaid : Prop := fnMuirheadRow.holds Try.pinned (OpenSpec.ofChange fnMuirheadSpec)

/-- ITS FALSE NEIGHBOUR: 'it returns false'. Refute it at one input. -/
def fnMuirheadWrong : ChangeSpec := { name := "fnMuirhead", fn := fun _ => fun
  | [d] => { results := [.lit (.bool false)], args := [d] }
  | _ => none }
def FnMuirheadWrongFalsely : Prop := fnMuirheadRow.holds Try.pinned (OpenSpec.ofChange fnMuirheadWrong)

/-- 'laws.FnNewton': WHATEVER THE INPUT: true; the input reads as it did. -/
def fnNewtonSpec : ChangeSpec := { name := "fnNewton", fn := fun _ => fun
  | [d] => { results := [.lit (.bool true)], args := [d] }
  | _ => none }
def fnNewtonRow : OpenClaim := { program := "ytnglbchhlpbgkab", sum := "ccd8af0905ec13737216ed2b6b6d8af2113ee66db2a2135e1c73bb44e0d1d44b", func := "loop.example/symmetricsums/laws.FnNewton", spec := "fnNewton", unfollowed := true, recurses := true, plainKeys := false, apart := false }
def FnNewtonSaid : Prop := fnNewtonRow.holds Try.pinned (OpenSpec.ofChange fnNewtonSpec)

/-- ITS FALSE NEIGHBOUR: 'it returns false'. Refute it at one input. -/
def fnNewtonWrong : ChangeSpec := { name := "fnNewton", fn := fun _ => fun
  | [d] => { results := [.lit (.bool false)], args := [d] }
  | _ => none }
def FnNewtonWrongFalsely : Prop := fnNewtonRow.holds Try.pinned (OpenSpec.ofChange fnNewtonWrong)

/-- 'laws.FnSquare': WHATEVER THE INPUT: true; the input reads as it did. -/
def fnSquareSpec : ChangeSpec := { name := "fnSquare", fn := fun _ => fun
  | [d] => { results := [.lit (.bool true)], args := [d] }
  | _ => none }
def fnSquareRow : OpenClaim := { program := "ytnglbchhlpbgkab", sum := "ccd8af0905ec13737216ed2b6b6d8af2113ee66db2a2135e1c73bb44e0d1d44b", func := "loop.example/symmetricsums/laws.FnSquare", spec := "fnSquare", plainKeys := false, apart := false }
def FnSquareSaid : Prop := fnSquareRow.holds Try.pinned (OpenSpec.ofChange fnSquareSpec)

/-- ITS FALSE NEIGHBOUR: 'it returns false'. Refute it at one input. -/
def fnSquareWrong : ChangeSpec := { name := "fnSquare", fn := fun _ => fun
  | [d] => { results := [.lit (.bool false)], args := [d] }
  | _ => none }
def FnSquareWrongFalsely : Prop := fnSquareRow.holds Try.pinned (OpenSpec.ofChange fnSquareWrong)

/-- 'laws.FnLog': WHATEVER THE INPUT: true; the input reads as it did. -/
def fnLogSpec : ChangeSpec := { name := "fnLog", fn := fun _ => fun
  | [d] => { results := [.lit (.bool true)], args := [d] }
  | _ => none }
def fnLogRow : OpenClaim := { program := "ytnglbchhlpbgkab", sum := "ccd8af0905ec13737216ed2b6b6d8af2113ee66db2a2135e1c73bb44e0d1d44b", func := "loop.example/symmetricsums/laws.FnLog", spec := "fnLog", unfollowed := true, recurses := true, plainKeys := false, apart := false }
def FnLogSaid : Prop := fnLogRow.holds Try.pinned (OpenSpec.ofChange fnLogSpec)

/-- ITS FALSE NEIGHBOUR: 'it returns false'. Refute it at one input. -/
def fnLogWrong : ChangeSpec := { name := "fnLog", fn := fun _ => fun
  | [d] => { results := [.lit (.bool false)], args := [d] }
  | _ => none }
def FnLogWrongFalsely : Prop := fnLogRow.holds Try.pinned (OpenSpec.ofChange fnLogWrong)

/-- 'laws.FnSchur': WHATEVER THE INPUT: true; the input reads as it did. -/
def fnSchurSpec : ChangeSpec := { name := "fnSchur", fn := fun _ => fun
  | [d] => { results := [.lit (.bool true)], args := [d] }
  | _ => none }
def fnSchurRow : OpenClaim := { program := "ytnglbchhlpbgkab", sum := "ccd8af0905ec13737216ed2b6b6d8af2113ee66db2a2135e1c73bb44e0d1d44b", func := "loop.example/symmetricsums/laws.FnSchur", spec := "fnSchur", unfollowed := true, recurses := true, plainKeys := false, apart := false }
def FnSchurSaid : Prop := fnSchurRow.holds Try.pinned (OpenSpec.ofChange fnSchurSpec)

/-- ITS FALSE NEIGHBOUR: 'it returns false'. Refute it at one input. -/
def fnSchurWrong : ChangeSpec := { name := "fnSchur", fn := fun _ => fun
  | [d] => { results := [.lit (.bool false)], args := [d] }
  | _ => none }
def FnSchurWrongFalsely : Prop := fnSchurRow.holds Try.pinned (OpenSpec.ofChange fnSchurWrong)

/-- 'laws.FnPure': WHATEVER THE INPUT: true; the input reads as it did. -/
def fnPureSpec : ChangeSpec := { name := "fnPure", fn := fun _ => fun
  | [d] => { results := [.lit (.bool true)], args := [d] }
  | _ => none }
def fnPureRow : OpenClaim := { program := "ytnglbchhlpbgkab", sum := "ccd8af0905ec13737216ed2b6b6d8af2113ee66db2a2135e1c73bb44e0d1d44b", func := "loop.example/symmetricsums/laws.FnPure", spec := "fnPure", unfollowed := true, recurses := true, plainKeys := false, apart := false }
def FnPureSaid : Prop := fnPureRow.holds Try.pinned (OpenSpec.ofChange fnPureSpec)

/-- ITS FALSE NEIGHBOUR: 'it returns false'. Refute it at one input. -/
def fnPureWrong : ChangeSpec := { name := "fnPure", fn := fun _ => fun
  | [d] => { results := [.lit (.bool false)], args := [d] }
  | _ => none }
def FnPureWrongFalsely : Prop := fnPureRow.holds Try.pinned (OpenSpec.ofChange fnPureWrong)

/-- 'laws.FnStep': WHATEVER THE INPUT: true; the input reads as it did. -/
def fnStepSpec : ChangeSpec := { name := "fnStep", fn := fun _ => fun
  | [d] => { results := [.lit (.bool true)], args := [d] }
  | _ => none }
def fnStepRow : OpenClaim := { program := "ytnglbchhlpbgkab", sum := "ccd8af0905ec13737216ed2b6b6d8af2113ee66db2a2135e1c73bb44e0d1d44b", func := "loop.example/symmetricsums/laws.FnStep", spec := "fnStep", unfollowed := true, recurses := true, plainKeys := false, apart := false }
def FnStepSaid : Prop := fnStepRow.holds Try.pinned (OpenSpec.ofChange fnStepSpec)

/-- ITS FALSE NEIGHBOUR: 'it returns false'. Refute it at one input. -/
def fnStepWrong : ChangeSpec := { name := "fnStep", fn := fun _ => fun
  | [d] => { results := [.lit (.bool false)], args := [d] }
  | _ => none }
def FnStepWrongFalsely : Prop := fnStepRow.holds Try.pinned (OpenSpec.ofChange fnStepWrong)

/-- 'laws.FnJoin': WHATEVER THE INPUT: true; the input reads as it did. -/
def fnJoinSpec : ChangeSpec := { name := "fnJoin", fn := fun _ => fun
  | [d] => { results := [.lit (.bool true)], args := [d] }
  | _ => none }
def fnJoinRow : OpenClaim := { program := "ytnglbchhlpbgkab", sum := "ccd8af0905ec13737216ed2b6b6d8af2113ee66db2a2135e1c73bb44e0d1d44b", func := "loop.example/symmetricsums/laws.FnJoin", spec := "fnJoin", unfollowed := true, recurses := true, plainKeys := false, apart := false }
def FnJoinSaid : Prop := fnJoinRow.holds Try.pinned (OpenSpec.ofChange fnJoinSpec)

/-- ITS FALSE NEIGHBOUR: 'it returns false'. Refute it at one input. -/
def fnJoinWrong : ChangeSpec := { name := "fnJoin", fn := fun _ => fun
  | [d] => { results := [.lit (.bool false)], args := [d] }
  | _ => none }
def FnJoinWrongFalsely : Prop := fnJoinRow.holds Try.pinned (OpenSpec.ofChange fnJoinWrong)

/-- 'laws.FnSign': WHATEVER THE INPUT: true; the input reads as it did. -/
def fnSignSpec : ChangeSpec := { name := "fnSign", fn := fun _ => fun
  | [d] => { results := [.lit (.bool true)], args := [d] }
  | _ => none }
def fnSignRow : OpenClaim := { program := "ytnglbchhlpbgkab", sum := "ccd8af0905ec13737216ed2b6b6d8af2113ee66db2a2135e1c73bb44e0d1d44b", func := "loop.example/symmetricsums/laws.FnSign", spec := "fnSign", unfollowed := true, recurses := true, plainKeys := false, apart := false }
def FnSignSaid : Prop := fnSignRow.holds Try.pinned (OpenSpec.ofChange fnSignSpec)

/-- ITS FALSE NEIGHBOUR: 'it returns false'. Refute it at one input. -/
def fnSignWrong : ChangeSpec := { name := "fnSign", fn := fun _ => fun
  | [d] => { results := [.lit (.bool false)], args := [d] }
  | _ => none }
def FnSignWrongFalsely : Prop := fnSignRow.holds Try.pinned (OpenSpec.ofChange fnSignWrong)

/- THE SECOND FORM. 'bulk': how many values and letters a reading holds, each counted each time it is reached (what is shared counts as often as it is met; a slice's spare places count too). A statement '..UptoSaid' is the law's where the arguments, and the package variables that the reading takes, are together of bulk at most 1048576: NARROWER than '..Said'. Prove '..Said' where nothing that the law and all that it calls make is longer than what came in: it says more and counts as full. Else prove '..UptoSaid'. A law counts once. -/
mutual
def uptoBulk {H : Type} : DataW H → Nat
  | .lit (.string bytes) => bytes.length + 1
  | .lit _ => 1
  | .nil => 1
  | .ptr d => uptoBulk d + 1
  | .slice elems spare => uptoBulkAll elems + uptoBulkAll spare + 1
  | .agg parts => uptoBulkAll parts + 1
  | .iface _ d => uptoBulk d + 1
  | .map entries => uptoBulkEntries entries + 1
  | .held _ => 1
def uptoBulkAll {H : Type} : List (DataW H) → Nat
  | [] => 0
  | d :: r => uptoBulk d + uptoBulkAll r
def uptoBulkEntries {H : Type} : List (Lit × DataW H) → Nat
  | [] => 0
  | x :: r => uptoBulkEntry x + uptoBulkEntries r
def uptoBulkEntry {H : Type} : Lit × DataW H → Nat
  | (.string bytes, d) => bytes.length + uptoBulk d + 1
  | (_, d) => uptoBulk d + 1
 end
def uptoSmall : (H : Type) → List (DataW H) → Bool := fun _ ds => decide (uptoBulkAll ds ≤ 1048576)
def OpenSpec.upto (s : _root_.Go.ChangeSpec) : _root_.Go.OpenSpec := { _root_.Go.OpenSpec.ofChange s with cond := some uptoSmall }

/-- 'laws.FnTerms', WHERE WHAT IT READS IS OF BULK AT MOST 1048576: true; the input reads as it did. -/
def fnTermsUptoRow : OpenClaim := { program := "ytnglbchhlpbgkab", sum := "ccd8af0905ec13737216ed2b6b6d8af2113ee66db2a2135e1c73bb44e0d1d44b", func := "loop.example/symmetricsums/laws.FnTerms", spec := "fnTerms", unfollowed := true, recurses := true, plainKeys := false, apart := false, narrowed := true }
def FnTermsUptoSaid : Prop := fnTermsUptoRow.holds Try.pinned (OpenSpec.upto fnTermsSpec)

/-- 'laws.FnMuirhead', WHERE WHAT IT READS IS OF BULK AT MOST 1048576: true; the input reads as it did. -/
def fnMuirheadUptoRow : OpenClaim := { program := "ytnglbchhlpbgkab", sum := "ccd8af0905ec13737216ed2b6b6d8af2113ee66db2a2135e1c73bb44e0d1d44b", func := "loop.example/symmetricsums/laws.FnMuirhead", spec := "fnMuirhead", unfollowed := true, recurses := true, plainKeys := false, apart := false, narrowed := true }
def FnMuirheadUptoSaid : Prop := fnMuirheadUptoRow.holds Try.pinned (OpenSpec.upto fnMuirheadSpec)

/-- 'laws.FnNewton', WHERE WHAT IT READS IS OF BULK AT MOST 1048576: true; the input reads as it did. -/
def fnNewtonUptoRow : OpenClaim := { program := "ytnglbchhlpbgkab", sum := "ccd8af0905ec13737216ed2b6b6d8af2113ee66db2a2135e1c73bb44e0d1d44b", func := "loop.example/symmetricsums/laws.FnNewton", spec := "fnNewton", unfollowed := true, recurses := true, plainKeys := false, apart := false, narrowed := true }
def FnNewtonUptoSaid : Prop := fnNewtonUptoRow.holds Try.pinned (OpenSpec.upto fnNewtonSpec)

/-- 'laws.FnSquare', WHERE WHAT IT READS IS OF BULK AT MOST 1048576: true; the input reads as it did. -/
def fnSquareUptoRow : OpenClaim := { program := "ytnglbchhlpbgkab", sum := "ccd8af0905ec13737216ed2b6b6d8af2113ee66db2a2135e1c73bb44e0d1d44b", func := "loop.example/symmetricsums/laws.FnSquare", spec := "fnSquare", plainKeys := false, apart := false, narrowed := true }
def FnSquareUptoSaid : Prop := fnSquareUptoRow.holds Try.pinned (OpenSpec.upto fnSquareSpec)

/-- 'laws.FnLog', WHERE WHAT IT READS IS OF BULK AT MOST 1048576: true; the input reads as it did. -/
def fnLogUptoRow : OpenClaim := { program := "ytnglbchhlpbgkab", sum := "ccd8af0905ec13737216ed2b6b6d8af2113ee66db2a2135e1c73bb44e0d1d44b", func := "loop.example/symmetricsums/laws.FnLog", spec := "fnLog", unfollowed := true, recurses := true, plainKeys := false, apart := false, narrowed := true }
def FnLogUptoSaid : Prop := fnLogUptoRow.holds Try.pinned (OpenSpec.upto fnLogSpec)

/-- 'laws.FnSchur', WHERE WHAT IT READS IS OF BULK AT MOST 1048576: true; the input reads as it did. -/
def fnSchurUptoRow : OpenClaim := { program := "ytnglbchhlpbgkab", sum := "ccd8af0905ec13737216ed2b6b6d8af2113ee66db2a2135e1c73bb44e0d1d44b", func := "loop.example/symmetricsums/laws.FnSchur", spec := "fnSchur", unfollowed := true, recurses := true, plainKeys := false, apart := false, narrowed := true }
def FnSchurUptoSaid : Prop := fnSchurUptoRow.holds Try.pinned (OpenSpec.upto fnSchurSpec)

/-- 'laws.FnPure', WHERE WHAT IT READS IS OF BULK AT MOST 1048576: true; the input reads as it did. -/
def fnPureUptoRow : OpenClaim := { program := "ytnglbchhlpbgkab", sum := "ccd8af0905ec13737216ed2b6b6d8af2113ee66db2a2135e1c73bb44e0d1d44b", func := "loop.example/symmetricsums/laws.FnPure", spec := "fnPure", unfollowed := true, recurses := true, plainKeys := false, apart := false, narrowed := true }
def FnPureUptoSaid : Prop := fnPureUptoRow.holds Try.pinned (OpenSpec.upto fnPureSpec)

/-- 'laws.FnStep', WHERE WHAT IT READS IS OF BULK AT MOST 1048576: true; the input reads as it did. -/
def fnStepUptoRow : OpenClaim := { program := "ytnglbchhlpbgkab", sum := "ccd8af0905ec13737216ed2b6b6d8af2113ee66db2a2135e1c73bb44e0d1d44b", func := "loop.example/symmetricsums/laws.FnStep", spec := "fnStep", unfollowed := true, recurses := true, plainKeys := false, apart := false, narrowed := true }
def FnStepUptoSaid : Prop := fnStepUptoRow.holds Try.pinned (OpenSpec.upto fnStepSpec)

/-- 'laws.FnJoin', WHERE WHAT IT READS IS OF BULK AT MOST 1048576: true; the input reads as it did. -/
def fnJoinUptoRow : OpenClaim := { program := "ytnglbchhlpbgkab", sum := "ccd8af0905ec13737216ed2b6b6d8af2113ee66db2a2135e1c73bb44e0d1d44b", func := "loop.example/symmetricsums/laws.FnJoin", spec := "fnJoin", unfollowed := true, recurses := true, plainKeys := false, apart := false, narrowed := true }
def FnJoinUptoSaid : Prop := fnJoinUptoRow.holds Try.pinned (OpenSpec.upto fnJoinSpec)

/-- 'laws.FnSign', WHERE WHAT IT READS IS OF BULK AT MOST 1048576: true; the input reads as it did. -/
def fnSignUptoRow : OpenClaim := { program := "ytnglbchhlpbgkab", sum := "ccd8af0905ec13737216ed2b6b6d8af2113ee66db2a2135e1c73bb44e0d1d44b", func := "loop.example/symmetricsums/laws.FnSign", spec := "fnSign", unfollowed := true, recurses := true, plainKeys := false, apart := false, narrowed := true }
def FnSignUptoSaid : Prop := fnSignUptoRow.holds Try.pinned (OpenSpec.upto fnSignSpec)

end Rows
end Go.Proofs.Ytnglbchhlpbgkab
