/-
  No cell of these rows narrows 'for every input' (looked for: loops, veiled, ifaces, maps, wideKeys, modest, calm, conditions, laid).
  DERIVED. THE GIVEN ROWS OF THIS SEAT. 12 by the template 'for every input the law returns true; each argument reads behind the call as it read before'; 0 by the template 'total and deterministic' (their statements: YthggbkoccgigaaaTotals.lean).
  GIVEN WITH THE SEED: the statements are not yours to turn. If you find one false, say at which input.
  Laid BY PROGRAM, IN A SANDBOX (cutbox-rows.mjs): the forced cells as the released guide's own fill.sh prints them over the translation 38369544a271fb8d… (all of the seat's roots in one cut). By AI agents, Wed Nov 11 2026. No macro, syntax, notation, axiom, sorry.
-/
import Derived.Test.YthggbkoccgigaaaChecked
import GoSem.Claim
import GoSem.ClaimJoined
import GoSem.ClaimMapViews
import Derived.JoinedTies
import Derived.KernelRfl
namespace Go.Proofs.Ythggbkoccgigaaa
/- THE CELL 'sum', in the pinned program and in every row, IS THE sha256 OF THE DUMP (.gsa) THAT YthggbkoccgigaaaProg.lean LOADS. Nothing in Lean hashes anything: it is a label: what it is worth is what the hold of that sum in a sandbox is worth. -/
noncomputable def Try.pinned : Pinned := { name := "ythggbkoccgigaaa", sum := "38369544a271fb8d7450136962bd47ffc469a1f1df1e99b86b9b6fc5821e0d26", checked := Try.checked }
namespace Rows
def none {H : Type} : Left H := { results := [], args := [] }

/-- 'laws.FnAtShare': WHATEVER THE INPUT: true; the input reads as it did. -/
def fnAtShareSpec : ChangeSpec := { name := "fnAtShare", fn := fun _ => fun
  | [d] => { results := [.lit (.bool true)], args := [d] }
  | _ => none }
def fnAtShareRow : OpenClaim := { program := "ythggbkoccgigaaa", sum := "38369544a271fb8d7450136962bd47ffc469a1f1df1e99b86b9b6fc5821e0d26", func := "loop.example/symmetricsums/laws.FnAtShare", spec := "fnAtShare", unfollowed := true, recurses := true, plainKeys := false, apart := false }
def FnAtShareSaid : Prop := fnAtShareRow.holds Try.pinned (OpenSpec.ofChange fnAtShareSpec)

/-- ITS FALSE NEIGHBOUR: 'it returns false'. Refute it at one input. -/
def fnAtShareWrong : ChangeSpec := { name := "fnAtShare", fn := fun _ => fun
  | [d] => { results := [.lit (.bool false)], args := [d] }
  | _ => none }
def FnAtShareWrongFalsely : Prop := fnAtShareRow.holds Try.pinned (OpenSpec.ofChange fnAtShareWrong)

/-- 'laws.FnDiagram': WHATEVER THE INPUT: true; the input reads as it did. -/
def fnDiagramSpec : ChangeSpec := { name := "fnDiagram", fn := fun _ => fun
  | [d] => { results := [.lit (.bool true)], args := [d] }
  | _ => none }
def fnDiagramRow : OpenClaim := { program := "ythggbkoccgigaaa", sum := "38369544a271fb8d7450136962bd47ffc469a1f1df1e99b86b9b6fc5821e0d26", func := "loop.example/symmetricsums/laws.FnDiagram", spec := "fnDiagram", unfollowed := true, recurses := true, plainKeys := false, apart := false }
def FnDiagramSaid : Prop := fnDiagramRow.holds Try.pinned (OpenSpec.ofChange fnDiagramSpec)

/-- ITS FALSE NEIGHBOUR: 'it returns false'. Refute it at one input. -/
def fnDiagramWrong : ChangeSpec := { name := "fnDiagram", fn := fun _ => fun
  | [d] => { results := [.lit (.bool false)], args := [d] }
  | _ => none }
def FnDiagramWrongFalsely : Prop := fnDiagramRow.holds Try.pinned (OpenSpec.ofChange fnDiagramWrong)

/-- 'laws.FnTableFull': WHATEVER THE INPUT: true; the input reads as it did. -/
def fnTableFullSpec : ChangeSpec := { name := "fnTableFull", fn := fun _ => fun
  | [d] => { results := [.lit (.bool true)], args := [d] }
  | _ => none }
def fnTableFullRow : OpenClaim := { program := "ythggbkoccgigaaa", sum := "38369544a271fb8d7450136962bd47ffc469a1f1df1e99b86b9b6fc5821e0d26", func := "loop.example/symmetricsums/laws.FnTableFull", spec := "fnTableFull", unfollowed := true, recurses := true, plainKeys := false, apart := false }
def FnTableFullSaid : Prop := fnTableFullRow.holds Try.pinned (OpenSpec.ofChange fnTableFullSpec)

/-- ITS FALSE NEIGHBOUR: 'it returns false'. Refute it at one input. -/
def fnTableFullWrong : ChangeSpec := { name := "fnTableFull", fn := fun _ => fun
  | [d] => { results := [.lit (.bool false)], args := [d] }
  | _ => none }
def FnTableFullWrongFalsely : Prop := fnTableFullRow.holds Try.pinned (OpenSpec.ofChange fnTableFullWrong)

/-- 'laws.FnTableChosenPairs': WHATEVER THE INPUT: true; the input reads as it did. -/
def fnTableChosenPairsSpec : ChangeSpec := { name := "fnTableChosenPairs", fn := fun _ => fun
  | [d] => { results := [.lit (.bool true)], args := [d] }
  | _ => none }
def fnTableChosenPairsRow : OpenClaim := { program := "ythggbkoccgigaaa", sum := "38369544a271fb8d7450136962bd47ffc469a1f1df1e99b86b9b6fc5821e0d26", func := "loop.example/symmetricsums/laws.FnTableChosenPairs", spec := "fnTableChosenPairs", unfollowed := true, recurses := true, plainKeys := false, apart := false }
def FnTableChosenPairsSaid : Prop := fnTableChosenPairsRow.holds Try.pinned (OpenSpec.ofChange fnTableChosenPairsSpec)

/-- ITS FALSE NEIGHBOUR: 'it returns false'. Refute it at one input. -/
def fnTableChosenPairsWrong : ChangeSpec := { name := "fnTableChosenPairs", fn := fun _ => fun
  | [d] => { results := [.lit (.bool false)], args := [d] }
  | _ => none }
def FnTableChosenPairsWrongFalsely : Prop := fnTableChosenPairsRow.holds Try.pinned (OpenSpec.ofChange fnTableChosenPairsWrong)

/-- 'laws.FnSumAdd': WHATEVER THE INPUT: true; the input reads as it did. -/
def fnSumAddSpec : ChangeSpec := { name := "fnSumAdd", fn := fun _ => fun
  | [d] => { results := [.lit (.bool true)], args := [d] }
  | _ => none }
def fnSumAddRow : OpenClaim := { program := "ythggbkoccgigaaa", sum := "38369544a271fb8d7450136962bd47ffc469a1f1df1e99b86b9b6fc5821e0d26", func := "loop.example/symmetricsums/laws.FnSumAdd", spec := "fnSumAdd", unfollowed := true, recurses := true, plainKeys := false, apart := false }
def FnSumAddSaid : Prop := fnSumAddRow.holds Try.pinned (OpenSpec.ofChange fnSumAddSpec)

/-- ITS FALSE NEIGHBOUR: 'it returns false'. Refute it at one input. -/
def fnSumAddWrong : ChangeSpec := { name := "fnSumAdd", fn := fun _ => fun
  | [d] => { results := [.lit (.bool false)], args := [d] }
  | _ => none }
def FnSumAddWrongFalsely : Prop := fnSumAddRow.holds Try.pinned (OpenSpec.ofChange fnSumAddWrong)

/-- 'laws.FnSumTimes': WHATEVER THE INPUT: true; the input reads as it did. -/
def fnSumTimesSpec : ChangeSpec := { name := "fnSumTimes", fn := fun _ => fun
  | [d] => { results := [.lit (.bool true)], args := [d] }
  | _ => none }
def fnSumTimesRow : OpenClaim := { program := "ythggbkoccgigaaa", sum := "38369544a271fb8d7450136962bd47ffc469a1f1df1e99b86b9b6fc5821e0d26", func := "loop.example/symmetricsums/laws.FnSumTimes", spec := "fnSumTimes", unfollowed := true, recurses := true, plainKeys := false, apart := false }
def FnSumTimesSaid : Prop := fnSumTimesRow.holds Try.pinned (OpenSpec.ofChange fnSumTimesSpec)

/-- ITS FALSE NEIGHBOUR: 'it returns false'. Refute it at one input. -/
def fnSumTimesWrong : ChangeSpec := { name := "fnSumTimes", fn := fun _ => fun
  | [d] => { results := [.lit (.bool false)], args := [d] }
  | _ => none }
def FnSumTimesWrongFalsely : Prop := fnSumTimesRow.holds Try.pinned (OpenSpec.ofChange fnSumTimesWrong)

/-- 'laws.FnSumAt': WHATEVER THE INPUT: true; the input reads as it did. -/
def fnSumAtSpec : ChangeSpec := { name := "fnSumAt", fn := fun _ => fun
  | [d] => { results := [.lit (.bool true)], args := [d] }
  | _ => none }
def fnSumAtRow : OpenClaim := { program := "ythggbkoccgigaaa", sum := "38369544a271fb8d7450136962bd47ffc469a1f1df1e99b86b9b6fc5821e0d26", func := "loop.example/symmetricsums/laws.FnSumAt", spec := "fnSumAt", unfollowed := true, recurses := true, plainKeys := false, apart := false }
def FnSumAtSaid : Prop := fnSumAtRow.holds Try.pinned (OpenSpec.ofChange fnSumAtSpec)

/-- ITS FALSE NEIGHBOUR: 'it returns false'. Refute it at one input. -/
def fnSumAtWrong : ChangeSpec := { name := "fnSumAt", fn := fun _ => fun
  | [d] => { results := [.lit (.bool false)], args := [d] }
  | _ => none }
def FnSumAtWrongFalsely : Prop := fnSumAtRow.holds Try.pinned (OpenSpec.ofChange fnSumAtWrong)

/-- 'laws.FnExactAtDiagram': WHATEVER THE INPUT: true; the input reads as it did. -/
def fnExactAtDiagramSpec : ChangeSpec := { name := "fnExactAtDiagram", fn := fun _ => fun
  | [d1, d2] => { results := [.lit (.bool true)], args := [d1, d2] }
  | _ => none }
def fnExactAtDiagramRow : OpenClaim := { program := "ythggbkoccgigaaa", sum := "38369544a271fb8d7450136962bd47ffc469a1f1df1e99b86b9b6fc5821e0d26", func := "loop.example/symmetricsums/laws.FnExactAtDiagram", spec := "fnExactAtDiagram", unfollowed := true, recurses := true, plainKeys := false, apart := false }
def FnExactAtDiagramSaid : Prop := fnExactAtDiagramRow.holds Try.pinned (OpenSpec.ofChange fnExactAtDiagramSpec)

/-- ITS FALSE NEIGHBOUR: 'it returns false'. Refute it at one input. -/
def fnExactAtDiagramWrong : ChangeSpec := { name := "fnExactAtDiagram", fn := fun _ => fun
  | [d1, d2] => { results := [.lit (.bool false)], args := [d1, d2] }
  | _ => none }
def FnExactAtDiagramWrongFalsely : Prop := fnExactAtDiagramRow.holds Try.pinned (OpenSpec.ofChange fnExactAtDiagramWrong)

/-- 'laws.FnExactTableChosen': WHATEVER THE INPUT: true; the input reads as it did. -/
def fnExactTableChosenSpec : ChangeSpec := { name := "fnExactTableChosen", fn := fun _ => fun
  | [d1, d2] => { results := [.lit (.bool true)], args := [d1, d2] }
  | _ => none }
def fnExactTableChosenRow : OpenClaim := { program := "ythggbkoccgigaaa", sum := "38369544a271fb8d7450136962bd47ffc469a1f1df1e99b86b9b6fc5821e0d26", func := "loop.example/symmetricsums/laws.FnExactTableChosen", spec := "fnExactTableChosen", unfollowed := true, recurses := true, plainKeys := false, apart := false }
def FnExactTableChosenSaid : Prop := fnExactTableChosenRow.holds Try.pinned (OpenSpec.ofChange fnExactTableChosenSpec)

/-- ITS FALSE NEIGHBOUR: 'it returns false'. Refute it at one input. -/
def fnExactTableChosenWrong : ChangeSpec := { name := "fnExactTableChosen", fn := fun _ => fun
  | [d1, d2] => { results := [.lit (.bool false)], args := [d1, d2] }
  | _ => none }
def FnExactTableChosenWrongFalsely : Prop := fnExactTableChosenRow.holds Try.pinned (OpenSpec.ofChange fnExactTableChosenWrong)

/-- 'laws.FnExactSumIn': WHATEVER THE INPUT: true; the input reads as it did. -/
def fnExactSumInSpec : ChangeSpec := { name := "fnExactSumIn", fn := fun _ => fun
  | [d] => { results := [.lit (.bool true)], args := [d] }
  | _ => none }
def fnExactSumInRow : OpenClaim := { program := "ythggbkoccgigaaa", sum := "38369544a271fb8d7450136962bd47ffc469a1f1df1e99b86b9b6fc5821e0d26", func := "loop.example/symmetricsums/laws.FnExactSumIn", spec := "fnExactSumIn", unfollowed := true, recurses := true, plainKeys := false, apart := false }
def FnExactSumInSaid : Prop := fnExactSumInRow.holds Try.pinned (OpenSpec.ofChange fnExactSumInSpec)

/-- ITS FALSE NEIGHBOUR: 'it returns false'. Refute it at one input. -/
def fnExactSumInWrong : ChangeSpec := { name := "fnExactSumIn", fn := fun _ => fun
  | [d] => { results := [.lit (.bool false)], args := [d] }
  | _ => none }
def FnExactSumInWrongFalsely : Prop := fnExactSumInRow.holds Try.pinned (OpenSpec.ofChange fnExactSumInWrong)

/-- 'laws.FnExactSumAdd': WHATEVER THE INPUT: true; the input reads as it did. -/
def fnExactSumAddSpec : ChangeSpec := { name := "fnExactSumAdd", fn := fun _ => fun
  | [d1, d2] => { results := [.lit (.bool true)], args := [d1, d2] }
  | _ => none }
def fnExactSumAddRow : OpenClaim := { program := "ythggbkoccgigaaa", sum := "38369544a271fb8d7450136962bd47ffc469a1f1df1e99b86b9b6fc5821e0d26", func := "loop.example/symmetricsums/laws.FnExactSumAdd", spec := "fnExactSumAdd", unfollowed := true, recurses := true, plainKeys := false, apart := false }
def FnExactSumAddSaid : Prop := fnExactSumAddRow.holds Try.pinned (OpenSpec.ofChange fnExactSumAddSpec)

/-- ITS FALSE NEIGHBOUR: 'it returns false'. Refute it at one input. -/
def fnExactSumAddWrong : ChangeSpec := { name := "fnExactSumAdd", fn := fun _ => fun
  | [d1, d2] => { results := [.lit (.bool false)], args := [d1, d2] }
  | _ => none }
def FnExactSumAddWrongFalsely : Prop := fnExactSumAddRow.holds Try.pinned (OpenSpec.ofChange fnExactSumAddWrong)

/-- 'laws.FnExactSumTimes': WHATEVER THE INPUT: true; the input reads as it did. -/
def fnExactSumTimesSpec : ChangeSpec := { name := "fnExactSumTimes", fn := fun _ => fun
  | [d1, d2] => { results := [.lit (.bool true)], args := [d1, d2] }
  | _ => none }
def fnExactSumTimesRow : OpenClaim := { program := "ythggbkoccgigaaa", sum := "38369544a271fb8d7450136962bd47ffc469a1f1df1e99b86b9b6fc5821e0d26", func := "loop.example/symmetricsums/laws.FnExactSumTimes", spec := "fnExactSumTimes", unfollowed := true, recurses := true, plainKeys := false, apart := false }
def FnExactSumTimesSaid : Prop := fnExactSumTimesRow.holds Try.pinned (OpenSpec.ofChange fnExactSumTimesSpec)

/-- ITS FALSE NEIGHBOUR: 'it returns false'. Refute it at one input. -/
def fnExactSumTimesWrong : ChangeSpec := { name := "fnExactSumTimes", fn := fun _ => fun
  | [d1, d2] => { results := [.lit (.bool false)], args := [d1, d2] }
  | _ => none }
def FnExactSumTimesWrongFalsely : Prop := fnExactSumTimesRow.holds Try.pinned (OpenSpec.ofChange fnExactSumTimesWrong)

/- THE SECOND FORM. 'bulk': how many values and letters a reading holds, each counted each time it is reached (what is shared counts as often as it is met; a slice's spare places count too). A statement '..UptoSaid' is the law's where the arguments, and the package variables that the reading takes, are together of bulk at most 1048576: NARROWER than '..Said'. Prove '..Said' where nothing that the law and all that it calls make is longer than what came in: it says more and counts as full. Else prove '..UptoSaid'. A law counts once. -/
mutual
def uptoBulk {H : Type} : DataW H → Nat
  | .lit (.string bytes) => bytes.length + 1
  | .lit _ => 1
  | .nil => 1
  | .ptr d => uptoBulk d + 1
  | .slice elems spare => uptoBulkAll elems + uptoBulkAll spare + 1
  | .agg parts => uptoBulkAll parts + 1
  | .iface _ d => uptoBulk d + 1
  | .map entries => uptoBulkEntries entries + 1
  | .held _ => 1
def uptoBulkAll {H : Type} : List (DataW H) → Nat
  | [] => 0
  | d :: r => uptoBulk d + uptoBulkAll r
def uptoBulkEntries {H : Type} : List (Lit × DataW H) → Nat
  | [] => 0
  | x :: r => uptoBulkEntry x + uptoBulkEntries r
def uptoBulkEntry {H : Type} : Lit × DataW H → Nat
  | (.string bytes, d) => bytes.length + uptoBulk d + 1
  | (_, d) => uptoBulk d + 1
 end
def uptoSmall : (H : Type) → List (DataW H) → Bool := fun _ ds => decide (uptoBulkAll ds ≤ 1048576)
def OpenSpec.upto (s : _root_.Go.ChangeSpec) : _root_.Go.OpenSpec := { _root_.Go.OpenSpec.ofChange s with cond := some uptoSmall }

/-- 'laws.FnAtShare', WHERE WHAT IT READS IS OF BULK AT MOST 1048576: true; the input reads as it did. -/
def fnAtShareUptoRow : OpenClaim := { program := "ythggbkoccgigaaa", sum := "38369544a271fb8d7450136962bd47ffc469a1f1df1e99b86b9b6fc5821e0d26", func := "loop.example/symmetricsums/laws.FnAtShare", spec := "fnAtShare", unfollowed := true, recurses := true, plainKeys := false, apart := false, narrowed := true }
def FnAtShareUptoSaid : Prop := fnAtShareUptoRow.holds Try.pinned (OpenSpec.upto fnAtShareSpec)

/-- 'laws.FnDiagram', WHERE WHAT IT READS IS OF BULK AT MOST 1048576: true; the input reads as it did. -/
def fnDiagramUptoRow : OpenClaim := { program := "ythggbkoccgigaaa", sum := "38369544a271fb8d7450136962bd47ffc469a1f1df1e99b86b9b6fc5821e0d26", func := "loop.example/symmetricsums/laws.FnDiagram", spec := "fnDiagram", unfollowed := true, recurses := true, plainKeys := false, apart := false, narrowed := true }
def FnDiagramUptoSaid : Prop := fnDiagramUptoRow.holds Try.pinned (OpenSpec.upto fnDiagramSpec)

/-- 'laws.FnTableFull', WHERE WHAT IT READS IS OF BULK AT MOST 1048576: true; the input reads as it did. -/
def fnTableFullUptoRow : OpenClaim := { program := "ythggbkoccgigaaa", sum := "38369544a271fb8d7450136962bd47ffc469a1f1df1e99b86b9b6fc5821e0d26", func := "loop.example/symmetricsums/laws.FnTableFull", spec := "fnTableFull", unfollowed := true, recurses := true, plainKeys := false, apart := false, narrowed := true }
def FnTableFullUptoSaid : Prop := fnTableFullUptoRow.holds Try.pinned (OpenSpec.upto fnTableFullSpec)

/-- 'laws.FnTableChosenPairs', WHERE WHAT IT READS IS OF BULK AT MOST 1048576: true; the input reads as it did. -/
def fnTableChosenPairsUptoRow : OpenClaim := { program := "ythggbkoccgigaaa", sum := "38369544a271fb8d7450136962bd47ffc469a1f1df1e99b86b9b6fc5821e0d26", func := "loop.example/symmetricsums/laws.FnTableChosenPairs", spec := "fnTableChosenPairs", unfollowed := true, recurses := true, plainKeys := false, apart := false, narrowed := true }
def FnTableChosenPairsUptoSaid : Prop := fnTableChosenPairsUptoRow.holds Try.pinned (OpenSpec.upto fnTableChosenPairsSpec)

/-- 'laws.FnSumAdd', WHERE WHAT IT READS IS OF BULK AT MOST 1048576: true; the input reads as it did. -/
def fnSumAddUptoRow : OpenClaim := { program := "ythggbkoccgigaaa", sum := "38369544a271fb8d7450136962bd47ffc469a1f1df1e99b86b9b6fc5821e0d26", func := "loop.example/symmetricsums/laws.FnSumAdd", spec := "fnSumAdd", unfollowed := true, recurses := true, plainKeys := false, apart := false, narrowed := true }
def FnSumAddUptoSaid : Prop := fnSumAddUptoRow.holds Try.pinned (OpenSpec.upto fnSumAddSpec)

/-- 'laws.FnSumTimes', WHERE WHAT IT READS IS OF BULK AT MOST 1048576: true; the input reads as it did. -/
def fnSumTimesUptoRow : OpenClaim := { program := "ythggbkoccgigaaa", sum := "38369544a271fb8d7450136962bd47ffc469a1f1df1e99b86b9b6fc5821e0d26", func := "loop.example/symmetricsums/laws.FnSumTimes", spec := "fnSumTimes", unfollowed := true, recurses := true, plainKeys := false, apart := false, narrowed := true }
def FnSumTimesUptoSaid : Prop := fnSumTimesUptoRow.holds Try.pinned (OpenSpec.upto fnSumTimesSpec)

/-- 'laws.FnSumAt', WHERE WHAT IT READS IS OF BULK AT MOST 1048576: true; the input reads as it did. -/
def fnSumAtUptoRow : OpenClaim := { program := "ythggbkoccgigaaa", sum := "38369544a271fb8d7450136962bd47ffc469a1f1df1e99b86b9b6fc5821e0d26", func := "loop.example/symmetricsums/laws.FnSumAt", spec := "fnSumAt", unfollowed := true, recurses := true, plainKeys := false, apart := false, narrowed := true }
def FnSumAtUptoSaid : Prop := fnSumAtUptoRow.holds Try.pinned (OpenSpec.upto fnSumAtSpec)

/-- 'laws.FnExactAtDiagram', WHERE WHAT IT READS IS OF BULK AT MOST 1048576: true; the input reads as it did. -/
def fnExactAtDiagramUptoRow : OpenClaim := { program := "ythggbkoccgigaaa", sum := "38369544a271fb8d7450136962bd47ffc469a1f1df1e99b86b9b6fc5821e0d26", func := "loop.example/symmetricsums/laws.FnExactAtDiagram", spec := "fnExactAtDiagram", unfollowed := true, recurses := true, plainKeys := false, apart := false, narrowed := true }
def FnExactAtDiagramUptoSaid : Prop := fnExactAtDiagramUptoRow.holds Try.pinned (OpenSpec.upto fnExactAtDiagramSpec)

/-- 'laws.FnExactTableChosen', WHERE WHAT IT READS IS OF BULK AT MOST 1048576: true; the input reads as it did. -/
def fnExactTableChosenUptoRow : OpenClaim := { program := "ythggbkoccgigaaa", sum := "38369544a271fb8d7450136962bd47ffc469a1f1df1e99b86b9b6fc5821e0d26", func := "loop.example/symmetricsums/laws.FnExactTableChosen", spec := "fnExactTableChosen", unfollowed := true, recurses := true, plainKeys := false, apart := false, narrowed := true }
def FnExactTableChosenUptoSaid : Prop := fnExactTableChosenUptoRow.holds Try.pinned (OpenSpec.upto fnExactTableChosenSpec)

/-- 'laws.FnExactSumIn', WHERE WHAT IT READS IS OF BULK AT MOST 1048576: true; the input reads as it did. -/
def fnExactSumInUptoRow : OpenClaim := { program := "ythggbkoccgigaaa", sum := "38369544a271fb8d7450136962bd47ffc469a1f1df1e99b86b9b6fc5821e0d26", func := "loop.example/symmetricsums/laws.FnExactSumIn", spec := "fnExactSumIn", unfollowed := true, recurses := true, plainKeys := false, apart := false, narrowed := true }
def FnExactSumInUptoSaid : Prop := fnExactSumInUptoRow.holds Try.pinned (OpenSpec.upto fnExactSumInSpec)

/-- 'laws.FnExactSumAdd', WHERE WHAT IT READS IS OF BULK AT MOST 1048576: true; the input reads as it did. -/
def fnExactSumAddUptoRow : OpenClaim := { program := "ythggbkoccgigaaa", sum := "38369544a271fb8d7450136962bd47ffc469a1f1df1e99b86b9b6fc5821e0d26", func := "loop.example/symmetricsums/laws.FnExactSumAdd", spec := "fnExactSumAdd", unfollowed := true, recurses := true, plainKeys := false, apart := false, narrowed := true }
def FnExactSumAddUptoSaid : Prop := fnExactSumAddUptoRow.holds Try.pinned (OpenSpec.upto fnExactSumAddSpec)

/-- 'laws.FnExactSumTimes', WHERE WHAT IT READS IS OF BULK AT MOST 1048576: true; the input reads as it did. -/
def fnExactSumTimesUptoRow : OpenClaim := { program := "ythggbkoccgigaaa", sum := "38369544a271fb8d7450136962bd47ffc469a1f1df1e99b86b9b6fc5821e0d26", func := "loop.example/symmetricsums/laws.FnExactSumTimes", spec := "fnExactSumTimes", unfollowed := true, recurses := true, plainKeys := false, apart := false, narrowed := true }
def FnExactSumTimesUptoSaid : Prop := fnExactSumTimesUptoRow.holds Try.pinned (OpenSpec.upto fnExactSumTimesSpec)

end Rows
end Go.Proofs.Ythggbkoccgigaaa
