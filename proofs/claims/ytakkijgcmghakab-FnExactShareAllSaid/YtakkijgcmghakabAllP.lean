/- The law FnExactShareAll holds for every argument: the function 'ShareAll' of the program answers as the model does, writes nothing that was there, and hands out memory of its own. No condition. -/
import Derived.Test.YtakkijgcmghakabRows
import Derived.Test.YtakkijgcmghakabEngS
import Derived.WalkKit
import Derived.ProofKit
import Derived.OpenShut
import Derived.ShutString
namespace Go.Proofs.Ytakkijgcmghakab.fnExactShareAll
open Go.Eng Go.ChangeShapes Go.WideShapes Go.ChangeAt Go.RowKit
open Go.ChangeMaps (open_string shut_string)
set_option linter.unusedVariables false      -- a walk need not use every 'w<i>' (that an integer argument fits its kind)

theorem own : ownKnob Try.prog.godebug = none := by kernel_rfl

/-! ### the walk: seven degrees, the numbers below them, the numbers above -/
set_option maxRecDepth 100000 in
theorem e0 : isTrue (callN Try.prog 100 30 (mk 8 4) [wI 0] .nil 0) = true := by kernel_rfl
set_option maxRecDepth 100000 in
theorem e1 : isTrue (callN Try.prog 100 30 (mk 8 4) [wI 1] .nil 0) = true := by kernel_rfl
set_option maxRecDepth 100000 in
theorem e2 : isTrue (callN Try.prog 100 30 (mk 8 4) [wI 2] .nil 0) = true := by kernel_rfl
set_option maxRecDepth 100000 in
theorem e3 : isTrue (callN Try.prog 100 30 (mk 8 4) [wI 3] .nil 0) = true := by kernel_rfl
set_option maxRecDepth 100000 in
theorem e4 : isTrue (callN Try.prog 100 30 (mk 8 4) [wI 4] .nil 0) = true := by kernel_rfl
set_option maxRecDepth 100000 in
theorem e5 : isTrue (callN Try.prog 100 30 (mk 8 4) [wI 5] .nil 0) = true := by kernel_rfl
set_option maxRecDepth 100000 in
theorem e6 : isTrue (callN Try.prog 100 30 (mk 8 4) [wI 6] .nil 0) = true := by kernel_rfl
set_option maxRecDepth 100000 in
theorem eAbove : isTrue (callN Try.prog 100 30 (mk 8 4) [wU 9223372036854775815 0] .nil 0) = true := by kernel_rfl
set_option maxRecDepth 100000 in
theorem eUnder : isTrue (callN Try.prog 100 30 (mk 8 4) [wU 9223372036854775807 1] .nil 0) = true := by kernel_rfl

theorem walk (a0 : Int) (w0 : (Lit.int .i64 a0).wf = true) (w : World) :
    Calls Try.prog 4 #[.int .i64 a0] w fun e w' => e = .returned (.bool true) ∧ Below w.heap.size w w' := by
  by_cases h1 : a0 < 0
  · exact run_true (Ctx.start w) (.cons _ _ _ _ (.le 9223372036854775807 a0 (by omega)) .nil) eUnder
  by_cases h2 : 6 < a0
  · exact run_true (Ctx.start w) (.cons _ _ _ _ (.ge 9223372036854775815 a0 (by omega)) .nil) eAbove
  have h : a0 = 0 ∨ a0 = 1 ∨ a0 = 2 ∨ a0 = 3 ∨ a0 = 4 ∨ a0 = 5 ∨ a0 = 6 := by omega
  rcases h with rfl | rfl | rfl | rfl | rfl | rfl | rfl
  · exact run_true (Ctx.start w) (.cons _ _ _ _ (.small 0 (by omega)) .nil) e0
  · exact run_true (Ctx.start w) (.cons _ _ _ _ (.small 1 (by omega)) .nil) e1
  · exact run_true (Ctx.start w) (.cons _ _ _ _ (.small 2 (by omega)) .nil) e2
  · exact run_true (Ctx.start w) (.cons _ _ _ _ (.small 3 (by omega)) .nil) e3
  · exact run_true (Ctx.start w) (.cons _ _ _ _ (.small 4 (by omega)) .nil) e4
  · exact run_true (Ctx.start w) (.cons _ _ _ _ (.small 5 (by omega)) .nil) e5
  · exact run_true (Ctx.start w) (.cons _ _ _ _ (.small 6 (by omega)) .nil) e6

/-! ### THE ROW's STEP: WRITTEN OUT: LEAVE IT -/
set_option maxRecDepth 100000 in
theorem lifted (os : Os) (started : os.Started) (H : Type) (enc : TypeId × Value → H) :
    ReturnsInHanded {} Try.checked os 4 .any (Rows.fnExactShareAllSpec.pre6 enc Try.prog Try.f4 Rows.fnExactShareAllRow.domain false) (Rows.fnExactShareAllSpec.post enc Try.prog Try.f4 false true false false) := by
  refine returnsInHanded_of_change (C := Try.checked) own started (by kernel_rfl) Try.func4
    (ChangeSpec.witness6 (enc := enc) (C := Try.checked) false ⟨#[], #[.int .i64 0], []⟩ 8 (by kernel_rfl) (by kernel_rfl) (by kernel_rfl) (by kernel_rfl)) ?_
  intro W base args ds gs before hval0 hW hcnd _
  have hval : ∀ (j : Nat) t v, Try.f4.params[j]? = some t → args[j]? = some v → Value.okWide Try.prog W .any base t v := hval0
  have hW' := hW
  obtain ⟨p, q, hA0, hV, rfl, hfz, hnd⟩ := hW
  have hA : DataW.TrodAll enc Try.prog W 0 (fun _ => true) true Try.f4.params.toList args.toList ds p := hA0
  rw [Try.params4] at hA hval
  obtain ⟨v0, vs0, d0, ds0, p0, q0, hargs, rfl, rfl, h0, r0⟩ := trodAll_cons hA
  obtain ⟨rfl, rfl, rfl⟩ := trodAll_nil r0
  obtain rfl : args = #[v0] := by cases args; simp_all
  obtain ⟨rfl, rfl⟩ := trodVars_none hV
  obtain ⟨a0, rfl, rfl, rfl, w0⟩ := open_int Try.underlying3 (hval 0 3 v0 rfl rfl) h0
  clear hA0 hval0
  simp only [List.append_nil] at hW'
  refine (walk a0 w0 W).mono fun e W' ⟨he, bel⟩ => ?_
  subst he
  exact ⟨_, rfl, _, _, _, [], _, [], hW', trodAll_mk1 (shut_bool Try.underlying4 _), (trodAll_cons_mk (shut_int Try.underlying3 w0) trodAll_mk0), rfl, bel.frame _, fun h => by cases h⟩

theorem over : Rows.fnExactShareAllRow.holds Try.pinned (OpenSpec.ofChange Rows.fnExactShareAllSpec) :=
  OpenClaim.holds_of_wide 4 Try.f4 rfl rfl rfl rfl rfl rfl rfl ⟨rfl, rfl, rfl, rfl, rfl⟩ rfl rfl rfl rfl rfl (by kernel_rfl) Try.func4 (by kernel_rfl)
    (of_decide_eq_true (by kernel_rfl)) (by unfold Func.isWrapper; first | (rw [if_pos (by decide +kernel)]; kernel_rfl) | (rw [if_neg (by decide +kernel)]; exact ⟨rfl, rfl⟩))
    (fun os started H enc _ => lifted os started H enc)

/-- ████ THE STATEMENT ████ -/
theorem proved : Rows.FnExactShareAllSaid :=
  over
#print axioms proved
end Go.Proofs.Ytakkijgcmghakab.fnExactShareAll
