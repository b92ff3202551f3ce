/- The program tidies terms of two terms, and TermTidy. -/
import Derived.Test.YtbpemgpbmabnbaaDoorTmV
import Derived.Test.YtbpemgpbmabnbaaDoorTmU
import Derived.Test.YtbpemgpbmabnbaaDoorTmH
namespace Go.Proofs.YtbpemgpbmabnbaaDoor.tm
open Go.ChangeShapes Go.WideShapes Go.ChangeAt Go.RowKit Go.Tm
set_option linter.unusedVariables false
set_option linter.unusedSimpArgs false
set_option maxRecDepth 10000
set_option maxHeartbeats 2000000

theorem tidy_plus (a b : Tm) (iha : TidyOk a) (ihb : TidyOk b) : TidyOk (.two true a b) := by
  intro w x h
  obtain ⟨u1, u2, hx, hu1, hu2⟩ := h
  subst hx
  show Calls Tryd.prog 19 #[.iface 62 _] w (NegQ w (.two true (tidy a) (tidy b)))
  have f0 := ta_neg_plus
  have f1 := ta_plus_plus
  have h0 := two_start w (.iface (ty a) u1) (.iface (ty b) u2) 62
  go_enter Tryd.func19, Tryd.ntmps19
  go_wp2_with fail
  go_region_held3 (fun w' => w'.cell? ⟨w.heap.size, 0, none⟩ = some (.iface (ty a) u1) ∧ w'.cell? ⟨w.heap.size, 1, none⟩ = some (.iface (ty b) u2) ∧ Below w.heap.size w w' ∧ w.heap.size < w'.heap.size)
    (first | exact h0 | assumption | exact two_step (by assumption) (by assumption))
    (first | (go_at_call_of 19 (Value.iface (ty a) u1); refine (iha _ _ (hu1.below ?_)).mono ?_; (refine two_below (by assumption)); rintro e w' ⟨xa, rfl, hxa, hba⟩) | (go_at_call_of 19 (Value.iface (ty b) u2); refine (ihb _ _ (hu2.below ?_)).mono ?_; (refine two_below (by assumption)); rintro e w' ⟨xb, rfl, hxb, hbb⟩))
  all_goals
    go_wp2
    go_ret
    exact ⟨_, rfl, ⟨_, _, rfl, (by first | exact hxa | exact hxa.below hbb), (by first | exact hxb | exact hxb.below hba)⟩, two_below (by assumption)⟩
theorem tidy_times (a b : Tm) (iha : TidyOk a) (ihb : TidyOk b) : TidyOk (.two false a b) := by
  intro w x h
  obtain ⟨u1, u2, hx, hu1, hu2⟩ := h
  subst hx
  show Calls Tryd.prog 19 #[.iface 63 _] w (NegQ w (tidyTwo (tidy a) (tidy b)))
  have f0 := ta_neg_times
  have f1 := ta_plus_times
  have f2 := ta_times_times
  have h0 := two_start w (.iface (ty a) u1) (.iface (ty b) u2) 63
  go_enter Tryd.func19, Tryd.ntmps19
  go_wp2_with fail
  go_region_held3 (fun w' => w'.cell? ⟨w.heap.size, 0, none⟩ = some (.iface (ty a) u1) ∧ w'.cell? ⟨w.heap.size, 1, none⟩ = some (.iface (ty b) u2) ∧ Below w.heap.size w w' ∧ w.heap.size < w'.heap.size)
    (first | exact h0 | assumption | exact two_step (by assumption) (by assumption))
    (first | (go_at_call_of 19 (Value.iface (ty a) u1); refine (iha _ _ (hu1.below ?_)).mono ?_; (refine two_below (by assumption)); rintro e w' ⟨xa, rfl, hxa, hba⟩) | (go_at_call_of 19 (Value.iface (ty b) u2); refine (ihb _ _ (hu2.below ?_)).mono ?_; (refine two_below (by assumption)); rintro e w' ⟨xb, rfl, hxb, hbb⟩) | (go_at_call 28; refine (tidy_times_any _ (tidy a) (tidy b) xa xb ?_ ?_).mono ?_; (first | exact hxa | exact hxa.below hbb); (first | exact hxb | exact hxb.below hba); rintro e w' ⟨xc, rfl, hxc, hbc⟩))
  all_goals
    go_wp2
    go_ret
    exact ⟨_, rfl, hxc, two_below (by assumption)⟩
theorem tidy_ok : ∀ t : Tm, TidyOk t
  | .leaf c a => tidy_leaf c a
  | .neg t => tidy_neg t (tidy_ok t)
  | .two true a b => tidy_plus a b (tidy_ok a) (tidy_ok b)
  | .two false a b => tidy_times a b (tidy_ok a) (tidy_ok b)
end Go.Proofs.YtbpemgpbmabnbaaDoor.tm
