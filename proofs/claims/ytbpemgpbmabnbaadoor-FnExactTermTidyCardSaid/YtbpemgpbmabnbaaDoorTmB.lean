/- The program's terms in memory, and their degrees. -/
import Derived.Test.YtbpemgpbmabnbaaDoorProg
import Derived.Test.YtbpemgpbmabnbaaDoorTmA
import Derived.WalkKit
import Derived.ProofKit
import Derived.OpenShut
import Derived.Below
import Derived.BigQuiet
import Derived.Deep.QuietTactic
import Derived.Deep.RegionWith
import Derived.IntWalk
import Derived.Deep.OwnRows
import Derived.LoopTactic
import Derived.WalkSpells
import Derived.Lib.Hide
import Derived.Shelf.Abstract
import Derived.Deep.RegionHeld3
namespace Go.Proofs.YtbpemgpbmabnbaaDoor.tm
open Go.ChangeShapes Go.WideShapes Go.ChangeAt Go.RowKit Go.Tm
set_option linter.unusedVariables false
set_option linter.unusedSimpArgs false

/-- a slice that reads as a list of numbers -/
def RowAt (w : World) (sl : Value) (a : List Nat) : Prop := ∃ b o cap, sl = .slice (some ⟨b, o, none⟩) a.length cap ∧ b < w.heap.size ∧ ∀ i, i < a.length → w.cell? ⟨b, o + i, none⟩ = some (.int .i64 ((gn a i : Nat) : Int))
theorem RowAt.below {w w' : World} {sl : Value} {a : List Nat} (h : RowAt w sl a) (hb : Below w.heap.size w w') : RowAt w' sl a := by
  obtain ⟨b, o, cap, rfl, h1, h2⟩ := h
  refine ⟨b, o, cap, rfl, Nat.lt_of_lt_of_le h1 hb.size, fun i hi => ?_⟩
  rw [hb.cell (p := ⟨b, o + i, none⟩) h1]; exact h2 i hi

/-- the type of a term's value; the functions that are its methods -/
def ty : Tm → Nat
  | .leaf _ _ => 111
  | .neg _ => 60
  | .two true _ _ => 62
  | .two false _ _ => 63
def fdeg : Tm → Nat
  | .leaf _ _ => 112
  | .neg _ => 91
  | .two true _ _ => 93
  | .two false _ _ => 95
def Rep (w : World) : Tm → Value → Prop
  | .leaf c a, x => ∃ sl, x = .agg #[.string ⟨#[c]⟩, sl] ∧ RowAt w sl a
  | .neg t, x => ∃ u, x = .agg #[.iface (ty t) u] ∧ Rep w t u
  | .two _ a b, x => ∃ u1 u2, x = .agg #[.iface (ty a) u1, .iface (ty b) u2] ∧ Rep w a u1 ∧ Rep w b u2
theorem Rep.below {w w' : World} (hb : Below w.heap.size w w') : ∀ {t : Tm} {v : Value}, Rep w t v → Rep w' t v
  | .leaf _ _, _, ⟨sl, e, h⟩ => ⟨sl, e, h.below hb⟩
  | .neg _, _, ⟨u, e, h⟩ => ⟨u, e, Rep.below hb h⟩
  | .two _ _ _, _, ⟨u1, u2, e, h1, h2⟩ => ⟨u1, u2, e, Rep.below hb h1, Rep.below hb h2⟩

theorem sum_take (a : List Nat) (k : Nat) (h : k < a.length) : sumL (a.take (k + 1)) = sumL (a.take k) + gn a k := by
  induction a generalizing k with
  | nil => simp at h
  | cons x l ih =>
    cases k with
    | zero => simp [sumL, gn]
    | succ k =>
      have := ih k (by simpa using h)
      simp only [gn, List.take_succ_cons, sumL, List.foldr_cons, List.getD_cons_succ] at this ⊢
      omega
theorem sum_take_le (a : List Nat) (k : Nat) : sumL (a.take k) ≤ sumL a := by
  induction a generalizing k with
  | nil => simp [sumL]
  | cons x l ih =>
    cases k with
    | zero => simp [sumL]
    | succ k =>
      have := ih k
      simp only [List.take_succ_cons, sumL, List.foldr_cons] at this ⊢
      omega
set_option maxHeartbeats 400000 in
theorem share_degree (w : World) (sl : Value) (a : List Nat) (hr : RowAt w sl a) (hs : sumL a ≤ 6) (hl : a.length ≤ 100) :
    Calls Tryd.prog 111 #[sl] w fun e w' => e = .returned (.int .i64 (sumL a)) ∧ w = w' := by
  obtain ⟨b, o, cap, rfl, h1, h2⟩ := hr
  go_enter Tryd.func111, Tryd.ntmps111
  go_wp2
  go_loop [3, 8] (fun q i => ∃ k : Nat, k ≤ a.length ∧ i = .int .i64 k ∧ q = .int .i64 ((sumL (a.take k) : Nat) : Int)) (fun _ i => a.length - (intOf i).toNat)
  case atStart => exact ⟨0, Nat.zero_le _, rfl, rfl⟩
  case round =>
    obtain ⟨k, hk, rfl, rfl⟩ := hrel
    have g0 := sum_take_le a k
    by_cases hlt : k < a.length
    · have hc := h2 k hlt
      have hx := sum_take a k hlt
      have hy := sum_take_le a (k + 1)
      have HX := Lib.hid hx
      clear hx
      have hz : gn a k ≤ 6 := by have := HX.out; omega
      clear hy h2
      go_wp2
      go_round
      case rel => exact ⟨k + 1, by omega, by go_num, by rw [HX.out]; go_num⟩
      case measure => simp [intOf]; omega
    · have : k = a.length := by omega
      subst this
      clear h2
      go_wp2
      go_ret
      exact ⟨by simp, rfl⟩

set_option maxHeartbeats 400000 in
theorem leaf_degree (w : World) (c : UInt8) (sl : Value) (a : List Nat) (hr : RowAt w sl a) (hs : sumL a ≤ 6) (hl : a.length ≤ 100) :
    Calls Tryd.prog 112 #[.agg #[.string ⟨#[c]⟩, sl]] w fun e w' => e = .returned (.int .i64 (sumL a)) ∧ Below w.heap.size w w' := by
  go_enter Tryd.func112, Tryd.ntmps112
  go_wp2_with (go_at_call 111; refine (share_degree _ _ _ (hr.below ?_) hs hl).mono ?_; exact (Below.refl _ _).alloc (Nat.le_refl _) _; rintro e w' ⟨rfl, rfl⟩)
  go_ret
  exact ⟨rfl, (Below.refl _ _).alloc (Nat.le_refl _) _⟩
theorem deg_method (t : Tm) (x : Value) (w : World) : (method 283 (ty t) x "loop.example/symmetricsums/impl.degree").run Tryd.prog w = .ok (fdeg t, x) w := by
  cases t with
  | leaf => kernel_rfl
  | neg => kernel_rfl
  | two p => cases p <;> kernel_rfl
theorem deg_ahead (t : Tm) (x : Value) (w : World) : (nilAhead 283 (ty t) x "loop.example/symmetricsums/impl.degree").run Tryd.prog w = .ok (some false) w := by
  cases t with
  | leaf => kernel_rfl
  | neg => kernel_rfl
  | two p => cases p <;> kernel_rfl
theorem deg_enters (t : Tm) (args : Array Value) (w : World) : (callFunc (fdeg t) args).run Tryd.prog w = .ok (.enter (fdeg t) args) w := by
  cases t with
  | leaf => kernel_rfl
  | neg => kernel_rfl
  | two p => cases p <;> kernel_rfl
def DegOk (t : Tm) : Prop := ∀ (w : World) (x : Value), Rep w t x → Calls Tryd.prog (fdeg t) #[x] w fun e w' => e = .returned (.int .i64 (t.deg : Nat)) ∧ Below w.heap.size w w'
theorem neg_degree (t : Tm) (ih : DegOk t) : DegOk (.neg t) := by
  intro w x ⟨u, hx, hu⟩
  subst hx
  have hm := deg_method t u
  have he := deg_enters t
  show Calls Tryd.prog 91 _ _ _
  go_enter Tryd.func91, Tryd.ntmps91
  go_wp2_with (go_at_fn (fdeg t); refine (ih _ _ (hu.below ?_)).mono ?_; exact (Below.refl _ _).alloc (Nat.le_refl _) _; rintro e w' ⟨rfl, hb⟩)
  go_ret
  exact ⟨rfl, ((Below.refl _ _).alloc (Nat.le_refl _) _).trans (hb.mono (by simp))⟩
theorem below_more {n : Nat} {w W W' : World} (h1 : Below n w W) (h2 : Below W.heap.size W W') (h : w.heap.size ≤ n + 1000) (hn : n ≤ w.heap.size) : Below n w W' := h1.trans (h2.mono (Nat.le_trans hn h1.size))
theorem two_start (w : World) (x y : Value) (t : TypeId) : let W := (w.alloc (.cells #[x, y] t)).drew
    W.cell? ⟨w.heap.size, 0, none⟩ = some x ∧ W.cell? ⟨w.heap.size, 1, none⟩ = some y ∧ Below w.heap.size w W ∧ w.heap.size < W.heap.size :=
  ⟨by simp, by simp, ((Below.refl _ _).alloc (Nat.le_refl _) _).drew, by simp⟩
theorem two_step {w W W' : World} {x y : Value} (h : W.cell? ⟨w.heap.size, 0, none⟩ = some x ∧ W.cell? ⟨w.heap.size, 1, none⟩ = some y ∧ Below w.heap.size w W ∧ w.heap.size < W.heap.size) (hb : Below W.heap.size W W') :
    W'.cell? ⟨w.heap.size, 0, none⟩ = some x ∧ W'.cell? ⟨w.heap.size, 1, none⟩ = some y ∧ Below w.heap.size w W' ∧ w.heap.size < W'.heap.size :=
  ⟨by rw [hb.cell (p := ⟨w.heap.size, 0, none⟩) h.2.2.2]; exact h.1, by rw [hb.cell (p := ⟨w.heap.size, 1, none⟩) h.2.2.2]; exact h.2.1, h.2.2.1.trans (hb.mono h.2.2.1.size), Nat.lt_of_lt_of_le h.2.2.2 hb.size⟩
theorem two_below {A B D : Prop} {n : Nat} {w W : World} (h : A ∧ B ∧ Below n w W ∧ D) : Below n w W := h.2.2.1
theorem plus_degree (a b : Tm) (iha : DegOk a) : DegOk (.two true a b) := by
  intro w x ⟨u1, u2, hx, hu1, hu2⟩
  subst hx
  have hm := deg_method a u1
  have he := deg_enters a
  show Calls Tryd.prog 93 _ _ _
  go_enter Tryd.func93, Tryd.ntmps93
  go_wp2_with (go_at_fn (fdeg a); refine (iha _ _ (hu1.below ?_)).mono ?_; exact (Below.refl _ _).alloc (Nat.le_refl _) _; rintro e w' ⟨rfl, hb⟩)
  go_ret
  exact ⟨rfl, ((Below.refl _ _).alloc (Nat.le_refl _) _).trans (hb.mono (by simp))⟩
theorem times_degree (a b : Tm) (h1 : a.deg ≤ 6) (h2 : b.deg ≤ 6) (iha : DegOk a) (ihb : DegOk b) : DegOk (.two false a b) := by
  intro w x ⟨u1, u2, hx, hu1, hu2⟩
  subst hx
  have hm1 := deg_method a u1
  have he1 := deg_enters a
  have ha1 := deg_ahead a u1
  have hm2 := deg_method b u2
  have he2 := deg_enters b
  have ha2 := deg_ahead b u2
  show Calls Tryd.prog 95 _ _ _
  go_enter Tryd.func95, Tryd.ntmps95
  go_wp2_with fail
  have hwr : IntKind.i64.wrap ((a.deg : Int) + (b.deg : Int)) = ((Tm.two false a b).deg : Nat) := by rw [IntWalk.i64_in _ (by omega)]; simp [Tm.deg]
  have h0 := two_start w (.iface (ty a) u1) (.iface (ty b) u2) 63
  go_region_held3 (fun w' => w'.cell? ⟨w.heap.size, 0, none⟩ = some (.iface (ty a) u1) ∧ w'.cell? ⟨w.heap.size, 1, none⟩ = some (.iface (ty b) u2) ∧ Below w.heap.size w w' ∧ w.heap.size < w'.heap.size)
    (first | exact h0 | exact two_step (by assumption) (by assumption))
    (first | (go_at_fn (fdeg a); refine (iha _ _ (hu1.below ?_)).mono ?_; (refine two_below (by assumption)); rintro e w' ⟨rfl, hb⟩) | (go_at_fn (fdeg b); refine (ihb _ _ (hu2.below ?_)).mono ?_; (refine two_below (by assumption)); rintro e w' ⟨rfl, hb⟩))
  all_goals
    go_wp2
    go_ret
    exact ⟨rfl, two_below (by assumption)⟩
theorem degree_ok : ∀ (t : Tm), Fine t → DegOk t
  | .leaf c a, h => by
    intro w x ⟨sl, hx, hr⟩
    subst hx
    exact leaf_degree w c sl a hr (isShare_sum h.1) (by have := h.2; omega)
  | .neg t, h => neg_degree t (degree_ok t h)
  | .two true a b, h => plus_degree a b (degree_ok a h.1)
  | .two false a b, h => times_degree a b h.1.deg h.2.1.deg (degree_ok a h.1) (degree_ok b h.2.1)
end Go.Proofs.YtbpemgpbmabnbaaDoor.tm
