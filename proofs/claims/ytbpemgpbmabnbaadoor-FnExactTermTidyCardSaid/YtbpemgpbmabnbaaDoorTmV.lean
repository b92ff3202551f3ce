/- The program tidies terms. -/
import Derived.Test.YtbpemgpbmabnbaaDoorTmT
import Derived.Test.YtbpemgpbmabnbaaDoorTmB
namespace Go.Proofs.YtbpemgpbmabnbaaDoor.tm
open Go.ChangeShapes Go.WideShapes Go.ChangeAt Go.RowKit Go.Tm
set_option linter.unusedVariables false
set_option linter.unusedSimpArgs false
set_option maxRecDepth 10000
set_option maxHeartbeats 2000000

theorem ta_leaf_leaf (v : Value) (w : World) : (Instr.typeAssert (.iface 111 v) 37 111 true).run Tryd.prog w = .ok (.tuple #[v, .bool true]) w := by kernel_rfl
theorem ta_leaf_neg (v : Value) (w : World) : (Instr.typeAssert (.iface 60 v) 37 111 true).run Tryd.prog w = .ok (.tuple #[.agg #[.string ⟨#[]⟩, .slice none 0 0], .bool false]) w := by kernel_rfl
theorem ta_leaf_plus (v : Value) (w : World) : (Instr.typeAssert (.iface 62 v) 37 111 true).run Tryd.prog w = .ok (.tuple #[.agg #[.string ⟨#[]⟩, .slice none 0 0], .bool false]) w := by kernel_rfl
theorem ta_leaf_times (v : Value) (w : World) : (Instr.typeAssert (.iface 63 v) 37 111 true).run Tryd.prog w = .ok (.tuple #[.agg #[.string ⟨#[]⟩, .slice none 0 0], .bool false]) w := by kernel_rfl
theorem ta_neg_leaf (v : Value) (w : World) : (Instr.typeAssert (.iface 111 v) 37 60 true).run Tryd.prog w = .ok (.tuple #[.agg #[.nilIface], .bool false]) w := by kernel_rfl
theorem ta_neg_neg (v : Value) (w : World) : (Instr.typeAssert (.iface 60 v) 37 60 true).run Tryd.prog w = .ok (.tuple #[v, .bool true]) w := by kernel_rfl
theorem ta_neg_plus (v : Value) (w : World) : (Instr.typeAssert (.iface 62 v) 37 60 true).run Tryd.prog w = .ok (.tuple #[.agg #[.nilIface], .bool false]) w := by kernel_rfl
theorem ta_neg_times (v : Value) (w : World) : (Instr.typeAssert (.iface 63 v) 37 60 true).run Tryd.prog w = .ok (.tuple #[.agg #[.nilIface], .bool false]) w := by kernel_rfl
theorem ta_plus_leaf (v : Value) (w : World) : (Instr.typeAssert (.iface 111 v) 37 62 true).run Tryd.prog w = .ok (.tuple #[.agg #[.nilIface, .nilIface], .bool false]) w := by kernel_rfl
theorem ta_plus_neg (v : Value) (w : World) : (Instr.typeAssert (.iface 60 v) 37 62 true).run Tryd.prog w = .ok (.tuple #[.agg #[.nilIface, .nilIface], .bool false]) w := by kernel_rfl
theorem ta_plus_plus (v : Value) (w : World) : (Instr.typeAssert (.iface 62 v) 37 62 true).run Tryd.prog w = .ok (.tuple #[v, .bool true]) w := by kernel_rfl
theorem ta_plus_times (v : Value) (w : World) : (Instr.typeAssert (.iface 63 v) 37 62 true).run Tryd.prog w = .ok (.tuple #[.agg #[.nilIface, .nilIface], .bool false]) w := by kernel_rfl
theorem ta_times_leaf (v : Value) (w : World) : (Instr.typeAssert (.iface 111 v) 37 63 true).run Tryd.prog w = .ok (.tuple #[.agg #[.nilIface, .nilIface], .bool false]) w := by kernel_rfl
theorem ta_times_neg (v : Value) (w : World) : (Instr.typeAssert (.iface 60 v) 37 63 true).run Tryd.prog w = .ok (.tuple #[.agg #[.nilIface, .nilIface], .bool false]) w := by kernel_rfl
theorem ta_times_plus (v : Value) (w : World) : (Instr.typeAssert (.iface 62 v) 37 63 true).run Tryd.prog w = .ok (.tuple #[.agg #[.nilIface, .nilIface], .bool false]) w := by kernel_rfl
theorem ta_times_times (v : Value) (w : World) : (Instr.typeAssert (.iface 63 v) 37 63 true).run Tryd.prog w = .ok (.tuple #[v, .bool true]) w := by kernel_rfl
theorem is_one (w : World) (t : Tm) (x : Value) (h : Rep w t x) : Calls Tryd.prog 41 #[.iface (ty t) x] w fun e w' => e = .returned (.bool (isOne t)) ∧ Below w.heap.size w w' := by
  cases t with
  | leaf c a =>
    obtain ⟨sl, hx, hr⟩ := h
    obtain ⟨rb, ro, rc, hv, _, h3⟩ := hr
    clear h3
    subst hv hx
    show Calls Tryd.prog 41 #[.iface 111 _] w _
    have f0 := ta_leaf_leaf
    cases a with
    | nil =>
      go_enter Tryd.func41, Tryd.ntmps41
      go_wp2_with fail
      go_ret
      exact ⟨rfl, (Below.refl _ _).alloc (Nat.le_refl _) _⟩
    | cons p a =>
      have hz : ¬ ((a.length : Int) + 1 = 0) := by omega
      have hzb : ((a.length : Int) + 1 == 0) = false := by simp; omega
      go_enter Tryd.func41, Tryd.ntmps41
      go_wp2_with fail
      go_ret
      exact ⟨rfl, (Below.refl _ _).alloc (Nat.le_refl _) _⟩
  | neg t =>
    obtain ⟨u, hx, hu⟩ := h
    subst hx
    show Calls Tryd.prog 41 #[.iface 60 _] w _
    have f0 := ta_leaf_neg
    go_enter Tryd.func41, Tryd.ntmps41
    go_wp2_with fail
    go_ret
    exact ⟨rfl, (Below.refl _ _).alloc (Nat.le_refl _) _⟩
  | two p a b =>
    obtain ⟨u1, u2, hx, hu1, hu2⟩ := h
    subst hx
    cases p
    · show Calls Tryd.prog 41 #[.iface 63 _] w _
      have f0 := ta_leaf_times
      go_enter Tryd.func41, Tryd.ntmps41
      go_wp2_with fail
      go_ret
      exact ⟨rfl, (Below.refl _ _).alloc (Nat.le_refl _) _⟩
    · show Calls Tryd.prog 41 #[.iface 62 _] w _
      have f0 := ta_leaf_plus
      go_enter Tryd.func41, Tryd.ntmps41
      go_wp2_with fail
      go_ret
      exact ⟨rfl, (Below.refl _ _).alloc (Nat.le_refl _) _⟩

def NegQ (w : World) (t : Tm) (e : Ending) (w' : World) : Prop := ∃ x, e = .returned (.iface (ty t) x) ∧ Rep w' t x ∧ Below w.heap.size w w'
theorem tidy_minus (w : World) (t : Tm) (x : Value) (h : Rep w t x) : Calls Tryd.prog 27 #[.iface (ty t) x] w (NegQ w (tidyNeg t)) := by
  have HB : ∀ o, Rep (w.alloc o) t x := fun o => h.below ((Below.refl _ _).alloc (Nat.le_refl _) o)
  have HH := Lib.hid HB
  clear HB
  cases t with
  | leaf c a =>
    obtain ⟨sl, hx, hr⟩ := h
    subst hx
    clear hr
    show Calls Tryd.prog 27 #[.iface 111 _] w _
    have f0 := ta_neg_leaf
    go_enter Tryd.func27, Tryd.ntmps27
    go_wp2_with fail
    go_ret
    exact ⟨_, rfl, ⟨_, rfl, HH.out _⟩, (Below.refl _ _).alloc (Nat.le_refl _) _⟩
  | neg t =>
    obtain ⟨u, hx, hu⟩ := h
    subst hx
    have HU : Hid (∀ o, Rep (w.alloc o) t u) := Lib.hid fun o => hu.below ((Below.refl _ _).alloc (Nat.le_refl _) o)
    clear hu
    show Calls Tryd.prog 27 #[.iface 60 _] w _
    have f0 := ta_neg_neg
    go_enter Tryd.func27, Tryd.ntmps27
    go_wp2_with fail
    go_ret
    exact ⟨_, rfl, HU.out _, (Below.refl _ _).alloc (Nat.le_refl _) _⟩
  | two p a b =>
    obtain ⟨u1, u2, hx, hu1, hu2⟩ := h
    subst hx
    clear hu1 hu2
    cases p
    · show Calls Tryd.prog 27 #[.iface 63 _] w _
      have f0 := ta_neg_times
      go_enter Tryd.func27, Tryd.ntmps27
      go_wp2_with fail
      go_ret
      exact ⟨_, rfl, ⟨_, rfl, HH.out _⟩, (Below.refl _ _).alloc (Nat.le_refl _) _⟩
    · show Calls Tryd.prog 27 #[.iface 62 _] w _
      have f0 := ta_neg_plus
      go_enter Tryd.func27, Tryd.ntmps27
      go_wp2_with fail
      go_ret
      exact ⟨_, rfl, ⟨_, rfl, HH.out _⟩, (Below.refl _ _).alloc (Nat.le_refl _) _⟩

theorem tidy_times_any (w : World) (a b : Tm) (x y : Value) (ha : Rep w a x) (hb : Rep w b y) : Calls Tryd.prog 28 #[.iface (ty a) x, .iface (ty b) y] w (NegQ w (tidyTwo a b)) := by
  have HA := Lib.hid ha
  have HB := Lib.hid hb
  have h1 := is_one w b y hb
  clear ha hb
  by_cases e1 : isOne b = true
  · rw [e1] at h1
    rw [show tidyTwo a b = a by simp [tidyTwo, e1]]
    clear e1
    go_enter Tryd.func28, Tryd.ntmps28
    go_wp2_with (go_at_call 41; (with_reducible refine h1.mono ?_); rintro e w1 ⟨rfl, hb1⟩)
    go_ret
    exact ⟨_, rfl, HA.out.below hb1, hb1⟩
  · have e1' : isOne b = false := by simpa using e1
    rw [e1'] at h1
    have h2 := fun w hw => is_one w a x hw
    by_cases e2 : isOne a = true
    · rw [e2] at h2
      rw [show tidyTwo a b = b by simp [tidyTwo, e1', e2]]
      clear e1 e2 e1'
      go_enter Tryd.func28, Tryd.ntmps28
      go_wp2_with (first | (go_at_call 41; (with_reducible refine h1.mono ?_); rintro e w1 ⟨rfl, hb1⟩) | (go_at_call 41; (with_reducible refine (h2 _ (HA.out.below hb1)).mono ?_); rintro e w2 ⟨rfl, hb2⟩))
      go_ret
      exact ⟨_, rfl, (HB.out.below hb1).below hb2, hb1.trans (hb2.mono hb1.size)⟩
    · have e2' : isOne a = false := by simpa using e2
      rw [e2'] at h2
      rw [show tidyTwo a b = .two false a b by simp [tidyTwo, e1', e2']]
      clear e1 e2 e1' e2'
      go_enter Tryd.func28, Tryd.ntmps28
      go_wp2_with (first | (go_at_call 41; (with_reducible refine h1.mono ?_); rintro e w1 ⟨rfl, hb1⟩) | (go_at_call 41; (with_reducible refine (h2 _ (HA.out.below hb1)).mono ?_); rintro e w2 ⟨rfl, hb2⟩))
      go_ret
      exact ⟨_, rfl, ⟨_, _, rfl, (HA.out.below hb1).below hb2, (HB.out.below hb1).below hb2⟩, hb1.trans (hb2.mono hb1.size)⟩

def TidyOk (t : Tm) : Prop := ∀ (w : World) (x : Value), Rep w t x → Calls Tryd.prog 19 #[.iface (ty t) x] w (NegQ w (tidy t))
theorem tidy_leaf (c : UInt8) (a : List Nat) : TidyOk (.leaf c a) := by
  intro w x h
  obtain ⟨sl, hx, hr⟩ := h
  have HR := Lib.hid hr
  clear hr
  subst hx
  show Calls Tryd.prog 19 #[.iface 111 _] w _
  have f0 := ta_neg_leaf
  have f1 := ta_plus_leaf
  have f2 := ta_times_leaf
  go_enter Tryd.func19, Tryd.ntmps19
  go_wp2_with fail
  go_ret
  exact ⟨_, rfl, ⟨_, rfl, HR.out⟩, Below.refl _ _⟩
theorem tidy_neg (t : Tm) (ih : TidyOk t) : TidyOk (.neg t) := by
  intro w x h
  obtain ⟨u, hx, hu⟩ := h
  have HU : Hid (∀ o, Rep (w.alloc o) t u) := Lib.hid fun o => hu.below ((Below.refl _ _).alloc (Nat.le_refl _) o)
  clear hu
  subst hx
  show Calls Tryd.prog 19 #[.iface 60 _] w _
  have f0 := ta_neg_neg
  have f1 := ta_plus_neg
  have f2 := ta_times_neg
  go_enter Tryd.func19, Tryd.ntmps19
  go_wp2_with (first | (go_at_call 19; refine (ih _ _ (HU.out _)).mono ?_; rintro e w1 ⟨x1, rfl, hx1, hb1⟩; have HX := Lib.hid hx1; clear hx1) | (go_at_call 27; refine (tidy_minus _ _ _ HX.out).mono ?_; rintro e w2 ⟨x2, rfl, hx2, hb2⟩; have HX2 := Lib.hid hx2; clear hx2))
  go_ret
  exact ⟨_, rfl, HX2.out, ((Below.refl _ _).alloc (Nat.le_refl _) _).trans ((hb1.trans (hb2.mono hb1.size)).mono (by simp))⟩
end Go.Proofs.YtbpemgpbmabnbaaDoor.tm
