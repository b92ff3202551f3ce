/- The program's texts of terms. -/
import Derived.Test.YtbpemgpbmabnbaaDoorTmT
import Derived.Test.YtbpemgpbmabnbaaDoorTmB
import Derived.Test.YtbpemgpbmabnbaaDoorSh
namespace Go.Proofs.YtbpemgpbmabnbaaDoor.tm
open Go.ChangeShapes Go.WideShapes Go.ChangeAt Go.RowKit Go.Tm
set_option linter.unusedVariables false
set_option linter.unusedSimpArgs false
set_option maxRecDepth 10000
set_option maxHeartbeats 1000000

theorem app_of (a b : List UInt8) : (⟨a.toArray⟩ : ByteArray) ++ ⟨b.toArray⟩ = ⟨(a ++ b).toArray⟩ := by
  apply ByteArray.ext
  simp
theorem dec_small (i : Nat) (h : i < 10) : Lib.decDigits i = [dg i] := by
  rw [Lib.decDigits, dif_pos h]; rfl
theorem digits_take (a : List Nat) (k : Nat) (h : k < a.length) : digitsOf (a.take (k + 1)) = digitsOf (a.take k) ++ [dg (gn a k)] := by
  rw [List.take_succ_eq_append_getElem h]
  unfold digitsOf
  rw [List.map_append]
  simp [gn, h]
theorem itoa (i : Nat) (h : i < 10) (w : World) : Calls Tryd.prog 115 #[.int .i64 i] w fun e w' => e = .returned (.string ⟨[dg i].toArray⟩) ∧ w = w' := by
  refine (Tryd.strconv_Itoa_small i (by omega) w).mono ?_
  rintro e w' ⟨rfl, rfl⟩
  exact ⟨by rw [dec_small i h], rfl⟩
theorem share_digits (w : World) (sl : Value) (a : List Nat) (hr : RowAt w sl a) (ha : ∀ i, gn a i ≤ 9) (hl : a.length ≤ 40) :
    Calls Tryd.prog 114 #[sl] w fun e w' => e = .returned (.string ⟨(digitsOf a).toArray⟩) ∧ w = w' := by
  obtain ⟨b, o, cap, rfl, h1, h2⟩ := hr
  have H2 := Lib.hid h2
  clear h2
  go_enter Tryd.func114, Tryd.ntmps114
  go_wp2
  go_loop [3, 8] (fun q i => ∃ (k : Nat) (s : ByteArray), k ≤ a.length ∧ i = .int .i64 k ∧ q = .string s ∧ Hid (s = ⟨(digitsOf (a.take k)).toArray⟩) ∧ s.size ≤ k) (fun _ i => a.length - (intOf i).toNat)
  case atStart => exact ⟨0, _, Nat.zero_le _, rfl, rfl, Lib.hid rfl, Nat.zero_le _⟩
  case round =>
    obtain ⟨k, s, hk, rfl, rfl, HS, hs⟩ := hrel
    by_cases hlt : k < a.length
    · have hc := H2.out k hlt
      have h9 := ha k
      have HT := fun w => itoa (gn a k) (by omega) w
      clear ha
      go_wp2_with (go_at_call 115; refine (HT _).mono ?_; rintro e w' ⟨rfl, rfl⟩)
      have HN : Hid (s ++ ⟨#[dg (gn a k)]⟩ = ⟨(digitsOf (a.take (k + 1))).toArray⟩) := Lib.hid (by
        have h2 := H2
        rw [digits_take a k hlt, ← app_of, ← HS.out])
      have hz : (s ++ (⟨#[dg (gn a k)]⟩ : ByteArray)).size ≤ k + 1 := by rw [ByteArray.size_append]; show s.size + 1 ≤ _; omega
      go_round
      case rel => exact ⟨k + 1, _, by omega, by go_num, rfl, HN, hz⟩
      case measure => simp [intOf]; omega
    · have : k = a.length := by omega
      subst this
      clear ha
      go_wp2_with fail
      go_ret
      exact ⟨by rw [HS.out]; simp, rfl⟩

def ftext : Tm → Nat
  | .leaf _ _ => 113
  | .neg _ => 92
  | .two true _ _ => 94
  | .two false _ _ => 96
theorem text_method (t : Tm) (x : Value) (w : World) : (method 283 (ty t) x "loop.example/symmetricsums/impl.text").run Tryd.prog w = .ok (ftext t, x) w := by
  cases t with
  | leaf => kernel_rfl
  | neg => kernel_rfl
  | two p => cases p <;> kernel_rfl
theorem text_ahead (t : Tm) (x : Value) (w : World) : (nilAhead 283 (ty t) x "loop.example/symmetricsums/impl.text").run Tryd.prog w = .ok (some false) w := by
  cases t with
  | leaf => kernel_rfl
  | neg => kernel_rfl
  | two p => cases p <;> kernel_rfl
theorem text_enters (t : Tm) (args : Array Value) (w : World) : (callFunc (ftext t) args).run Tryd.prog w = .ok (.enter (ftext t) args) w := by
  cases t with
  | leaf => kernel_rfl
  | neg => kernel_rfl
  | two p => cases p <;> kernel_rfl
def TextOk (t : Tm) : Prop := (txt t).length ≤ 40 → ∀ (w : World) (x : Value), Rep w t x → Calls Tryd.prog (ftext t) #[x] w fun e w' => ∃ T, Hid (T = ⟨(txt t).toArray⟩) ∧ T.size ≤ 40 ∧ e = .returned (.string T) ∧ Below w.heap.size w w'
theorem part_six {a : List Nat} (h : isShare a = true) (i : Nat) : gn a i ≤ 9 := by
  have := part_le_sum a i
  have := isShare_sum h
  omega
theorem two_txt (p : Bool) (a b : Tm) (A B : ByteArray) (hA : A = ⟨(txt a).toArray⟩) (hB : B = ⟨(txt b).toArray⟩) : (⟨#[40]⟩ : ByteArray) ++ A ++ ⟨#[if p then 43 else 42]⟩ ++ B ++ ⟨#[41]⟩ = ⟨(txt (.two p a b)).toArray⟩ := by
  subst hA hB
  apply ByteArray.ext
  simp [txt]
theorem bdn {B : Nat} {a w : World} (h : Below B a w) (n : Nat) : Below B a (w.drewN n) := ⟨h.os, h.tape, h.output, h.size, h.block⟩
theorem leaf_text (c : UInt8) (a : List Nat) (h : isShare a = true) : TextOk (.leaf c a) := by
  intro htl w x ⟨sl, hx, hr⟩
  subst hx
  have hlen := isShare_len h
  have HD := fun w hw => share_digits w sl a hw (part_six h) (by omega)
  have HR := Lib.hid hr
  obtain ⟨rb, ro, rc, hv, _, h3⟩ := hr
  clear h3
  subst hv
  obtain ⟨T, hT⟩ : ∃ T : ByteArray, T = ⟨(digitsOf a).toArray⟩ := ⟨_, rfl⟩
  rw [← hT] at HD
  have hTs : T.size ≤ 40 := by rw [hT]; show (digitsOf a).length ≤ 40; simp [digitsOf]; omega
  have HTT := Lib.hid hT
  have HTL := Lib.hid htl
  clear hT htl
  show Calls Tryd.prog 113 _ _ _
  go_enter Tryd.func113, Tryd.ntmps113
  go_wp2_with fail
  go_quiet ((go_at_call 114; refine (HD _ (HR.out.below ?_)).mono ?_; (first | exact bdn ((Below.refl _ _).alloc (Nat.le_refl _) _) _ | exact ((Below.refl _ _).alloc (Nat.le_refl _) _).drew | exact (Below.refl _ _).alloc (Nat.le_refl _) _); rintro e w' ⟨rfl, rfl⟩; exact ⟨rfl, _, rfl⟩))
  go_wp2
  go_ret
  have e : (⟨#[c]⟩ : ByteArray) ++ T = ⟨(txt (.leaf c a)).toArray⟩ := by rw [HTT.out]; exact app_of [c] _
  exact ⟨_, Lib.hid e, by rw [e]; exact HTL.out, rfl, bdn ((Below.refl _ _).alloc (Nat.le_refl _) _) _⟩
theorem neg_text (t : Tm) (ih : TextOk t) : TextOk (.neg t) := by
  intro htl w x ⟨u, hx, hu⟩
  subst hx
  have ih := ih (by simp [txt] at htl; omega)
  have hm := text_method t u
  have he := text_enters t
  show Calls Tryd.prog 92 _ _ _
  go_enter Tryd.func92, Tryd.ntmps92
  go_wp2_with (go_at_fn (ftext t); refine (ih _ _ (hu.below ?_)).mono ?_; exact (Below.refl _ _).alloc (Nat.le_refl _) _; rintro e w' ⟨T, HT, hTs, rfl, hb⟩)
  go_ret
  exact ⟨_, Lib.hid (by rw [HT.out]; exact app_of [45] (txt t)), by rw [HT.out]; rw [show (⟨#[45]⟩ : ByteArray) = ⟨[45].toArray⟩ from rfl, app_of]; exact htl, rfl, ((Below.refl _ _).alloc (Nat.le_refl _) _).trans (hb.mono (by simp))⟩
theorem plus_text (a b : Tm) (iha : TextOk a) (ihb : TextOk b) : TextOk (.two true a b) := by
  intro htl w x ⟨u1, u2, hx, hu1, hu2⟩
  subst hx
  have iha := iha (by simp [txt] at htl; omega)
  have ihb := ihb (by simp [txt] at htl; omega)
  have HTL := Lib.hid htl
  clear htl
  have hm1 := text_method a u1
  have he1 := text_enters a
  have ha1 := text_ahead a u1
  have hm2 := text_method b u2
  have he2 := text_enters b
  have ha2 := text_ahead b u2
  show Calls Tryd.prog 94 _ _ _
  go_enter Tryd.func94, Tryd.ntmps94
  go_wp2_with fail
  have z3 : ∀ x : Nat, x ≤ 40 → ¬ 9223372036854775807 < 1 + x := fun x h => by omega
  have z4 : ∀ x : Nat, x ≤ 40 → ¬ 9223372036854775807 < 1 + x + 1 := fun x h => by omega
  have z8 : ∀ x y : Nat, x ≤ 40 → y ≤ 40 → ¬ 9223372036854775807 < 1 + x + 1 + y := fun x y h h' => by omega
  have z9 : ∀ x y : Nat, x ≤ 40 → y ≤ 40 → ¬ 9223372036854775807 < 1 + x + 1 + y + 1 := fun x y h h' => by omega
  have h0 := two_start w (.iface (ty a) u1) (.iface (ty b) u2) 62
  go_region_held3 (fun w' => w'.cell? ⟨w.heap.size, 0, none⟩ = some (.iface (ty a) u1) ∧ w'.cell? ⟨w.heap.size, 1, none⟩ = some (.iface (ty b) u2) ∧ Below w.heap.size w w' ∧ w.heap.size < w'.heap.size)
    (first | exact h0 | assumption | exact two_step (by assumption) (by assumption))
    (first | (go_at_fn (ftext a); refine (iha _ _ (hu1.below ?_)).mono ?_; (refine two_below (by assumption)); rintro e w' ⟨Ta, HTa, hTa, rfl, hb⟩) | (go_at_fn (ftext b); refine (ihb _ _ (hu2.below ?_)).mono ?_; (refine two_below (by assumption)); rintro e w' ⟨Tb, HTb, hTb, rfl, hb⟩))
  all_goals
    go_wp2
    go_ret
    have e : (⟨#[40]⟩ : ByteArray) ++ Ta ++ ⟨#[43]⟩ ++ Tb ++ ⟨#[41]⟩ = ⟨(txt (.two true a b)).toArray⟩ := two_txt true a b Ta Tb HTa.out HTb.out
    have hz : ((⟨#[40]⟩ : ByteArray) ++ Ta ++ ⟨#[43]⟩ ++ Tb ++ ⟨#[41]⟩).size ≤ 40 := by rw [e]; exact HTL.out
    exact ⟨_, Lib.hid e, hz, rfl, two_below (by assumption)⟩
theorem times_text (a b : Tm) (iha : TextOk a) (ihb : TextOk b) : TextOk (.two false a b) := by
  intro htl w x ⟨u1, u2, hx, hu1, hu2⟩
  subst hx
  have iha := iha (by simp [txt] at htl; omega)
  have ihb := ihb (by simp [txt] at htl; omega)
  have HTL := Lib.hid htl
  clear htl
  have hm1 := text_method a u1
  have he1 := text_enters a
  have ha1 := text_ahead a u1
  have hm2 := text_method b u2
  have he2 := text_enters b
  have ha2 := text_ahead b u2
  show Calls Tryd.prog 96 _ _ _
  go_enter Tryd.func96, Tryd.ntmps96
  go_wp2_with fail
  have z3 : ∀ x : Nat, x ≤ 40 → ¬ 9223372036854775807 < 1 + x := fun x h => by omega
  have z4 : ∀ x : Nat, x ≤ 40 → ¬ 9223372036854775807 < 1 + x + 1 := fun x h => by omega
  have z8 : ∀ x y : Nat, x ≤ 40 → y ≤ 40 → ¬ 9223372036854775807 < 1 + x + 1 + y := fun x y h h' => by omega
  have z9 : ∀ x y : Nat, x ≤ 40 → y ≤ 40 → ¬ 9223372036854775807 < 1 + x + 1 + y + 1 := fun x y h h' => by omega
  have h0 := two_start w (.iface (ty a) u1) (.iface (ty b) u2) 63
  go_region_held3 (fun w' => w'.cell? ⟨w.heap.size, 0, none⟩ = some (.iface (ty a) u1) ∧ w'.cell? ⟨w.heap.size, 1, none⟩ = some (.iface (ty b) u2) ∧ Below w.heap.size w w' ∧ w.heap.size < w'.heap.size)
    (first | exact h0 | assumption | exact two_step (by assumption) (by assumption))
    (first | (go_at_fn (ftext a); refine (iha _ _ (hu1.below ?_)).mono ?_; (refine two_below (by assumption)); rintro e w' ⟨Ta, HTa, hTa, rfl, hb⟩) | (go_at_fn (ftext b); refine (ihb _ _ (hu2.below ?_)).mono ?_; (refine two_below (by assumption)); rintro e w' ⟨Tb, HTb, hTb, rfl, hb⟩))
  all_goals
    go_wp2
    go_ret
    have e : (⟨#[40]⟩ : ByteArray) ++ Ta ++ ⟨#[42]⟩ ++ Tb ++ ⟨#[41]⟩ = ⟨(txt (.two false a b)).toArray⟩ := two_txt false a b Ta Tb HTa.out HTb.out
    have hz : ((⟨#[40]⟩ : ByteArray) ++ Ta ++ ⟨#[42]⟩ ++ Tb ++ ⟨#[41]⟩).size ≤ 40 := by rw [e]; exact HTL.out
    exact ⟨_, Lib.hid e, hz, rfl, two_below (by assumption)⟩
theorem text_ok : ∀ (t : Tm), GoodT t → TextOk t
  | .leaf c a, h => leaf_text c a h.2
  | .neg t, h => neg_text t (text_ok t h)
  | .two true a b, h => plus_text a b (text_ok a h.1) (text_ok b h.2.1)
  | .two false a b, h => times_text a b (text_ok a h.1) (text_ok b h.2.1)
end Go.Proofs.YtbpemgpbmabnbaaDoor.tm
