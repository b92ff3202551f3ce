/- A letter and a share are read. -/
import Derived.Test.YtbpemgpbmabnbaaDoorTmC
namespace Go.Proofs.YtbpemgpbmabnbaaDoor.tm
open Go.ChangeShapes Go.WideShapes Go.ChangeAt Go.RowKit Go.Tm
set_option linter.unusedVariables false
set_option linter.unusedSimpArgs false
set_option maxRecDepth 10000

/-- what reading gives -/
def ReadQ (w : World) (r : Option (Tm × List UInt8)) (e : Ending) (w' : World) : Prop := Below w.heap.size w w' ∧ match r with
  | some (t, rest) => Fine t ∧ ∃ x, e = .returned (.tuple #[.iface (ty t) x, .string ⟨rest.toArray⟩, .nilIface]) ∧ Rep w' t x
  | none => ∃ v r' x, (v = .nilIface ∨ ∃ y, v = .iface 60 y) ∧ e = .returned (.tuple #[v, .string r', .iface 55 (.agg #[.string x])])
theorem size_of (l : List UInt8) : (⟨l.toArray⟩ : ByteArray).size = l.length := rfl
theorem ext_of (l : List UInt8) (a b : Nat) : (⟨l.toArray⟩ : ByteArray).extract a b = ⟨((l.take b).drop a).toArray⟩ := by
  apply ByteArray.ext
  simp [ByteArray.data_extract, List.extract_toArray, List.drop_take]
theorem trim_isD (l : List UInt8) : Lib.trimLeftS l [48, 49, 50, 51, 52, 53, 54, 55, 56, 57] = l.dropWhile isD := by
  unfold Lib.trimLeftS
  congr 1
  funext c
  rw [Bool.eq_iff_iff]
  simp only [List.contains_eq_mem, decide_eq_true_eq, isD, Bool.and_eq_true, List.mem_cons, List.not_mem_nil, or_false, ← UInt8.toNat_inj]
  simp
  omega
theorem read_share (w : World) (l : List UInt8) (hl : l.length ≤ 40) :
    Calls Tryd.prog 46 #[.string ⟨l.toArray⟩] w (ReadQ w (rdShare l)) := by
  cases l with
  | nil =>
    go_enter Tryd.func46, Tryd.ntmps46
    go_wp2_with fail
    go_ret3
    exact ⟨Below.refl _ _, _, _, _, .inl rfl, rfl⟩
  | cons c l =>
    obtain ⟨s, hs⟩ : ∃ s : ByteArray, s = ⟨(c :: l).toArray⟩ := ⟨_, rfl⟩
    rw [← hs]
    have hn : s.size = l.length + 1 := by rw [hs]; rfl
    have hne : s.toList.isEmpty = false := by rw [hs, ByteArray.toList_eq]; rfl
    have hx1 : s.extract 0 1 = ⟨#[c]⟩ := by rw [hs, ext_of]; simp
    have hx2 : (s.extract 1 s.size).data.toList = l := by rw [hs, ext_of, size_of]; simp
    have HX2 := Lib.hid hx2
    have HS := Lib.hid hs
    clear hx2 hs
    by_cases hL : isL c = true
    · have hW := fun w => way_in c w
      rw [hL] at hW
      have HL := Lib.hid hL
      clear hL
      obtain ⟨d, hd⟩ : ∃ d, d = l.takeWhile isD := ⟨_, rfl⟩
      obtain ⟨r, hr⟩ : ∃ r, r = l.dropWhile isD := ⟨_, rfl⟩
      have hdr : l = d ++ r := by rw [hd, hr, List.takeWhile_append_dropWhile]
      have hall : ∀ c ∈ d, isD c = true := by rw [hd]; intro c hc; exact mem_take_while l c hc
      have hT : ∀ w, Calls Tryd.prog 53 #[.string (s.extract 1 s.size), .string ⟨#[48, 49, 50, 51, 52, 53, 54, 55, 56, 57]⟩] w fun e w' => e = .returned (.string ⟨r.toArray⟩) ∧ Below w.heap.size w w' := by
        intro w
        have := Tryd.trim_digits (s.extract 1 s.size) w
        rwa [HX2.out, trim_isD, ← hr] at this
      have hm : s.size = d.length + r.length + 1 := by rw [hn, hdr]; simp
      have hx3 : s.extract 1 (d.length + r.length + 1 - r.length) = ⟨d.toArray⟩ := by rw [HS.out, ext_of, hdr, show d.length + r.length + 1 - r.length = d.length + 1 by omega]; simp
      have hdl : d.length + r.length ≤ 39 := by rw [hn] at hm; simp at hl; omega
      obtain ⟨R, hR⟩ : ∃ R : ByteArray, R = ⟨r.toArray⟩ := ⟨_, rfl⟩
      have hRs : R.size = r.length := by rw [hR]; rfl
      rw [← hR] at hT
      have hP := fun w => parts_of w d hall (by omega)
      have HD := Lib.hid hd
      have HR := Lib.hid hR
      have HDR := Lib.hid hdr
      have HALL := Lib.hid hall
      have HRR := Lib.hid hr
      clear hd hdr hR HX2 hn hr hall
      obtain ⟨m, hm1⟩ : ∃ m, m = d.length := ⟨_, rfl⟩
      obtain ⟨n, hn1⟩ : ∃ n, n = r.length := ⟨_, rfl⟩
      rw [← hm1, ← hn1] at hm hdl
      rw [← hm1, ← hn1] at hx3
      rw [← hx3] at hP
      clear hx3
      rw [← hn1] at hRs
      have HM := Lib.hid hm1
      have HN := Lib.hid hn1
      clear hm1 hn1 hl
      rw [hm] at hT
      obtain ⟨a, ha⟩ : ∃ a, a = d.map dec := ⟨_, rfl⟩
      rw [← ha] at hP
      have HAA := Lib.hid ha
      clear ha
      have h9 : ∀ i, gn a i ≤ 9 := fun i => gn_digit d a HAA.out HALL.out i
      have hl9 : (a).length ≤ 40 := by rw [HAA.out, List.length_map, ← HM.out]; omega
      by_cases hA : isShare (a) = true
      · have hO : ∀ w sl, RowAt w sl (a) → Calls Tryd.prog 54 #[sl] w fun e w' => e = .returned (.tuple #[sl, .bool true]) ∧ w = w' := by
          intro w sl h
          have := share_of w sl (a) h h9 hl9
          rw [hA] at this; exact this
        have HA := Lib.hid hA
        clear hA h9 hl9
        go_enter Tryd.func46, Tryd.ntmps46
        go_wp2_with (first | (go_at_call 52; refine (hW _).mono ?_; rintro e w' ⟨rfl, rfl⟩) | (go_at_call 53; refine (hT _).mono ?_; rintro e w1 ⟨rfl, hb1⟩) | (go_at_call 55; refine (hP _).mono ?_; rintro e w2 ⟨v, rfl, hv, hb2⟩; have HV := Lib.hid hv; obtain ⟨vb, vo, vc, hve, _, _⟩ := hv; subst hve) | (go_at_call 54; refine (hO _ _ HV.out).mono ?_; rintro e w' ⟨rfl, rfl⟩))
        go_ret3
        refine ⟨hb1.trans (hb2.mono hb1.size), ?_⟩
        rw [show rdShare (c :: l) = some (.leaf c (a), r) by simp [rdShare, HL.out, ← HD.out, ← HAA.out, HA.out, ← HRR.out]]
        refine ⟨⟨HA.out, isShare_len HA.out⟩, _, ?_, _, rfl, HV.out⟩
        rw [HR.out]
        rfl
      · have hA' : isShare (a) = false := by simpa using hA
        have hO : ∀ w sl, RowAt w sl (a) → Calls Tryd.prog 54 #[sl] w fun e w' => e = .returned (.tuple #[.slice none 0 0, .bool false]) ∧ w = w' := by
          intro w sl h
          have := share_of w sl (a) h h9 hl9
          rw [hA'] at this; exact this
        have HA := Lib.hid hA'
        clear hA hA' h9 hl9
        go_enter Tryd.func46, Tryd.ntmps46
        go_wp2_with (first | (go_at_call 52; refine (hW _).mono ?_; rintro e w' ⟨rfl, rfl⟩) | (go_at_call 53; refine (hT _).mono ?_; rintro e w1 ⟨rfl, hb1⟩) | (go_at_call 55; refine (hP _).mono ?_; rintro e w2 ⟨v, rfl, hv, hb2⟩; have HV := Lib.hid hv; obtain ⟨vb, vo, vc, hve, _, _⟩ := hv; subst hve) | (go_at_call 54; refine (hO _ _ HV.out).mono ?_; rintro e w' ⟨rfl, rfl⟩))
        go_ret3
        refine ⟨hb1.trans (hb2.mono hb1.size), ?_⟩
        rw [show rdShare (c :: l) = none by simp [rdShare, HL.out, ← HD.out, ← HAA.out, HA.out]]
        exact ⟨_, _, _, .inl rfl, rfl⟩
    · have hL' : isL c = false := by simpa using hL
      have hW := fun w => way_in c w
      rw [hL'] at hW
      have HL := Lib.hid hL'
      clear hL hL'
      go_enter Tryd.func46, Tryd.ntmps46
      go_wp2_with (go_at_call 52; refine (hW _).mono ?_; rintro e w' ⟨rfl, rfl⟩)
      go_ret3
      refine ⟨Below.refl _ _, ?_⟩
      rw [show rdShare (c :: l) = none by simp [rdShare, HL.out]]
      exact ⟨_, _, _, .inl rfl, rfl⟩
end Go.Proofs.YtbpemgpbmabnbaaDoor.tm
