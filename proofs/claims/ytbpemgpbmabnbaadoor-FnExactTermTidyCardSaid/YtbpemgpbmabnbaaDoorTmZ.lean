/- The model tidies terms. -/
import Derived.Test.YtbpemgpbmabnbaaDoorTmY
import Derived.Test.YtbpemgpbmabnbaaDoorTmR
import Derived.Test.YtbpemgpbmabnbaaDoorTmX
namespace Go.Proofs.YtbpemgpbmabnbaaDoor.tm
open Go.ChangeShapes Go.WideShapes Go.ChangeAt Go.RowKit Go.Tm
set_option linter.unusedVariables false
set_option linter.unusedSimpArgs false
set_option maxRecDepth 10000
set_option maxHeartbeats 2000000

theorem convert_at (w : World) (z : Int) (c : UInt8) (hz : UInt8.ofNat z.toNat = c) (b : Nat) (hb : w.cell? ⟨b, 0, none⟩ = some (.int .u8 z)) : (convert 27 9 (.slice (some ⟨b, 0, none⟩) 1 1)).run Tryd.prog w = .ok (.string ⟨#[c]⟩) w := by
  subst hz
  exact run_convert_bytes_arg (P := Tryd.prog) (w := w) 27 5 Tryd.underlying27 Tryd.underlying5 b 0 1 1 [z] rfl (fun i hi => by
    obtain rfl : i = 0 := by omega
    simpa using hb) 9 Tryd.underlying9
theorem kept1 {W w1 : World} (hb : Below W.heap.size W w1) (b : Nat) : b < W.heap.size → w1.cell? ⟨b, 0, none⟩ = W.cell? ⟨b, 0, none⟩ := fun h => hb.cell (p := ⟨b, 0, none⟩) h
theorem keptall {W w1 : World} (hb : Below W.heap.size W w1) (b : Nat) : ∀ o, b < W.heap.size → w1.cell? ⟨b, o, none⟩ = W.cell? ⟨b, o, none⟩ := fun o h => hb.cell (p := ⟨b, o, none⟩) h
def STidy (t : Tm) : Prop := GoodT t → (txt t).length ≤ 40 → ∀ (B : Nat) (w : World) (s : S4), SRep B w t s → Calls Tryd.prog 18 #[.agg #[.int .u8 s.k, .slice s.p s.n s.c, .int .i64 s.d, .slice s.q s.m s.cq]] w fun e w' => ∃ T, Hid (T = ⟨(txt (tidy t)).toArray⟩) ∧ T.size ≤ 40 ∧ e = .returned (.string T) ∧ Below w.heap.size w w'
theorem stidy_leaf (c : UInt8) (a : List Nat) : STidy (.leaf c a) := by
  intro hg hl B w s hs
  obtain ⟨k, p, n, cp, d, q, m, cq⟩ := s
  obtain ⟨e1, e2, e3, hr⟩ := hs
  simp only at e1 e2 e3 hr
  subst e1 e2 e3
  have h45 : ¬ ((c.toNat : Int) = 45) := by
    have := toNat_ne' (c := c) (k := 45) (by rintro rfl; exact absurd hg.1 (by decide))
    simpa using this
  have h43 : ¬ ((c.toNat : Int) = 43) := by
    have := toNat_ne' (c := c) (k := 43) (by rintro rfl; exact absurd hg.1 (by decide))
    simpa using this
  have h42 : ¬ ((c.toNat : Int) = 42) := by
    have := toNat_ne' (c := c) (k := 42) (by rintro rfl; exact absurd hg.1 (by decide))
    simpa using this
  have b45 : ((c.toNat : Int) == 45) = false := by simpa using h45
  have b43 : ((c.toNat : Int) == 43) = false := by simpa using h43
  have b42 : ((c.toNat : Int) == 42) = false := by simpa using h42
  have hof : UInt8.ofNat ((c.toNat : Int)).toNat = c := by simp
  have HOF := Lib.hid hof
  have hcv1 := convert_at (((w.alloc (.cells #[.int .u8 c.toNat, .slice p n cp, .int .i64 (sumL a : Nat), .slice q 0 cq] 33)).alloc (.cells #[.int .u8 c.toNat] 5)).drew) c.toNat c hof (w.heap.size + 1) (by simp)
  have hcv := fun W : World => one_byte W c.toNat c hof W.heap.size rfl
  have HR : Hid (RowAt w (.slice p n cp) a) := Lib.hid hr.at
  have hal := isShare_len hg.2
  have h9 := part_six hg.2
  have HD := fun w hw => spec_digits w (.slice p n cp) a hw h9 (by omega)
  have HL : Hid ((txt (.leaf c a)).length ≤ 40) := Lib.hid hl
  clear hr h9 hl hg hof
  go_enter Tryd.func18, Tryd.ntmps18
  go_wp2_with fail
  go_region_with (go_at_call 26; refine (HD _ (HR.out.below (by repeat (first | with_reducible exact Below.refl _ _ | with_reducible refine below_alloc ?_ _ | with_reducible refine Below.drew ?_)))).mono ?_; rintro e w1 ⟨T, HT, hTs, rfl, hb⟩; have B1 := Lib.hid (below_next (w := w) (by repeat (first | with_reducible exact Below.refl _ _ | with_reducible refine below_alloc ?_ _ | with_reducible refine Below.drew ?_)) hb); have hcv2 := convert_at w1 c.toNat c HOF.out (w.heap.size + 1); have hk2 := kept1 hb (w.heap.size + 1); have hk0 := keptall hb w.heap.size; clear hb)
  all_goals have HT2 : Hid ((⟨#[c]⟩ ++ T : ByteArray) = ⟨(txt (tidy (.leaf c a))).toArray⟩) := Lib.hid (by rw [HT.out, app_of]; rfl)
  all_goals have HS2 : (⟨#[c]⟩ ++ T : ByteArray).size ≤ 40 := by rw [ByteArray.size_append]; show 1 + T.size ≤ 40; omega
  all_goals have BW := B1.out
  all_goals clear hcv1 hcv hcv2 hk2 hk0 HD HR HT hTs
  all_goals go_wp2_with fail
  all_goals go_ret
  all_goals exact ⟨_, HT2, HS2, rfl, by first | exact BW | exact below_alloc BW _⟩
end Go.Proofs.YtbpemgpbmabnbaaDoor.tm
