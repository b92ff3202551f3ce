/- The model tidies terms. -/
import Derived.Test.YtbpemgpbmabnbaaDoorTmY
import Derived.Test.YtbpemgpbmabnbaaDoorTmR
import Derived.Test.YtbpemgpbmabnbaaDoorTmX
import Derived.Test.YtbpemgpbmabnbaaDoorTmZz
import Derived.Test.YtbpemgpbmabnbaaDoorTmZa
namespace Go.Proofs.YtbpemgpbmabnbaaDoor.tm
open Go.ChangeShapes Go.WideShapes Go.ChangeAt Go.RowKit Go.Tm
set_option linter.unusedVariables false
set_option linter.unusedSimpArgs false
set_option maxRecDepth 10000
set_option maxHeartbeats 2000000

theorem stidy_two_tb (a b : Tm) (iha : STidy a) (ihb : STidy b) (h1 : (txt (tidy b)).length = 1) : STidy (.two false a b) := by
  intro hg hl B w s hs
  obtain ⟨k, p, n, cp, d, q, m, cq⟩ := s
  obtain ⟨e1, e2, e3, bb, o, u, u', e4, -, h4, h4', h5, h5'⟩ := hs
  simp only at e1 e2 e3 e4
  obtain rfl : k = 42 := e1
  subst e3 e4
  clear e2
  have hlen : (txt a).length + (txt b).length + 3 ≤ 40 := by simp [txt] at hl; omega
  have HA := ih_at iha hg.1 (by omega) h5
  have HB := ih_at ihb hg.2.1 (by omega) h5'
  have hla := tidy_len a
  have hlb := tidy_len b
  have htx : txt (tidy (.two false a b)) = txt (tidy a) := (txt_tidyTwo _ _).trans (if_pos h1)
  have HX : Hid (∀ S T : ByteArray, S = ⟨(txt (tidy a)).toArray⟩ → T = ⟨(txt (tidy b)).toArray⟩ → Hid (S = ⟨(txt (tidy (.two false a b))).toArray⟩)) := Lib.hid (fun S T h h' => Lib.hid (by subst h h'; rw [htx]; first | done | rfl | simp only [app_of, List.append_assoc, List.cons_append, List.nil_append, List.singleton_append]))
  have HXs : ∀ S T : ByteArray, S = ⟨(txt (tidy a)).toArray⟩ → T = ⟨(txt (tidy b)).toArray⟩ → (S).size ≤ 40 := fun S T h h' => by rw [size_is ((HX.out S T h h').out)]; exact Nat.le_trans (tidy_len _) hl
  have HL : Hid ((txt (tidy a)).length + (txt (tidy b)).length + 3 ≤ 40) := Lib.hid (by omega)
  have HF := Lib.hid (fun W (hW : Below w.heap.size w W) => h4'.below hW)
  have hcv : ∀ W : World, (convert 27 9 (.slice (some ⟨W.heap.size, 0, none⟩) 1 1)).run Tryd.prog (W.alloc (.cells #[.int .u8 42] 5)) = .ok (.string ⟨#[42]⟩) (W.alloc (.cells #[.int .u8 42] 5)) := fun W => one_byte W 42 42 rfl W.heap.size rfl
  have hcvd : ∀ W : World, (convert 27 9 (.slice (some ⟨W.heap.size, 0, none⟩) 1 1)).run Tryd.prog (W.alloc (.cells #[.int .u8 42] 5)).drew = .ok (.string ⟨#[42]⟩) (W.alloc (.cells #[.int .u8 42] 5)).drew := fun W => convert_at _ 42 42 rfl W.heap.size (by simp)
  obtain ⟨f0, f1, f2, f3, f4⟩ := h4.below ((Below.refl _ _).alloc (Nat.le_refl _) (.cells #[.int .u8 42, .slice p n cp, .int .i64 (d : Nat), .slice (some ⟨bb, o, none⟩) 2 cq] 33))
  obtain ⟨k', p', n', cp', d', q', m', cq'⟩ := u
  obtain ⟨k2, p2, n2, cp2, d2, q2, m2, cq2⟩ := u'
  have hsa : ∀ S : ByteArray, S = ⟨(txt (tidy a)).toArray⟩ → True := fun _ _ => trivial
  have hsb : ∀ S : ByteArray, S = ⟨(txt (tidy b)).toArray⟩ → S.size = 1 := fun S h => (size_is h).trans h1
  clear iha ihb hl h5 h5' hg h4 h4' htx hla hlb hlen h1
  go_enter Tryd.func18, Tryd.ntmps18
  go_wp2_with (first | (go_at_call_of 18 (Value.agg #[Value.int IntKind.u8 k', Value.slice p' n' cp', Value.int IntKind.i64 d', Value.slice q' m' cq']); refine (HA _ (by repeat (first | with_reducible exact Below.refl _ _ | with_reducible refine below_alloc ?_ _ | with_reducible refine Below.drew ?_))).mono ?_; rintro e w1 ⟨S, HS, hSs, rfl, hb⟩; have B1 := Lib.hid (below_next (w := w) (by repeat (first | with_reducible exact Below.refl _ _ | with_reducible refine below_alloc ?_ _ | with_reducible refine Below.drew ?_)) hb); have hk1 := keptall hb w.heap.size; have hz1 : w.heap.size < w1.heap.size := Nat.lt_of_lt_of_le (by simp) hb.size; have c1 : w1.cell? ⟨w.heap.size, 0, none⟩ = some (.int .u8 42) := (hk1 0 (by simp)).trans (by simp); have hS1 := hsa _ HS.out; obtain ⟨g0, g1, g2, g3, g4⟩ := HF.out _ B1.out; clear hb) | (go_at_call 18; refine (HB _ B1.out).mono ?_; rintro e w2 ⟨T, HT, hTs, rfl, hb⟩; have B2 := Lib.hid (B1.out.trans (hb.mono B1.out.size)); have c2 : w2.cell? ⟨w.heap.size, 0, none⟩ = some (.int .u8 42) := (keptall hb w.heap.size 0 hz1).trans c1; have hz2 : w.heap.size < w2.heap.size := Nat.lt_of_lt_of_le hz1 hb.size; have hT1 := hsb _ HT.out; have hST : S.size + T.size + 3 ≤ 40 := by { rw [size_is HS.out, size_is HT.out]; exact HL.out }))
  go_ret
  exact ⟨_, HX.out _ _ HS.out HT.out, HXs _ _ HS.out HT.out, rfl, by first | exact B2.out | exact below_alloc B2.out _⟩
theorem stidy_two_plus (a b : Tm) (iha : STidy a) (ihb : STidy b)  : STidy (.two true a b) := by
  intro hg hl B w s hs
  obtain ⟨k, p, n, cp, d, q, m, cq⟩ := s
  obtain ⟨e1, e2, e3, bb, o, u, u', e4, -, h4, h4', h5, h5'⟩ := hs
  simp only at e1 e2 e3 e4
  obtain rfl : k = 43 := e1
  subst e3 e4
  clear e2
  have hlen : (txt a).length + (txt b).length + 3 ≤ 40 := by simp [txt] at hl; omega
  have HA := ih_at iha hg.1 (by omega) h5
  have HB := ih_at ihb hg.2.1 (by omega) h5'
  have hla := tidy_len a
  have hlb := tidy_len b
  have htx : txt (tidy (.two true a b)) = 40 :: (txt (tidy a) ++ 43 :: (txt (tidy b) ++ [41])) := rfl
  have HX : Hid (∀ S T : ByteArray, S = ⟨(txt (tidy a)).toArray⟩ → T = ⟨(txt (tidy b)).toArray⟩ → Hid ((⟨#[40]⟩ ++ S ++ ⟨#[43]⟩ ++ T ++ ⟨#[41]⟩ : ByteArray) = ⟨(txt (tidy (.two true a b))).toArray⟩)) := Lib.hid (fun S T h h' => Lib.hid (by subst h h'; rw [htx]; first | done | rfl | simp only [app_of, List.append_assoc, List.cons_append, List.nil_append, List.singleton_append]))
  have HXs : ∀ S T : ByteArray, S = ⟨(txt (tidy a)).toArray⟩ → T = ⟨(txt (tidy b)).toArray⟩ → ((⟨#[40]⟩ ++ S ++ ⟨#[43]⟩ ++ T ++ ⟨#[41]⟩ : ByteArray)).size ≤ 40 := fun S T h h' => by rw [size_is ((HX.out S T h h').out)]; exact Nat.le_trans (tidy_len _) hl
  have HL : Hid ((txt (tidy a)).length + (txt (tidy b)).length + 3 ≤ 40) := Lib.hid (by omega)
  have HF := Lib.hid (fun W (hW : Below w.heap.size w W) => h4'.below hW)
  have hcv : ∀ W : World, (convert 27 9 (.slice (some ⟨W.heap.size, 0, none⟩) 1 1)).run Tryd.prog (W.alloc (.cells #[.int .u8 43] 5)) = .ok (.string ⟨#[43]⟩) (W.alloc (.cells #[.int .u8 43] 5)) := fun W => one_byte W 43 43 rfl W.heap.size rfl
  have hcvd : ∀ W : World, (convert 27 9 (.slice (some ⟨W.heap.size, 0, none⟩) 1 1)).run Tryd.prog (W.alloc (.cells #[.int .u8 43] 5)).drew = .ok (.string ⟨#[43]⟩) (W.alloc (.cells #[.int .u8 43] 5)).drew := fun W => convert_at _ 43 43 rfl W.heap.size (by simp)
  obtain ⟨f0, f1, f2, f3, f4⟩ := h4.below ((Below.refl _ _).alloc (Nat.le_refl _) (.cells #[.int .u8 43, .slice p n cp, .int .i64 (d : Nat), .slice (some ⟨bb, o, none⟩) 2 cq] 33))
  obtain ⟨k', p', n', cp', d', q', m', cq'⟩ := u
  obtain ⟨k2, p2, n2, cp2, d2, q2, m2, cq2⟩ := u'
  have hsa : ∀ S : ByteArray, S = ⟨(txt (tidy a)).toArray⟩ → True := fun _ _ => trivial
  have hsb : ∀ S : ByteArray, S = ⟨(txt (tidy b)).toArray⟩ → True := fun _ _ => trivial
  clear iha ihb hl h5 h5' hg h4 h4' htx hla hlb hlen 
  go_enter Tryd.func18, Tryd.ntmps18
  go_wp2_with (first | (go_at_call_of 18 (Value.agg #[Value.int IntKind.u8 k', Value.slice p' n' cp', Value.int IntKind.i64 d', Value.slice q' m' cq']); refine (HA _ (by repeat (first | with_reducible exact Below.refl _ _ | with_reducible refine below_alloc ?_ _ | with_reducible refine Below.drew ?_))).mono ?_; rintro e w1 ⟨S, HS, hSs, rfl, hb⟩; have B1 := Lib.hid (below_next (w := w) (by repeat (first | with_reducible exact Below.refl _ _ | with_reducible refine below_alloc ?_ _ | with_reducible refine Below.drew ?_)) hb); have hk1 := keptall hb w.heap.size; have hz1 : w.heap.size < w1.heap.size := Nat.lt_of_lt_of_le (by simp) hb.size; have c1 : w1.cell? ⟨w.heap.size, 0, none⟩ = some (.int .u8 43) := (hk1 0 (by simp)).trans (by simp); have hS1 := hsa _ HS.out; obtain ⟨g0, g1, g2, g3, g4⟩ := HF.out _ B1.out; clear hb) | (go_at_call 18; refine (HB _ B1.out).mono ?_; rintro e w2 ⟨T, HT, hTs, rfl, hb⟩; have B2 := Lib.hid (B1.out.trans (hb.mono B1.out.size)); have c2 : w2.cell? ⟨w.heap.size, 0, none⟩ = some (.int .u8 43) := (keptall hb w.heap.size 0 hz1).trans c1; have hz2 : w.heap.size < w2.heap.size := Nat.lt_of_lt_of_le hz1 hb.size; have hT1 := hsb _ HT.out; have hST : S.size + T.size + 3 ≤ 40 := by { rw [size_is HS.out, size_is HT.out]; exact HL.out }))
  go_ret
  exact ⟨_, HX.out _ _ HS.out HT.out, HXs _ _ HS.out HT.out, rfl, by first | exact B2.out | exact below_alloc B2.out _⟩
theorem stidy_two_ta (a b : Tm) (iha : STidy a) (ihb : STidy b) (h1 : ¬ (txt (tidy b)).length = 1) (h2 : (txt (tidy a)).length = 1) : STidy (.two false a b) := by
  intro hg hl B w s hs
  obtain ⟨k, p, n, cp, d, q, m, cq⟩ := s
  obtain ⟨e1, e2, e3, bb, o, u, u', e4, -, h4, h4', h5, h5'⟩ := hs
  simp only at e1 e2 e3 e4
  obtain rfl : k = 42 := e1
  subst e3 e4
  clear e2
  have hlen : (txt a).length + (txt b).length + 3 ≤ 40 := by simp [txt] at hl; omega
  have HA := ih_at iha hg.1 (by omega) h5
  have HB := ih_at ihb hg.2.1 (by omega) h5'
  have hla := tidy_len a
  have hlb := tidy_len b
  have htx : txt (tidy (.two false a b)) = txt (tidy b) := (txt_tidyTwo _ _).trans ((if_neg h1).trans (if_pos h2))
  have HX : Hid (∀ S T : ByteArray, S = ⟨(txt (tidy a)).toArray⟩ → T = ⟨(txt (tidy b)).toArray⟩ → Hid (T = ⟨(txt (tidy (.two false a b))).toArray⟩)) := Lib.hid (fun S T h h' => Lib.hid (by subst h h'; rw [htx]; first | done | rfl | simp only [app_of, List.append_assoc, List.cons_append, List.nil_append, List.singleton_append]))
  have HXs : ∀ S T : ByteArray, S = ⟨(txt (tidy a)).toArray⟩ → T = ⟨(txt (tidy b)).toArray⟩ → (T).size ≤ 40 := fun S T h h' => by rw [size_is ((HX.out S T h h').out)]; exact Nat.le_trans (tidy_len _) hl
  have HL : Hid ((txt (tidy a)).length + (txt (tidy b)).length + 3 ≤ 40) := Lib.hid (by omega)
  have HF := Lib.hid (fun W (hW : Below w.heap.size w W) => h4'.below hW)
  have hcv : ∀ W : World, (convert 27 9 (.slice (some ⟨W.heap.size, 0, none⟩) 1 1)).run Tryd.prog (W.alloc (.cells #[.int .u8 42] 5)) = .ok (.string ⟨#[42]⟩) (W.alloc (.cells #[.int .u8 42] 5)) := fun W => one_byte W 42 42 rfl W.heap.size rfl
  have hcvd : ∀ W : World, (convert 27 9 (.slice (some ⟨W.heap.size, 0, none⟩) 1 1)).run Tryd.prog (W.alloc (.cells #[.int .u8 42] 5)).drew = .ok (.string ⟨#[42]⟩) (W.alloc (.cells #[.int .u8 42] 5)).drew := fun W => convert_at _ 42 42 rfl W.heap.size (by simp)
  obtain ⟨f0, f1, f2, f3, f4⟩ := h4.below ((Below.refl _ _).alloc (Nat.le_refl _) (.cells #[.int .u8 42, .slice p n cp, .int .i64 (d : Nat), .slice (some ⟨bb, o, none⟩) 2 cq] 33))
  obtain ⟨k', p', n', cp', d', q', m', cq'⟩ := u
  obtain ⟨k2, p2, n2, cp2, d2, q2, m2, cq2⟩ := u'
  have hsa : ∀ S : ByteArray, S = ⟨(txt (tidy a)).toArray⟩ → S.size = 1 := fun S h => (size_is h).trans h2
  have hsb : ∀ S : ByteArray, S = ⟨(txt (tidy b)).toArray⟩ → ((S.size : Int) == 1) = false := fun S h => by rw [size_is h]; simp; omega
  clear iha ihb hl h5 h5' hg h4 h4' htx hla hlb hlen h1 h2
  go_enter Tryd.func18, Tryd.ntmps18
  go_wp2_with (first | (go_at_call_of 18 (Value.agg #[Value.int IntKind.u8 k', Value.slice p' n' cp', Value.int IntKind.i64 d', Value.slice q' m' cq']); refine (HA _ (by repeat (first | with_reducible exact Below.refl _ _ | with_reducible refine below_alloc ?_ _ | with_reducible refine Below.drew ?_))).mono ?_; rintro e w1 ⟨S, HS, hSs, rfl, hb⟩; have B1 := Lib.hid (below_next (w := w) (by repeat (first | with_reducible exact Below.refl _ _ | with_reducible refine below_alloc ?_ _ | with_reducible refine Below.drew ?_)) hb); have hk1 := keptall hb w.heap.size; have hz1 : w.heap.size < w1.heap.size := Nat.lt_of_lt_of_le (by simp) hb.size; have c1 : w1.cell? ⟨w.heap.size, 0, none⟩ = some (.int .u8 42) := (hk1 0 (by simp)).trans (by simp); have hS1 := hsa _ HS.out; obtain ⟨g0, g1, g2, g3, g4⟩ := HF.out _ B1.out; clear hb) | (go_at_call 18; refine (HB _ B1.out).mono ?_; rintro e w2 ⟨T, HT, hTs, rfl, hb⟩; have B2 := Lib.hid (B1.out.trans (hb.mono B1.out.size)); have c2 : w2.cell? ⟨w.heap.size, 0, none⟩ = some (.int .u8 42) := (keptall hb w.heap.size 0 hz1).trans c1; have hz2 : w.heap.size < w2.heap.size := Nat.lt_of_lt_of_le hz1 hb.size; have hT1 := hsb _ HT.out; have hST : S.size + T.size + 3 ≤ 40 := by { rw [size_is HS.out, size_is HT.out]; exact HL.out }))
  go_ret
  exact ⟨_, HX.out _ _ HS.out HT.out, HXs _ _ HS.out HT.out, rfl, by first | exact B2.out | exact below_alloc B2.out _⟩
theorem stidy_two_tn (a b : Tm) (iha : STidy a) (ihb : STidy b) (h1 : ¬ (txt (tidy b)).length = 1) (h2 : ¬ (txt (tidy a)).length = 1) : STidy (.two false a b) := by
  intro hg hl B w s hs
  obtain ⟨k, p, n, cp, d, q, m, cq⟩ := s
  obtain ⟨e1, e2, e3, bb, o, u, u', e4, -, h4, h4', h5, h5'⟩ := hs
  simp only at e1 e2 e3 e4
  obtain rfl : k = 42 := e1
  subst e3 e4
  clear e2
  have hlen : (txt a).length + (txt b).length + 3 ≤ 40 := by simp [txt] at hl; omega
  have HA := ih_at iha hg.1 (by omega) h5
  have HB := ih_at ihb hg.2.1 (by omega) h5'
  have hla := tidy_len a
  have hlb := tidy_len b
  have htx : txt (tidy (.two false a b)) = 40 :: (txt (tidy a) ++ 42 :: (txt (tidy b) ++ [41])) := (txt_tidyTwo _ _).trans ((if_neg h1).trans (if_neg h2))
  have HX : Hid (∀ S T : ByteArray, S = ⟨(txt (tidy a)).toArray⟩ → T = ⟨(txt (tidy b)).toArray⟩ → Hid ((⟨#[40]⟩ ++ S ++ ⟨#[42]⟩ ++ T ++ ⟨#[41]⟩ : ByteArray) = ⟨(txt (tidy (.two false a b))).toArray⟩)) := Lib.hid (fun S T h h' => Lib.hid (by subst h h'; rw [htx]; first | done | rfl | simp only [app_of, List.append_assoc, List.cons_append, List.nil_append, List.singleton_append]))
  have HXs : ∀ S T : ByteArray, S = ⟨(txt (tidy a)).toArray⟩ → T = ⟨(txt (tidy b)).toArray⟩ → ((⟨#[40]⟩ ++ S ++ ⟨#[42]⟩ ++ T ++ ⟨#[41]⟩ : ByteArray)).size ≤ 40 := fun S T h h' => by rw [size_is ((HX.out S T h h').out)]; exact Nat.le_trans (tidy_len _) hl
  have HL : Hid ((txt (tidy a)).length + (txt (tidy b)).length + 3 ≤ 40) := Lib.hid (by omega)
  have HF := Lib.hid (fun W (hW : Below w.heap.size w W) => h4'.below hW)
  have hcv : ∀ W : World, (convert 27 9 (.slice (some ⟨W.heap.size, 0, none⟩) 1 1)).run Tryd.prog (W.alloc (.cells #[.int .u8 42] 5)) = .ok (.string ⟨#[42]⟩) (W.alloc (.cells #[.int .u8 42] 5)) := fun W => one_byte W 42 42 rfl W.heap.size rfl
  have hcvd : ∀ W : World, (convert 27 9 (.slice (some ⟨W.heap.size, 0, none⟩) 1 1)).run Tryd.prog (W.alloc (.cells #[.int .u8 42] 5)).drew = .ok (.string ⟨#[42]⟩) (W.alloc (.cells #[.int .u8 42] 5)).drew := fun W => convert_at _ 42 42 rfl W.heap.size (by simp)
  obtain ⟨f0, f1, f2, f3, f4⟩ := h4.below ((Below.refl _ _).alloc (Nat.le_refl _) (.cells #[.int .u8 42, .slice p n cp, .int .i64 (d : Nat), .slice (some ⟨bb, o, none⟩) 2 cq] 33))
  obtain ⟨k', p', n', cp', d', q', m', cq'⟩ := u
  obtain ⟨k2, p2, n2, cp2, d2, q2, m2, cq2⟩ := u'
  have hsa : ∀ S : ByteArray, S = ⟨(txt (tidy a)).toArray⟩ → ((S.size : Int) == 1) = false := fun S h => by rw [size_is h]; simp; omega
  have hsb : ∀ S : ByteArray, S = ⟨(txt (tidy b)).toArray⟩ → ((S.size : Int) == 1) = false := fun S h => by rw [size_is h]; simp; omega
  clear iha ihb hl h5 h5' hg h4 h4' htx hla hlb hlen h1 h2
  go_enter Tryd.func18, Tryd.ntmps18
  go_wp2_with (first | (go_at_call_of 18 (Value.agg #[Value.int IntKind.u8 k', Value.slice p' n' cp', Value.int IntKind.i64 d', Value.slice q' m' cq']); refine (HA _ (by repeat (first | with_reducible exact Below.refl _ _ | with_reducible refine below_alloc ?_ _ | with_reducible refine Below.drew ?_))).mono ?_; rintro e w1 ⟨S, HS, hSs, rfl, hb⟩; have B1 := Lib.hid (below_next (w := w) (by repeat (first | with_reducible exact Below.refl _ _ | with_reducible refine below_alloc ?_ _ | with_reducible refine Below.drew ?_)) hb); have hk1 := keptall hb w.heap.size; have hz1 : w.heap.size < w1.heap.size := Nat.lt_of_lt_of_le (by simp) hb.size; have c1 : w1.cell? ⟨w.heap.size, 0, none⟩ = some (.int .u8 42) := (hk1 0 (by simp)).trans (by simp); have hS1 := hsa _ HS.out; obtain ⟨g0, g1, g2, g3, g4⟩ := HF.out _ B1.out; clear hb) | (go_at_call 18; refine (HB _ B1.out).mono ?_; rintro e w2 ⟨T, HT, hTs, rfl, hb⟩; have B2 := Lib.hid (B1.out.trans (hb.mono B1.out.size)); have c2 : w2.cell? ⟨w.heap.size, 0, none⟩ = some (.int .u8 42) := (keptall hb w.heap.size 0 hz1).trans c1; have hz2 : w.heap.size < w2.heap.size := Nat.lt_of_lt_of_le hz1 hb.size; have hT1 := hsb _ HT.out; have hST : S.size + T.size + 3 ≤ 40 := by { rw [size_is HS.out, size_is HT.out]; exact HL.out }))
  go_ret
  exact ⟨_, HX.out _ _ HS.out HT.out, HXs _ _ HS.out HT.out, rfl, by first | exact B2.out | exact below_alloc B2.out _⟩
theorem stidy_ok : ∀ t : Tm, STidy t
  | .leaf c a => stidy_leaf c a
  | .neg t => stidy_neg t (stidy_ok t)
  | .two true a b => stidy_two_plus a b (stidy_ok a) (stidy_ok b)
  | .two false a b => by
    by_cases h1 : (txt (tidy b)).length = 1
    · exact stidy_two_tb a b (stidy_ok a) (stidy_ok b) h1
    · by_cases h2 : (txt (tidy a)).length = 1
      · exact stidy_two_ta a b (stidy_ok a) (stidy_ok b) h1 h2
      · exact stidy_two_tn a b (stidy_ok a) (stidy_ok b) h1 h2
end Go.Proofs.YtbpemgpbmabnbaaDoor.tm
