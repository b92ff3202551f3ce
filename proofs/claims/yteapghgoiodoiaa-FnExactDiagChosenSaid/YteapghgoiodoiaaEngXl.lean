/- What a call gives whose first argument is a slice of rows, in which sums of products lie. -/
import Derived.Test.YteapghgoiodoiaaEngXk
namespace Go.Eng
set_option linter.unusedSectionVars false
set_option linter.unusedSimpArgs false
set_option linter.unusedVariables false
open Go Go.RowKit

noncomputable section
def matchRR (H : Trie) (w : Nat) (l : List PR) : Bool :=
  sel (sel (Nat.beq (tagOf w) 4) (sel (Nat.beq (sLen (payOf w)) (lenN l)) (sel (Nat.beq (sEs (payOf w)) 1) (sel (Nat.beq (lenN l) 0) false (sel (Nat.beq (sBlk (payOf w)) 0) false true)) false) false) false)
    (match rdRange H (Nat.pred (sBlk (payOf w))) (sOff (payOf w)) (lenN l) with | .some c' => isPRL H l c' | .none => false) false
def matchRRL (H : Trie) (ls : List (List PR)) : Nat → Bool := List.rec (motive := fun _ => Nat → Bool) (fun _ => true) (fun l _ ih c => sel (matchRR H (getW c 0) l) (ih (Nat.shiftRight c 128)) false) ls
def matchRs (H : Trie) (w : Nat) (ls : List (List PR)) : Bool :=
  sel (sel (Nat.beq (tagOf w) 4) (sel (Nat.beq (sLen (payOf w)) (lenN ls)) (sel (Nat.beq (sEs (payOf w)) 1) (sel (Nat.beq (lenN ls) 0) false (sel (Nat.beq (sBlk (payOf w)) 0) false true)) false) false) false)
    (match rdRange H (Nat.pred (sBlk (payOf w))) (sOff (payOf w)) (lenN ls) with | .some c' => matchRRL H ls c' | .none => false) false
def layRs (ls : List (List PR)) : Trie → Nat → List Nat → Lay :=
  List.rec (motive := fun _ => Trie → Nat → List Nat → Lay) (fun H n ws => ⟨H, n, ws⟩)
    (fun l _ ih H n ws => ih (hset (putP l H n []).H (putP l H n []).n (.cells (lenN l) (listW (putP l H n []).ws) 0 0 0 0)) (Nat.succ (putP l H n []).n) (ws ++ [wS (putP l H n []).n 1 0 (lenN l) 0])) ls
def layM (ls : List (List PR)) (l : List PA) : Lay :=
  layP l (hset (layRs ls .nil 0 []).H (layRs ls .nil 0 []).n (.cells (lenN ls) (listW (layRs ls .nil 0 []).ws) 0 0 0 0)) (Nat.succ (layRs ls .nil 0 []).n) [wS (layRs ls .nil 0 []).n 1 0 (lenN ls) 0]
def runM (P : Program) (S : Sums) (fuel d f : Nat) (ls : List (List PR)) (l : List PA) : OR :=
  let y := layM ls l
  sel (sel (okPA l) (ltb y.n 1000) false) (funE P (callN P S fuel d) fuel f y.ws y.H y.n) (.bad 0)
def isM1 (r : PR) (o : OR) : Bool :=
  match o with
  | .bad _ => false
  | .ok v H _ => sel (ltb v 340282366920938463463374607431768211456) (isPR H v r) false
abbrev MemoM := Nat × List (List PR) × List PA × PR
def memoM (l : List MemoM) : Sums := fun f args H n => match args with
  | [] => .no
  | x :: xs => List.rec (motive := fun _ => SR) .no (fun e _ ih => sel (sel (Nat.beq e.1 f) (sel (matchPL H e.2.2.1 xs) (matchRs H x e.2.1) false) false)
    (sel (ltb (putP [e.2.2.2] H n []).n 16000) (.yes (finD true 1 (putP [e.2.2.2] H n []))) ih) ih) l
end

/-- a row -/
def HoldsRR (E : Env) (w : World) (l : List PR) (v : Value) : Prop :=
  0 < l.length ∧ ∃ rb d cp cs ty fz xs, v = .slice (some ⟨rb, d, none⟩) l.length cp ∧ l.length ≤ cp ∧ cp < 9223372036854775808 ∧ l.length < 1048576 ∧ w.heap[rb]? = some (.cells cs ty fz) ∧ d + cp ≤ cs.size ∧
    HoldsRL E l xs ∧ ∀ i, i < l.length → cs[d + i]? = xs[i]?
inductive HoldsRRL (E : Env) (w : World) : List (List PR) → List Value → Prop
  | nil : HoldsRRL E w [] []
  | cons (l : List PR) (v : Value) (ls : List (List PR)) (vs : List Value) : HoldsRR E w l v → HoldsRRL E w ls vs → HoldsRRL E w (l :: ls) (v :: vs)
theorem HoldsRRL.len {E : Env} {w : World} {ls : List (List PR)} {vs : List Value} (h : HoldsRRL E w ls vs) : vs.length = ls.length := by
  induction h with
  | nil => rfl
  | cons _ _ _ _ _ _ ih => simp [ih]
/-- a slice of rows -/
def HoldsRs (E : Env) (w : World) (ls : List (List PR)) (v : Value) : Prop :=
  0 < ls.length ∧ ∃ rb d cp cs ty fz vs, v = .slice (some ⟨rb, d, none⟩) ls.length cp ∧ ls.length ≤ cp ∧ cp < 9223372036854775808 ∧ ls.length < 1048576 ∧ w.heap[rb]? = some (.cells cs ty fz) ∧ d + cp ≤ cs.size ∧
    HoldsRRL E w ls vs ∧ ∀ i, i < ls.length → cs[d + i]? = vs[i]?
theorem HoldsRL.setK {E : Env} {K : Nat → Option Obj} {l : List PR} {xs : List Value} (h : HoldsRL E l xs) : HoldsRL (Eng.setK E K) l xs := by
  induction h with
  | nil => exact .nil
  | cons r x l xs h _ ih => exact .cons r x l xs h.setK ih
theorem HoldsRR.setK {E : Env} {K : Nat → Option Obj} {w : World} {l : List PR} {v : Value} (h : HoldsRR E w l v) : HoldsRR (Eng.setK E K) w l v := by
  obtain ⟨h0, rb, d, cp, cs, ty, fz, xs, h1, h2, h3, h4, h5, h6, h7, h8⟩ := h
  exact ⟨h0, rb, d, cp, cs, ty, fz, xs, h1, h2, h3, h4, h5, h6, h7.setK, h8⟩
theorem HoldsRRL.setK {E : Env} {K : Nat → Option Obj} {w : World} {ls : List (List PR)} {vs : List Value} (h : HoldsRRL E w ls vs) : HoldsRRL (Eng.setK E K) w ls vs := by
  induction h with
  | nil => exact .nil
  | cons l v ls vs h _ ih => exact .cons l v ls vs h.setK ih

section
variable {base n : Nat} {H : Trie} {ρ : Rho} {L : Look} {w : World}
/-- what a slice word says -/
theorem sl_inv {E : Env} (c : @Ctx E base H n ρ L w) {x : Nat} {v : Value} (hx : @VR E ρ L x v) {m ch : Nat} (h4 : tagOf x = 4) (hlen : sLen (payOf x) = m) (hes : sEs (payOf x) = 1) (hm0 : m ≠ 0) (hbn : sBlk (payOf x) ≠ 0)
    (hrd : rdRange H (Nat.pred (sBlk (payOf x))) (sOff (payOf x)) m = .some ch) :
    ∃ (rb d cp : Nat) (cs : Array Value) (ty : TypeId) (fz : Nat × Nat) (vs : List Value), v = .slice (some ⟨rb, d, none⟩) m cp ∧ m ≤ cp ∧ cp < 9223372036854775808 ∧ m < 1048576 ∧ w.heap[rb]? = some (.cells cs ty fz) ∧ d + cp ≤ cs.size ∧ vs.length = m ∧
      (∀ i (h : i < vs.length), @VR E ρ L (getW ch i) vs[i]) ∧ ∀ i, i < m → cs[d + i]? = vs[i]? := by
  letI : Env := E
  rcases hx.slice_inv h4 with ⟨rfl, _⟩ | ⟨b, es, off, m', k, rb, d, sz, cp, a, hb, he, ho, hm, hk, hmc, hbig, hk1, hcp, rfl, rfl⟩
  · exact absurd s_nil.2.2.2.2.2 hbn
  obtain ⟨_, q1, q2, q3, q4, q5⟩ := s_parts b es off m' k he ho hm hk
  rw [q5, q3, Nat.pred_succ] at hrd
  rw [q1] at hlen
  rw [q4] at hes
  subst hes
  subst hlen
  obtain ⟨vs, ro⟩ := rdRange_sound c hb hrd
  have hcp2 := hcp.resolve_left (by omega)
  have hblk : ∃ cs ty fz, w.heap[rb]? = some (.cells cs ty fz) ∧ d + sz ≤ cs.size := by
    unfold rdRange at hrd
    split at hrd
    · rename_i nb cb g keep since mx hget
      rw [sel_ble] at hrd
      split at hrd
      · rw [sel_eq] at hrd
        split at hrd
        · rename_i hval
          have hL := c.agree.2 _ _ hget
          have hl := validE_iff c.agree hL hval
          obtain ⟨kk, hk2, hbr⟩ := c.sim.blk b _ hb
          rw [hL] at hk2; injection hk2 with hk2; subst hk2
          obtain ⟨cs, ty, fz, g1, g2, _⟩ := hbr hl
          exact ⟨cs, ty, fz, g1, g2⟩
        · cases hrd
      · cases hrd
    · cases hrd
  obtain ⟨cs, ty, fz, g1, g2⟩ := hblk
  refine ⟨rb, d + off, cp, cs, ty, fz, vs, by rw [hcp2.1], hmc, hbig, hm, g1, by have := hcp2.2; omega, ro.len, fun i hi => (ro.word i vs[i] (List.getElem?_eq_getElem hi)).1, fun i hi => ?_⟩
  have hil : i < vs.length := by rw [ro.len]; exact hi
  have r2 := ro.cell i vs[i] (List.getElem?_eq_getElem hil)
  rw [addr_add, cell_of_heap g1] at r2
  rw [r2, List.getElem?_eq_getElem hil]
theorem matchRR_holds {E : Env} (c : @Ctx E base H n ρ L w) {x : Nat} {v : Value} (hx : @VR E ρ L x v) (l : List PR) (h : matchRR H x l = true) : HoldsRR E w l v := by
  unfold matchRR at h
  rw [lenN_eq] at h
  obtain ⟨h1, h⟩ := sel_and h
  obtain ⟨a1, h1⟩ := sel_and h1
  obtain ⟨a2, h1⟩ := sel_and h1
  obtain ⟨a3, h1⟩ := sel_and h1
  rw [sel_beq] at h1
  split at h1
  · cases h1
  rename_i hm0
  rw [sel_beq] at h1
  split at h1
  · cases h1
  rename_i hbn
  split at h
  rotate_left
  · cases h
  rename_i ch hrd
  obtain ⟨rb, d, cp, cs, ty, fz, vs, hv, g1, g2, g3, g4, g5, g6, g7, g8⟩ := sl_inv c hx (Nat.eq_of_beq_eq_true a1) (Nat.eq_of_beq_eq_true a2) (Nat.eq_of_beq_eq_true a3) hm0 hbn hrd
  exact ⟨by omega, rb, d, cp, cs, ty, fz, vs, hv, g1, g2, g3, g4, g5, isPRL_inv c l ch vs g6 g7 h, g8⟩
theorem matchRRL_holds {E : Env} (c : @Ctx E base H n ρ L w) : ∀ (ls : List (List PR)) (ch : Nat) (vs : List Value), vs.length = ls.length → (∀ i (h : i < vs.length), @VR E ρ L (getW ch i) vs[i]) → matchRRL H ls ch = true → HoldsRRL E w ls vs
  | [], ch, vs, hl, _, _ => by
    have : vs = [] := List.eq_nil_of_length_eq_zero (by simpa using hl)
    subst this; exact .nil
  | l :: ls, ch, [], hl, _, _ => by simp at hl
  | l :: ls, ch, v :: vs, hl, hv, h => by
    have e : matchRRL H (l :: ls) ch = sel (matchRR H (getW ch 0) l) (matchRRL H ls (Nat.shiftRight ch 128)) false := rfl
    rw [e] at h
    obtain ⟨h1, h2⟩ := sel_and h
    refine .cons _ _ _ _ (matchRR_holds c (hv 0 (by simp)) l h1) (matchRRL_holds c ls _ vs (by simpa using hl) (fun i hi => ?_) h2)
    letI : Env := E
    rw [getW_shift]
    have := hv (i + 1) (by simpa using hi)
    simpa using this
theorem matchRs_holds {E : Env} (c : @Ctx E base H n ρ L w) {x : Nat} {v : Value} (hx : @VR E ρ L x v) (ls : List (List PR)) (h : matchRs H x ls = true) : HoldsRs E w ls v := by
  unfold matchRs at h
  rw [lenN_eq] at h
  obtain ⟨h1, h⟩ := sel_and h
  obtain ⟨a1, h1⟩ := sel_and h1
  obtain ⟨a2, h1⟩ := sel_and h1
  obtain ⟨a3, h1⟩ := sel_and h1
  rw [sel_beq] at h1
  split at h1
  · cases h1
  rename_i hm0
  rw [sel_beq] at h1
  split at h1
  · cases h1
  rename_i hbn
  split at h
  rotate_left
  · cases h
  rename_i ch hrd
  obtain ⟨rb, d, cp, cs, ty, fz, vs, hv, g1, g2, g3, g4, g5, g6, g7, g8⟩ := sl_inv c hx (Nat.eq_of_beq_eq_true a1) (Nat.eq_of_beq_eq_true a2) (Nat.eq_of_beq_eq_true a3) hm0 hbn hrd
  exact ⟨by omega, rb, d, cp, cs, ty, fz, vs, hv, g1, g2, g3, g4, g5, matchRRL_holds c ls ch vs g6 g7 h, g8⟩

theorem polyW_storable {n : Nat} (h : n < 16384) : storable (polyW n) = true := by
  letI : Env := noEnv
  have e : polyW n = 16 * (16 + 4 * n) + 7 := rfl
  rw [storable_iff]
  have t : tagOf (polyW n) = 7 := by unfold polyW; rw [tag_mk7]
  rw [t]
  exact ⟨by decide, by decide, by decide, by rw [e]; omega⟩
theorem putP_stor {E : Env} : ∀ (l : List PR) (xs : List Value) (H : Trie) (n : Nat) (ws : List Nat), HoldsRL E l xs → (putP l H n ws).n < 16384 → (∀ x ∈ ws, storable x = true) → ∀ x ∈ (putP l H n ws).ws, storable x = true
  | [], xs, H, n, ws, hh, hlt, hst => hst
  | .lit u :: l, xs, H, n, ws, hh, hlt, hst => by
    cases hh with
    | cons _ x _ xs' h1 h2 =>
      obtain ⟨hl, rfl⟩ : litW u = true ∧ x = litV u := h1
      exact putP_stor l xs' H n (ws ++ [u]) h2 hlt (fun y hy => by
        rcases List.mem_append.1 hy with hy | hy
        · exact hst y hy
        · simp at hy; subst hy; exact litW_storable hl)
  | .any :: l, xs, H, n, ws, hh, hlt, hst => by
    cases hh with
    | cons _ x _ xs' h1 h2 =>
      exact putP_stor l xs' H n (ws ++ [55]) h2 hlt (fun y hy => by
        rcases List.mem_append.1 hy with hy | hy
        · exact hst y hy
        · simp at hy; subst hy; decide)
  | .poly p q s d lo hi :: l, xs, H, n, ws, hh, hlt, hst => by
    cases hh with
    | cons _ x _ xs' h1 h2 =>
      have hle := putP_le l (hset H n (.poly p q s d lo hi)) (Nat.succ n) (ws ++ [polyW n])
      have hlt' : (putP l (hset H n (.poly p q s d lo hi)) (Nat.succ n) (ws ++ [polyW n])).n < 16384 := hlt
      have es : Nat.succ n = n + 1 := rfl
      exact putP_stor l xs' _ _ _ h2 hlt' (fun y hy => by
        rcases List.mem_append.1 hy with hy | hy
        · exact hst y hy
        · simp at hy; subst hy; exact polyW_storable (by omega))
theorem layRs_le : ∀ (ls : List (List PR)) (H : Trie) (n : Nat) (ws : List Nat), n ≤ (layRs ls H n ws).n
  | [], H, n, ws => Nat.le_refl _
  | l :: ls, H, n, ws => Nat.le_trans (putP_le l H n []) (Nat.le_trans (Nat.le_succ _) (layRs_le ls _ _ _))
theorem layRs_sound {E : Env} : ∀ (ls : List (List PR)) (vs : List Value) (H : Trie) (n : Nat) (ws : List Nat) (us : List Value) (ρ : Rho) (L : Look), @Ctx E w.heap.size H n ρ L w → HoldsRRL E w ls vs → (layRs ls H n ws).n < 16384 →
    @AR E ρ L ws us → (∀ x ∈ ws, storable x = true) →
    ∃ ρ' L', @Ctx E w.heap.size (layRs ls H n ws).H (layRs ls H n ws).n ρ' L' w ∧ @AR E ρ' L' (layRs ls H n ws).ws (us ++ vs) ∧ (∀ x ∈ (layRs ls H n ws).ws, storable x = true)
  | [], vs, H, n, ws, us, ρ, L, c, hh, hlt, ha, hst => by
    cases hh
    exact ⟨ρ, L, c, by rw [List.append_nil]; exact ha, hst⟩
  | l :: ls, vs, H, n, ws, us, ρ, L, c, hh, hlt, ha, hst => by
    letI : Env := E
    cases hh with
    | cons _ v _ vs' h1 h2 =>
      obtain ⟨h0, rb, d, cp, cs, ty, fz, xs, rfl, g1, g2, g3, g4, g5, g6, g7⟩ := h1
      have e0 : layRs (l :: ls) H n ws = layRs ls (hset (putP l H n []).H (putP l H n []).n (.cells (lenN l) (listW (putP l H n []).ws) 0 0 0 0)) (Nat.succ (putP l H n []).n) (ws ++ [wS (putP l H n []).n 1 0 (lenN l) 0]) := rfl
      rw [e0] at hlt ⊢
      have hle := layRs_le ls (hset (putP l H n []).H (putP l H n []).n (.cells (lenN l) (listW (putP l H n []).ws) 0 0 0 0)) (Nat.succ (putP l H n []).n) (ws ++ [wS (putP l H n []).n 1 0 (lenN l) 0])
      have es : Nat.succ (putP l H n []).n = (putP l H n []).n + 1 := rfl
      have hn : (putP l H n []).n < 16384 := by omega
      obtain ⟨L1, c1, e1, a1, _, _⟩ := putP_sound (w := w) l xs H n [] [] ρ L c g6 hn .nil (fun x hx => by cases hx)
      have st1 := putP_stor l xs H n [] g6 hn (fun x hx => by cases hx)
      simp only [List.nil_append] at a1
      have hsl : allSlot (putP l H n []).ws = true := allSlot_of _ fun y hy => storable_lt (st1 y hy)
      have hxl : xs.length = l.length := g6.len
      have hwl : (putP l H n []).ws.length = l.length := by rw [← hxl]; exact a1.length.symm
      have hrb : rb < w.heap.size := (Array.getElem?_eq_some_iff.1 g4).1
      have c2 := c1.arg (nb := l.length) (ch := listW (putP l H n []).ws) (sz := cp) (d := d) hn g4 hrb g5 g1 (fun i hi => by
        have hi2 : i < xs.length := by omega
        refine ⟨xs[i], by rw [g7 i hi, List.getElem?_eq_getElem hi2], ?_, ?_⟩
        · rw [getW_listW _ hsl]; exact a1.get i hi2
        · rw [getW_listW _ hsl]
          have hi3 : i < (putP l H n []).ws.length := by omega
          rw [List.getD_eq_getElem?_getD, List.getElem?_eq_getElem hi3]
          exact st1 _ (List.getElem_mem hi3))
      have e2 : Ext ρ L1 (updR ρ (putP l H n []).n (rb, d, cp)) (upd L1 (putP l H n []).n (.cells l.length (listW (putP l H n []).ws) 0 0 0 0)) := .fresh c1.fresh _ _
      have v1 : VR (updR ρ (putP l H n []).n (rb, d, cp)) (upd L1 (putP l H n []).n (.cells l.length (listW (putP l H n []).ws) 0 0 0 0)) (wS (putP l H n []).n 1 0 l.length 0) (.slice (some ⟨rb, d, none⟩) l.length cp) :=
        .slice _ 1 0 l.length 0 rb d cp cp _ (updR_same _ _ _) (by omega) (by omega) g3 (by omega) g1 g2 (.inl rfl) (.inr ⟨by simp, by omega⟩)
      rw [lenN_eq] at hlt ⊢
      obtain ⟨ρ', L', c', ha', hst'⟩ := layRs_sound ls vs' _ _ (ws ++ [wS (putP l H n []).n 1 0 l.length 0]) (us ++ [.slice (some ⟨rb, d, none⟩) l.length cp]) _ _ c2 h2 hlt (((ha.mono e1).mono e2).app (.cons _ _ _ _ v1 .nil)) (fun y hy => by
        rcases List.mem_append.1 hy with hy | hy
        · exact hst y hy
        · simp at hy; subst hy
          rw [storable_iff, (s_parts (putP l H n []).n 1 0 l.length 0 (by omega) (by omega) g3 (by omega)).1]
          exact ⟨by decide, by decide, by decide, by rw [wS_eq]; omega⟩)
      have ea : us ++ [Value.slice (some ⟨rb, d, none⟩) l.length cp] ++ vs' = us ++ Value.slice (some ⟨rb, d, none⟩) l.length cp :: vs' := by simp
      rw [ea] at ha'
      exact ⟨ρ', L', c', ha', hst'⟩
end

structure MemoMK (E : Env) (P : Program) (e : MemoM) : Prop where
  known : Known P e.1
  calls : ∀ (w : World) (s : Value) (vs : List Value), HoldsRs E w e.2.1 s → HoldsAL E w e.2.2.1 vs →
    Calls P e.1 (s :: vs).toArray w fun r w' => ∃ x, r = .returned x ∧ HoldsR1 E e.2.2.2 x ∧ Below w.heap.size w w'

/-- ██ A result found by a run. -/
theorem memoM_of {P : Program} {S : Sums} (hS : Always P S) {fuel d f : Nat} {ls : List (List PR)} {l : List PA} {r : PR} (h : isM1 r (runM P S fuel d f ls l) = true) (E : Env) : MemoMK E P (f, ls, l, r) := by
  unfold runM at h
  simp only at h
  cases hg : sel (okPA l) (ltb (layM ls l).n 1000) false with
  | false => rw [hg] at h; cases h
  | true =>
    rw [hg, sel_true] at h
    obtain ⟨hok, hlt⟩ := sel_and hg
    have hlt := (ltb_iff _ _).1 hlt
    cases hr : funE P (callN P S fuel d) fuel f (layM ls l).ws (layM ls l).H (layM ls l).n with
    | bad q => rw [hr] at h; cases h
    | ok v' H' n' =>
      rw [hr] at h
      refine ⟨known_of hr, fun w s vs hs hh cs => ?_⟩
      letI : Env := setK E fun _ => none
      have hkb : ∀ (rb : Nat) cs ty fz, w.heap[rb]? = some (.cells cs ty fz) → rb < w.heap.size ∨ ∃ o, Env.kept rb = some o := fun rb cs ty fz h => .inl (Array.getElem?_eq_some_iff.1 h).1
      obtain ⟨h0, rb, dd, cp, xs, ty, fz, us, rfl, g1, g2, g3, g4, g5, g6, g7⟩ := hs
      have g3 : ls.length < 1048576 := g3
      have hle : Nat.succ (layRs ls .nil 0 []).n ≤ (layM ls l).n := (layPB_sound (w := w) (base := w.heap.size) hkb l _ _ _).1
      have es : Nat.succ (layRs ls .nil 0 []).n = (layRs ls .nil 0 []).n + 1 := rfl
      have hn : (layRs ls .nil 0 []).n < 16384 := by omega
      have hus : us.length = ls.length := HoldsRRL.len (E := E) (w := w) g6
      obtain ⟨ρ1, L1, c1, a1, st1⟩ := layRs_sound (w := w) ls us .nil 0 [] [] _ _ (Ctx.start w) (HoldsRRL.setK (E := E) g6) hn .nil (fun x hx => by cases hx)
      simp only [List.nil_append] at a1
      have hsl : allSlot (layRs ls .nil 0 []).ws = true := allSlot_of _ fun y hy => storable_lt (st1 y hy)
      have hwl : (layRs ls .nil 0 []).ws.length = ls.length := by rw [← hus]; exact a1.length.symm
      have hrb : rb < w.heap.size := (Array.getElem?_eq_some_iff.1 g4).1
      have c2 := c1.arg (nb := ls.length) (ch := listW (layRs ls .nil 0 []).ws) (sz := cp) (d := dd) hn g4 hrb g5 g1 (fun i hi => by
        have hi2 : i < us.length := by omega
        refine ⟨us[i], by rw [g7 i hi, List.getElem?_eq_getElem hi2], ?_, ?_⟩
        · rw [getW_listW _ hsl]; exact a1.get i hi2
        · rw [getW_listW _ hsl]
          have hi3 : i < (layRs ls .nil 0 []).ws.length := by omega
          rw [List.getD_eq_getElem?_getD, List.getElem?_eq_getElem hi3]
          exact st1 _ (List.getElem_mem hi3))
      have v1 : VR (updR ρ1 (layRs ls .nil 0 []).n (rb, dd, cp)) (upd L1 (layRs ls .nil 0 []).n (.cells ls.length (listW (layRs ls .nil 0 []).ws) 0 0 0 0)) (wS (layRs ls .nil 0 []).n 1 0 ls.length 0) (.slice (some ⟨rb, dd, none⟩) ls.length cp) :=
        .slice _ 1 0 ls.length 0 rb dd cp cp _ (updR_same _ _ _) (by omega) (by omega) g3 (by omega) g1 g2 (.inl rfl) (.inr ⟨by simp, by omega⟩)
      have eM : layM ls l = layP l (hset (layRs ls .nil 0 []).H (layRs ls .nil 0 []).n (.cells ls.length (listW (layRs ls .nil 0 []).ws) 0 0 0 0)) (Nat.succ (layRs ls .nil 0 []).n) [wS (layRs ls .nil 0 []).n 1 0 ls.length 0] := by unfold layM; rw [lenN_eq]
      obtain ⟨_, hL⟩ := layPB_sound (w := w) (base := w.heap.size) hkb l (hset (layRs ls .nil 0 []).H (layRs ls .nil 0 []).n (.cells ls.length (listW (layRs ls .nil 0 []).ws) 0 0 0 0)) (Nat.succ (layRs ls .nil 0 []).n) [wS (layRs ls .nil 0 []).n 1 0 ls.length 0]
      obtain ⟨ρ', L', c, ha, e3⟩ := hL _ _ vs [.slice (some ⟨rb, dd, none⟩) ls.length cp] c2 (.cons _ _ _ _ v1 .nil) hh.setK (by rw [← eM]; exact hlt) hok
      rw [← eM] at c ha
      obtain ⟨ρ2, L2, w', x, c3, e4, hb, _, _, hx, _, hc⟩ := funE_sound (callN_sound P (hS _) fuel d) cs c (vs := (Value.slice (some ⟨rb, dd, none⟩) ls.length cp :: vs).toArray) (by simpa using ha) hr
      obtain ⟨e, W, fr, ⟨h1, h2⟩, h3⟩ := hc
      subst h2
      have h : sel (ltb v' 340282366920938463463374607431768211456) (isPR H' v' r) false = true := h
      obtain ⟨_, a3⟩ := sel_and h
      exact ⟨e, W, fr, ⟨x, h1, (isPR_inv c3 hx a3).unset, hb⟩, h3⟩

theorem memoM_always {P : Program} : ∀ (l : List MemoM), (∀ e ∈ l, ∀ E, MemoMK E P e) → Always P (memoM l) := by
  intro l hl E base H n ρ L w f args vs v H' n' cs c ha h
  letI : Env := E
  obtain ⟨vs⟩ := vs
  cases args with
  | nil => cases h
  | cons x xs =>
    have ha : AR ρ L (x :: xs) vs := ha
    cases ha with
    | cons _ v0 _ vs hx hxs =>
    induction l with
    | nil => cases h
    | cons e l ih =>
      have e0 : memoM (e :: l) f (x :: xs) H n = sel (sel (Nat.beq e.1 f) (sel (matchPL H e.2.2.1 xs) (matchRs H x e.2.1) false) false)
        (sel (ltb (putP [e.2.2.2] H n []).n 16000) (.yes (finD true 1 (putP [e.2.2.2] H n []))) (memoM l f (x :: xs) H n)) (memoM l f (x :: xs) H n) := rfl
      rw [e0, sel_eq] at h
      split at h
      · rename_i h1
        rw [sel_ltb] at h
        split at h
        · rename_i hlt
          obtain ⟨hf, h1⟩ := sel_and h1
          obtain ⟨hm1, hm2⟩ := sel_and h1
          have hf := Nat.eq_of_beq_eq_true hf
          injection h with hfin
          have K := hl e List.mem_cons_self E
          have hh := matchPL_holds c e.2.2.1 xs vs hxs hm1
          have hs := matchRs_holds c hx e.2.1 hm2
          obtain ⟨r, W, ⟨x', hr, hx', hb⟩, hcall⟩ := calls_at (K.calls w v0 vs hs hh) cs
          subst hr
          rw [← hf]
          obtain ⟨L', c3, e3, ha3, hst3, hloc3⟩ := putP_sound (w := W) [e.2.2.2] [x'] H n [] [] ρ L (c.later hb) (.cons _ _ _ _ hx' .nil) (by omega) .nil (fun y hy => by cases hy)
          simp only [List.nil_append] at ha3
          have hle := putP_le [e.2.2.2] H n []
          unfold finD at hfin
          rw [sel_true] at hfin
          injection hfin with a1 a2 a3
          subst a1; subst a2; subst a3
          generalize (putP [e.2.2.2] H n []).ws = ws at ha3 ⊢
          rcases ha3 with _ | ⟨u, _, _, _, hu, hn0⟩
          cases hn0
          exact ⟨ρ, L', W, x', c3, e3, hb.mono c.sim.bs, hloc3, hle, hu, K.known, hcall⟩
        · exact ih (fun e he => hl e (List.mem_cons_of_mem _ he)) h
      · exact ih (fun e he => hl e (List.mem_cons_of_mem _ he)) h
end Go.Eng
