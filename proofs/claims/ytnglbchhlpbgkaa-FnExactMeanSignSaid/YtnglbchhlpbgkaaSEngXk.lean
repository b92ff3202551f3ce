/- Part of the evaluator: Xg Xk. -/
import Derived.Test.YtnglbchhlpbgkaaSEngXe

/- What a call gives for words that are variables: found by a run, whatever surrounds it. -/
namespace Go.Eng
set_option linter.unusedSectionVars false
set_option linter.unusedSimpArgs false
set_option linter.unusedVariables false
open Go Go.RowKit

noncomputable section
/-- what an argument holds: a word; a slice of words -/
inductive PA where
  | lit (u : Nat)
  | row (ts : List Nat)
  | emp
/-- a result: a word; a sum of products -/
inductive PR where
  | lit (u : Nat)
  | poly (p q s d lo hi : Nat)
  | any
/-- a number, a truth, a text that is known, a variable -/
def tokW (t : Nat) : Bool := sel (isVar t) true (sel (litW t) true (sel (isStr t) (ltb t 340282366920938463463374607431768211456) false))
def tokL (ts : List Nat) : Bool := List.rec (motive := fun _ => Bool) true (fun t _ ih => sel (tokW t) ih false) ts
def matchP (H : Trie) (w : Nat) (a : PA) : Bool :=
  PA.rec (motive := fun _ => Bool) (fun u => sel (Nat.beq w u) (tokW u) false)
    (fun ts => sel (sel (Nat.beq (tagOf w) 4) (sel (Nat.beq (sLen (payOf w)) (lenN ts)) (sel (Nat.beq (sEs (payOf w)) 1) (sel (Nat.beq (lenN ts) 0) false (sel (Nat.beq (sBlk (payOf w)) 0) false true)) false) false) false)
      (match rdRange H (Nat.pred (sBlk (payOf w))) (sOff (payOf w)) (lenN ts) with | .some c' => sel (Nat.beq c' (listW ts)) (tokL ts) false | .none => false) false)
    (sel (Nat.beq w 14) true (sel (Nat.beq (tagOf w) 4) (sel (Nat.beq (sLen (payOf w)) 0) (sel (Nat.beq (sCap (payOf w)) 1) (sel (Nat.beq (sBlk (payOf w)) 0) false true) false) false) false)) a
def matchPL (H : Trie) (l : List PA) : List Nat → Bool :=
  List.rec (motive := fun _ => List Nat → Bool) (fun ws => match ws with | [] => true | _ => false)
    (fun a _ ih ws => match ws with | [] => false | w :: ws => sel (matchP H w a) (ih ws) false) l
def layP (l : List PA) : Trie → Nat → List Nat → Lay :=
  List.rec (motive := fun _ => Trie → Nat → List Nat → Lay) (fun H n ws => ⟨H, n, ws⟩)
    (fun a _ ih H n ws => PA.rec (motive := fun _ => Lay) (fun u => ih H n (ws ++ [u]))
      (fun ts => ih (hset H n (.cells (lenN ts) (listW ts) 0 0 0 0)) (Nat.succ n) (ws ++ [wS n 1 0 (lenN ts) 0])) (ih H n (ws ++ [14])) a) l
def okPA (l : List PA) : Bool := List.rec (motive := fun _ => Bool) true (fun a _ ih => PA.rec (motive := fun _ => Bool) (fun u => sel (tokW u) ih false) (fun ts => sel (sel (tokL ts) (sel (Nat.beq (lenN ts) 0) false (ltb (lenN ts) 1048576)) false) ih false) ih a) l
def runP (P : Program) (S : Sums) (fuel d f : Nat) (l : List PA) : OR := let y := layP l .nil 0 []; sel (sel (okPA l) (ltb y.n 1000) false) (funE P (callN P S fuel d) fuel f y.ws y.H y.n) (.bad 0)
def isPR (H : Trie) (w : Nat) (r : PR) : Bool :=
  PR.rec (motive := fun _ => Bool) (fun u => sel (Nat.beq w u) (litW u) false)
    (fun p q s d lo hi => sel (sel (Nat.beq (tagOf w) 7) (Nat.beq (xKind (payOf w)) 0) false)
      (match tget H (xNum (payOf w)) with
       | some (.poly p' q' s' d' lo' hi') => sel (sel (Nat.beq p' p) (sel (Nat.beq q' q) (sel (Nat.ble s' s) (sel (Nat.ble (Nat.mod d' 12) (Nat.mod d 12)) (Nat.ble (Nat.div d' 12) (Nat.div d 12)) false) false) false) false)
           (sel (sel (Nat.ble lo lo') (Nat.ble hi' hi) false) (sel (ltb lo 18446744073709551616) (ltb hi 18446744073709551616) false) false) false
       | _ => false) false) (isInt1 w) r
def isPRL (H : Trie) (l : List PR) : Nat → Bool := List.rec (motive := fun _ => Nat → Bool) (fun _ => true) (fun r _ ih c => sel (isPR H (getW c 0) r) (ih (Nat.shiftRight c 128)) false) l
/-- one result, or a tuple of some -/
def isP1 (one : Bool) (l : List PR) (r : OR) : Bool :=
  match r with
  | .bad _ => false
  | .ok v H _ => sel one (sel (ltb v 340282366920938463463374607431768211456) (sel (Nat.beq (lenN l) 1) (isPRL H l v) false) false)
      (sel (Nat.beq (tagOf v) 6) (match tget H (payOf v) with | some (.box 1 m c) => sel (Nat.beq m (lenN l)) (isPRL H l c) false | _ => false) false)
def putP (l : List PR) : Trie → Nat → List Nat → Lay :=
  List.rec (motive := fun _ => Trie → Nat → List Nat → Lay) (fun H n ws => ⟨H, n, ws⟩)
    (fun r _ ih H n ws => PR.rec (motive := fun _ => Lay) (fun u => ih H n (ws ++ [u]))
      (fun p q s d lo hi => ih (hset H n (.poly p q s d lo hi)) (Nat.succ n) (ws ++ [polyW n])) (ih H n (ws ++ [55])) r) l
abbrev MemoP := Nat × List PA × Bool × List PR
def memoP (l : List MemoP) : Sums := fun f args H n =>
  List.rec (motive := fun _ => SR) .no (fun e _ ih => sel (sel (Nat.beq e.1 f) (matchPL H e.2.1 args) false)
    (sel (ltb (putP e.2.2.2 H n []).n 16000) (.yes (finD e.2.2.1 (lenN e.2.2.2) (putP e.2.2.2 H n []))) ih) ih) l
end

section
variable {base n : Nat} {H : Trie} {ρ : Rho} {L : Look} {w : World}
theorem tok_holds {E : Env} {t : Nat} {v : Value} (hv : @VR E ρ L t v) (h : tokW t = true) : HoldsT E t v := by
  letI : Env := E
  unfold tokW at h
  rw [sel_eq] at h
  split at h
  · rename_i hvar
    obtain ⟨h1, h2, h3, h4, h5, h6, h7, h8⟩ := isVar_inv hvar
    obtain ⟨j, lo, hi, q1, q2, q3, q4, e1, e2⟩ := hv.var_inv h1
    subst e1; subst e2
    refine ⟨.var j lo hi q1 q2 q3 q4, ?_⟩
    rw [storable_iff, h1]
    refine ⟨by decide, by decide, by decide, ?_⟩
    rw [h6]
    show 16 * (1099511627776 * (1099511627776 * (2199023255552 + pvOf (wV j lo hi)) + vLo (payOf (wV j lo hi))) + vHi (payOf (wV j lo hi))) + 12 < _
    omega
  · rw [sel_eq] at h
    split at h
    · rename_i hl
      rw [litV_of hl hv]
      exact ⟨litV_vr hl, litW_storable hl⟩
    · rw [sel_eq] at h
      split at h
      · rename_i hs
        have hlt := (ltb_iff _ _).1 h
        obtain ⟨s, rfl, rfl⟩ := hv.str_inv hs
        refine ⟨.str s, ?_⟩
        rw [storable_iff]
        have h7 : tagOf (strW s) = 7 := by unfold strW; rw [tag_mk7]
        rw [h7]
        exact ⟨by decide, by decide, by decide, hlt⟩
      · cases h
theorem tokL_inv : ∀ {ts : List Nat}, tokL ts = true → ∀ i, i < ts.length → tokW (ts.getD i 0) = true
  | [], _, i, h => by simp at h
  | t :: ts, h, i, hi => by
    have e : tokL (t :: ts) = sel (tokW t) (tokL ts) false := rfl
    rw [e] at h
    obtain ⟨h1, h2⟩ := sel_and h
    cases i with
    | zero => exact h1
    | succ i => exact tokL_inv h2 i (by simpa using hi)
theorem tokW_lt {t : Nat} (h : tokW t = true) : t < 2 ^ 128 := by
  letI : Env := noEnv
  unfold tokW at h
  rw [sel_eq] at h
  split at h
  · rename_i hvar
    obtain ⟨h1, h2, h3, h4, h5, h6, h7, h8⟩ := isVar_inv hvar
    rw [h6]
    show 16 * (1099511627776 * (1099511627776 * (2199023255552 + pvOf t) + vLo (payOf t)) + vHi (payOf t)) + 12 < _
    omega
  · rw [sel_eq] at h
    split at h
    · rename_i hl
      exact storable_lt (litW_storable hl)
    · rw [sel_eq] at h
      split at h
      · exact (ltb_iff _ _).1 h
      · cases h
theorem tokL_slot : ∀ {ts : List Nat}, tokL ts = true → allSlot ts = true := fun {ts} h => by
  letI : Env := noEnv
  refine allSlot_of _ fun x hx => ?_
  obtain ⟨i, hi, rfl⟩ := List.mem_iff_getElem.1 hx
  have := tokL_inv h i hi
  rw [List.getD_eq_getElem?_getD, List.getElem?_eq_getElem hi] at this
  exact tokW_lt this

/-- what an argument is -/
def HoldsA (E : Env) (w : World) (a : PA) (v : Value) : Prop :=
  match a with
  | .lit u => HoldsT E u v
  | .row ts => 0 < ts.length ∧ ∃ rb d cp cs ty fz, v = .slice (some ⟨rb, d, none⟩) ts.length cp ∧ ts.length ≤ cp ∧ cp < 9223372036854775808 ∧ ts.length < 1048576 ∧ w.heap[rb]? = some (.cells cs ty fz) ∧ d + cp ≤ cs.size ∧
      ∀ i, i < ts.length → ∃ u, cs[d + i]? = some u ∧ HoldsT E (ts.getD i 0) u
  | .emp => ∃ a, v = .slice (some a) 0 0
inductive HoldsAL (E : Env) (w : World) : List PA → List Value → Prop
  | nil : HoldsAL E w [] []
  | cons (a : PA) (v : Value) (l : List PA) (vs : List Value) : HoldsA E w a v → HoldsAL E w l vs → HoldsAL E w (a :: l) (v :: vs)
theorem VR.emp_inv {E : Env} {ρ : Rho} {L : Look} {x : Nat} {v : Value} (h : @VR E ρ L x v) (hx : x = 14) : ∃ a, v = .slice (some a) 0 0 := by
  letI : Env := E
  have ht : tagOf x = 14 := by rw [hx]; rfl
  cases h with
  | sl0 a => exact ⟨a, rfl⟩
  | int p hp => rw [tag_wI] at ht; cases ht
  | bool b => rw [tag_wB] at ht; cases ht
  | ptr => rw [tag_wP] at ht; cases ht
  | slice => rw [tag_wS] at ht; cases ht
  | agg => rw [tag_mk6] at ht; cases ht
  | tup => rw [tag_mk6] at ht; cases ht
  | clo => rw [tag_mk10] at ht; cases ht
  | iface => rw [tag_mk10] at ht; cases ht
  | fn => rw [tag_mk8] at ht; cases ht
  | yld => rw [tag_mk13] at ht; cases ht
  | var => rw [tag_wV] at ht; cases ht
  | opq => rw [tag_wO] at ht; cases ht
  | btw => rw [tag_wG] at ht; cases ht
  | u64 => rw [tag_mk5] at ht; cases ht
  | map b => unfold mapW at ht; rw [tag_mk7] at ht; cases ht
  | str s => unfold strW at ht; rw [tag_mk7] at ht; cases ht
  | ostr => unfold ostrW at ht; rw [tag_mk7] at ht; cases ht
  | poly => unfold polyW at ht; rw [tag_mk7] at ht; cases ht
  | _ => cases ht
theorem matchP_holds {E : Env} (c : @Ctx E base H n ρ L w) {x : Nat} {v : Value} (hx : @VR E ρ L x v) (a : PA) (h : matchP H x a = true) : HoldsA E w a v := by
  letI : Env := E
  cases a with
  | lit u =>
    have e : matchP H x (.lit u) = sel (Nat.beq x u) (tokW u) false := rfl
    rw [e, sel_beq] at h
    split at h
    · rename_i h1
      subst h1
      exact tok_holds hx h
    · cases h
  | row ts =>
    have e : matchP H x (.row ts) = sel (sel (Nat.beq (tagOf x) 4) (sel (Nat.beq (sLen (payOf x)) (lenN ts)) (sel (Nat.beq (sEs (payOf x)) 1) (sel (Nat.beq (lenN ts) 0) false (sel (Nat.beq (sBlk (payOf x)) 0) false true)) false) false) false)
      (match rdRange H (Nat.pred (sBlk (payOf x))) (sOff (payOf x)) (lenN ts) with | .some c' => sel (Nat.beq c' (listW ts)) (tokL ts) false | .none => false) false := rfl
    rw [e, lenN_eq] at h
    obtain ⟨h1, hq⟩ := sel_and h
    clear h
    rw [sel_beq] at h1
    split at h1
    rotate_left
    · cases h1
    rename_i h4
    rw [sel_beq] at h1
    split at h1
    rotate_left
    · cases h1
    rename_i hlen
    rw [sel_beq] at h1
    split at h1
    rotate_left
    · cases h1
    rename_i hes
    rw [sel_beq] at h1
    split at h1
    · cases h1
    rename_i hm0
    rw [sel_beq] at h1
    split at h1
    · cases h1
    rename_i hbn
    split at hq
    rotate_left
    · cases hq
    rename_i c' hrd
    rw [sel_beq] at hq
    split at hq
    rotate_left
    · cases hq
    rename_i hcc
    subst hcc
    rcases hx.slice_inv h4 with ⟨rfl, _⟩ | ⟨b, es, off, m', k, rb, d, sz, cp, a, hb, he, ho, hm, hk, hmc, hbig, hk1, hcp, rfl, rfl⟩
    · exact absurd s_nil.2.2.2.2.2 hbn
    obtain ⟨_, q1, q2, q3, q4, q5⟩ := s_parts b es off m' k he ho hm hk
    rw [q5, q3, Nat.pred_succ] at hrd
    rw [q1] at hlen
    rw [q4] at hes
    subst hes
    subst hlen
    obtain ⟨vs, ro⟩ := rdRange_sound c hb hrd
    have hcp2 := hcp.resolve_left (by omega)
    have hblk : ∃ cs ty fz, w.heap[rb]? = some (.cells cs ty fz) ∧ d + sz ≤ cs.size := by
      unfold rdRange at hrd
      split at hrd
      · rename_i nb cb g keep since mx hget
        rw [sel_ble] at hrd
        split at hrd
        · rw [sel_eq] at hrd
          split at hrd
          · rename_i hval
            have hL := c.agree.2 _ _ hget
            have hl := validE_iff c.agree hL hval
            obtain ⟨kk, hk2, hbr⟩ := c.sim.blk b _ hb
            rw [hL] at hk2; injection hk2 with hk2; subst hk2
            obtain ⟨cs, ty, fz, g1, g2, _⟩ := hbr hl
            exact ⟨cs, ty, fz, g1, g2⟩
          · cases hrd
        · cases hrd
      · cases hrd
    obtain ⟨cs, ty, fz, g1, g2⟩ := hblk
    refine ⟨by omega, rb, d + off, cp, cs, ty, fz, by rw [hcp2.1], hmc, hbig, hm, g1, by have := hcp2.2; omega, fun i hi => ?_⟩
    have hil : i < vs.length := by rw [ro.len]; exact hi
    obtain ⟨r1, _⟩ := ro.word i vs[i] (List.getElem?_eq_getElem hil)
    have r2 := ro.cell i vs[i] (List.getElem?_eq_getElem hil)
    rw [addr_add, cell_of_heap g1] at r2
    rw [getW_listW _ (tokL_slot hq)] at r1
    exact ⟨_, r2, tok_holds r1 (tokL_inv hq i hi)⟩
  | emp =>
    have e : matchP H x .emp = sel (Nat.beq x 14) true (sel (Nat.beq (tagOf x) 4) (sel (Nat.beq (sLen (payOf x)) 0) (sel (Nat.beq (sCap (payOf x)) 1) (sel (Nat.beq (sBlk (payOf x)) 0) false true) false) false) false) := rfl
    rw [e, sel_beq] at h
    split at h
    · rename_i h14
      exact hx.emp_inv h14
    · obtain ⟨h4, h⟩ := sel_and h
      obtain ⟨h0, h⟩ := sel_and h
      obtain ⟨h1, h⟩ := sel_and h
      have h4 := Nat.eq_of_beq_eq_true h4
      have g0 := Nat.eq_of_beq_eq_true h0
      have g1 := Nat.eq_of_beq_eq_true h1
      clear h0 h1
      rw [sel_beq] at h
      split at h
      · cases h
      rename_i hb0
      rcases hx.slice_inv h4 with ⟨rfl, _⟩ | ⟨b, es, off, m', k, rb, d, sz, cp, a, hb, he, ho, hm, hk, hmc, hbig, hk1, hcp, rfl, rfl⟩
      · exact absurd s_nil.2.2.2.2.2 hb0
      obtain ⟨_, q1, q2, q3, q4, q5⟩ := s_parts b es off m' k he ho hm hk
      rw [q1] at g0
      rw [q2] at g1
      subst g0; subst g1
      have : cp = 0 := by
        rcases hk1 with h | h
        · cases h
        · omega
      subst this
      exact ⟨a, rfl⟩

theorem matchPL_holds {E : Env} (c : @Ctx E base H n ρ L w) : ∀ (l : List PA) (ws : List Nat) (vs : List Value), @AR E ρ L ws vs → matchPL H l ws = true → HoldsAL E w l vs
  | [], ws, vs, ha, h => by
    cases ha with
    | nil => exact .nil
    | cons => cases h
  | a :: l, ws, vs, ha, h => by
    cases ha with
    | nil => cases h
    | cons x v xs vs' hx ha' =>
      have e : matchPL H (a :: l) (x :: xs) = sel (matchP H x a) (matchPL H l xs) false := rfl
      rw [e] at h
      obtain ⟨h1, h2⟩ := sel_and h
      exact .cons _ _ _ _ (matchP_holds c hx a h1) (matchPL_holds c l xs vs' ha' h2)

theorem layPB_sound {E : Env} (hkb : ∀ (rb : Nat) cs ty fz, w.heap[rb]? = some (.cells cs ty fz) → rb < base ∨ ∃ o, E.kept rb = some o) : ∀ (l : List PA) (H : Trie) (n : Nat) (ws : List Nat), n ≤ (layP l H n ws).n ∧
    ∀ (ρ : Rho) (L : Look) (vs us : List Value), @Ctx E base H n ρ L w → @AR E ρ L ws us → HoldsAL E w l vs → (layP l H n ws).n < 1000 → okPA l = true →
      ∃ ρ' L', @Ctx E base (layP l H n ws).H (layP l H n ws).n ρ' L' w ∧ @AR E ρ' L' (layP l H n ws).ws (us ++ vs) ∧ Ext ρ L ρ' L'
  | [], H, n, ws => ⟨Nat.le_refl _, fun ρ L vs us c ha hh _ _ => by cases hh; exact ⟨ρ, L, c, by rw [List.append_nil]; exact ha, .refl _ _⟩⟩
  | .lit u :: l, H, n, ws => by
    letI : Env := E
    obtain ⟨h1, h2⟩ := layPB_sound (E := E) hkb l H n (ws ++ [u])
    refine ⟨h1, fun ρ L vs us c ha hh hlt hok => ?_⟩
    cases hh with
    | cons _ v _ vs' hv hl =>
      have hok : sel (tokW u) (okPA l) false = true := hok
      obtain ⟨_, ok2⟩ := sel_and hok
      have hv : HoldsT E u v := hv
      obtain ⟨ρ', L', c', ha', e'⟩ := h2 ρ L vs' (us ++ [v]) c (ha.app (.cons _ _ _ _ (hv.vr ρ L) .nil)) hl hlt ok2
      have ea : us ++ [v] ++ vs' = us ++ v :: vs' := by simp
      rw [ea] at ha'
      exact ⟨ρ', L', c', ha', e'⟩
  | .emp :: l, H, n, ws => by
    letI : Env := E
    obtain ⟨h1, h2⟩ := layPB_sound (E := E) hkb l H n (ws ++ [14])
    refine ⟨h1, fun ρ L vs us c ha hh hlt hok => ?_⟩
    cases hh with
    | cons _ v _ vs' hv hl =>
      have hok : okPA l = true := hok
      obtain ⟨a, rfl⟩ := hv
      obtain ⟨ρ', L', c', ha', e'⟩ := h2 ρ L vs' (us ++ [.slice (some a) 0 0]) c (ha.app (.cons _ _ _ _ (.sl0 a) .nil)) hl hlt hok
      have ea : us ++ [Value.slice (some a) 0 0] ++ vs' = us ++ Value.slice (some a) 0 0 :: vs' := by simp
      rw [ea] at ha'
      exact ⟨ρ', L', c', ha', e'⟩
  | .row ts :: l, H, n, ws => by
    letI : Env := E
    obtain ⟨h1, h2⟩ := layPB_sound (E := E) hkb l (hset H n (.cells (lenN ts) (listW ts) 0 0 0 0)) (Nat.succ n) (ws ++ [wS n 1 0 (lenN ts) 0])
    refine ⟨Nat.le_trans (Nat.le_succ n) h1, fun ρ L vs us c ha hh hlt hok => ?_⟩
    cases hh with
    | cons _ v _ vs' hv hl =>
      have hok : sel (sel (tokL ts) (sel (Nat.beq (lenN ts) 0) false (ltb (lenN ts) 1048576)) false) (okPA l) false = true := hok
      obtain ⟨ok1, ok2⟩ := sel_and hok
      obtain ⟨ok3, _⟩ := sel_and ok1
      obtain ⟨h0, rb, d, cp, cs, ty, fz, rfl, g1, g2, g3, g4, g5, g6⟩ := hv
      have hn : n < 16384 := by
        have : (layP (.row ts :: l) H n ws).n = (layP l (hset H n (.cells (lenN ts) (listW ts) 0 0 0 0)) (Nat.succ n) (ws ++ [wS n 1 0 (lenN ts) 0])).n := rfl
        rw [this] at hlt
        have e : Nat.succ n = n + 1 := rfl
        omega
      have hrb : rb < w.heap.size := (Array.getElem?_eq_some_iff.1 g4).1
      have c1 := c.argK (nb := ts.length) (ch := listW ts) (sz := cp) (d := d) hn g4 (hkb _ _ _ _ g4) g5 g1 (fun i hi => by
        obtain ⟨u, u1, u2⟩ := g6 i hi
        rw [getW_listW _ (tokL_slot ok3)]
        exact ⟨u, u1, u2.vr ρ L, u2.2⟩)
      have e1 : Ext ρ L (updR ρ n (rb, d, cp)) (upd L n (.cells ts.length (listW ts) 0 0 0 0)) := .fresh c.fresh _ _
      have v1 : VR (updR ρ n (rb, d, cp)) (upd L n (.cells ts.length (listW ts) 0 0 0 0)) (wS n 1 0 ts.length 0) (.slice (some ⟨rb, d, none⟩) ts.length cp) :=
        .slice n 1 0 ts.length 0 rb d cp cp _ (updR_same _ _ _) (by omega) (by omega) g3 (by omega) g1 g2 (.inl rfl) (.inr ⟨by simp, by omega⟩)
      have eL : layP (.row ts :: l) H n ws = layP l (hset H n (.cells ts.length (listW ts) 0 0 0 0)) (Nat.succ n) (ws ++ [wS n 1 0 ts.length 0]) := by
        have : layP (.row ts :: l) H n ws = layP l (hset H n (.cells (lenN ts) (listW ts) 0 0 0 0)) (Nat.succ n) (ws ++ [wS n 1 0 (lenN ts) 0]) := rfl
        rw [this, lenN_eq]
      rw [lenN_eq] at h2
      rw [eL] at hlt ⊢
      obtain ⟨ρ', L', c', ha', e'⟩ := h2 _ _ vs' (us ++ [.slice (some ⟨rb, d, none⟩) ts.length cp]) c1 ((ha.mono e1).app (.cons _ _ _ _ v1 .nil)) hl hlt ok2
      have ea : us ++ [Value.slice (some ⟨rb, d, none⟩) ts.length cp] ++ vs' = us ++ Value.slice (some ⟨rb, d, none⟩) ts.length cp :: vs' := by simp
      rw [ea] at ha'
      exact ⟨ρ', L', c', ha', e1.trans e'⟩
theorem layP_sound {E : Env} (l : List PA) (H : Trie) (n : Nat) (ws : List Nat) : n ≤ (layP l H n ws).n ∧
    ∀ (ρ : Rho) (L : Look) (vs us : List Value), @Ctx E w.heap.size H n ρ L w → @AR E ρ L ws us → HoldsAL E w l vs → (layP l H n ws).n < 1000 → okPA l = true →
      ∃ ρ' L', @Ctx E w.heap.size (layP l H n ws).H (layP l H n ws).n ρ' L' w ∧ @AR E ρ' L' (layP l H n ws).ws (us ++ vs) := by
  obtain ⟨h1, h2⟩ := layPB_sound (E := E) (w := w) (base := w.heap.size) (fun rb cs ty fz h => .inl (Array.getElem?_eq_some_iff.1 h).1) l H n ws
  exact ⟨h1, fun ρ L vs us c ha hh h3 h4 => let ⟨ρ', L', c', ha', _⟩ := h2 ρ L vs us c ha hh h3 h4; ⟨ρ', L', c', ha'⟩⟩
end

/-- what a result is -/
def HoldsR1 (E : Env) (r : PR) (x : Value) : Prop :=
  match r with
  | .lit u => litW u = true ∧ x = litV u
  | .poly p q s d lo hi => ∃ z, x = .int .i64 z ∧ @PolyZ E p q s d lo hi z
  | .any => ∃ z, x = .int .i64 z ∧ -9223372036854775808 ≤ z ∧ z < 9223372036854775808
inductive HoldsRL (E : Env) : List PR → List Value → Prop
  | nil : HoldsRL E [] []
  | cons (r : PR) (x : Value) (l : List PR) (xs : List Value) : HoldsR1 E r x → HoldsRL E l xs → HoldsRL E (r :: l) (x :: xs)
theorem HoldsRL.len {E : Env} {l : List PR} {xs : List Value} (h : HoldsRL E l xs) : xs.length = l.length := by
  induction h with
  | nil => rfl
  | cons _ _ _ _ _ _ ih => simp [ih]
structure MemoPK (E : Env) (P : Program) (e : MemoP) : Prop where
  known : Known P e.1
  calls : ∀ (w : World) (vs : Array Value), HoldsAL E w e.2.1 vs.toList → Calls P e.1 vs w fun r w' => ∃ x xs, r = .returned x ∧ HoldsRL E e.2.2.2 xs ∧ (e.2.2.1 = true → xs = [x]) ∧ (e.2.2.1 = false → x = .tuple xs.toArray) ∧ Below w.heap.size w w'

section
variable {base n : Nat} {H : Trie} {ρ : Rho} {L : Look} {w : World}
theorem isPR_inv {E : Env} (c : @Ctx E base H n ρ L w) {x : Nat} {v : Value} (hx : @VR E ρ L x v) {r : PR} (h : isPR H x r = true) : HoldsR1 E r v := by
  letI : Env := E
  cases r with
  | lit u =>
    have e : isPR H x (.lit u) = sel (Nat.beq x u) (litW u) false := rfl
    rw [e, sel_beq] at h
    split at h
    · rename_i h1
      subst h1
      exact ⟨h, litV_of h hx⟩
    · cases h
  | poly p q s d lo hi =>
    have e : isPR H x (.poly p q s d lo hi) = sel (sel (Nat.beq (tagOf x) 7) (Nat.beq (xKind (payOf x)) 0) false)
      (match tget H (xNum (payOf x)) with
       | some (.poly p' q' s' d' lo' hi') => sel (sel (Nat.beq p' p) (sel (Nat.beq q' q) (sel (Nat.ble s' s) (sel (Nat.ble (Nat.mod d' 12) (Nat.mod d 12)) (Nat.ble (Nat.div d' 12) (Nat.div d 12)) false) false) false) false)
           (sel (sel (Nat.ble lo lo') (Nat.ble hi' hi) false) (sel (ltb lo 18446744073709551616) (ltb hi 18446744073709551616) false) false) false
       | _ => false) false := rfl
    rw [e] at h
    obtain ⟨h1, h⟩ := sel_and h
    rw [sel_beq] at h1
    split at h1
    rotate_left
    · cases h1
    rename_i h7
    have hk := Nat.eq_of_beq_eq_true h1
    split at h
    rotate_left
    · cases h
    rename_i p' q' s' d' lo' hi' hget
    obtain ⟨p2, q2, s2, d2, lo2, hi2, z, hL2, hz, rfl⟩ := hx.poly_inv h7 hk
    rw [c.agree.2 _ _ hget] at hL2
    injection hL2 with hL2
    injection hL2 with a1 a2 a3 a4 a5 a6
    subst a1; subst a2; subst a3; subst a4; subst a5; subst a6
    obtain ⟨b1, b2⟩ := sel_and h
    obtain ⟨b3, b4⟩ := sel_and b1
    obtain ⟨b5, b6⟩ := sel_and b4
    obtain ⟨b7, b8⟩ := sel_and b6
    obtain ⟨b9, b10⟩ := sel_and b8
    obtain ⟨b11, b12⟩ := sel_and b2
    obtain ⟨b13, b14⟩ := sel_and b11
    obtain ⟨b15, b16⟩ := sel_and b12
    have b3 := Nat.eq_of_beq_eq_true b3
    have b5 := Nat.eq_of_beq_eq_true b5
    have b7 := Nat.le_of_ble_eq_true b7
    have b9 : d' % 12 ≤ d % 12 := Nat.le_of_ble_eq_true b9
    have b10 : d' / 12 ≤ d / 12 := Nat.le_of_ble_eq_true b10
    have b13 := Nat.le_of_ble_eq_true b13
    have b14 := Nat.le_of_ble_eq_true b14
    have b15 := (ltb_iff _ _).1 b15
    have b16 := (ltb_iff _ _).1 b16
    subst b3; subst b5
    obtain ⟨z1, z2, z3, z4, u, z5, z6⟩ := hz
    obtain ⟨l, y1, y2, y3, y4⟩ := z5.ex
    exact ⟨z, rfl, b15, b16, by omega, by omega, u, ⟨l, y1, by omega, fun t ht => by have := y3 t ht; omega, y4⟩, z6⟩
  | any => exact int1_inv hx h
theorem isPRL_inv {E : Env} (c : @Ctx E base H n ρ L w) : ∀ (l : List PR) (ch : Nat) (vs : List Value), vs.length = l.length → (∀ i (h : i < vs.length), @VR E ρ L (getW ch i) vs[i]) → isPRL H l ch = true → HoldsRL E l vs
  | [], ch, vs, hl, _, _ => by
    have : vs = [] := List.eq_nil_of_length_eq_zero (by simpa using hl)
    subst this; exact .nil
  | r :: l, ch, [], hl, _, _ => by simp at hl
  | r :: l, ch, v :: vs, hl, hv, h => by
    have e : isPRL H (r :: l) ch = sel (isPR H (getW ch 0) r) (isPRL H l (Nat.shiftRight ch 128)) false := rfl
    rw [e] at h
    obtain ⟨h1, h2⟩ := sel_and h
    refine .cons _ _ _ _ (isPR_inv c (hv 0 (by simp)) h1) (isPRL_inv c l _ vs (by simpa using hl) (fun i hi => ?_) h2)
    letI : Env := E
    rw [getW_shift]
    have := hv (i + 1) (by simpa using hi)
    simpa using this
/-- other blocks kept -/
@[reducible] def setK (E : Env) (K : Nat → Option Obj) : Env where
  int := E.int
  lst := E.lst
  wf := E.wf
  len := E.len
  byThree := E.byThree
  notThree := E.notThree
  txt := E.txt
  txtNe := E.txtNe
  kept := K
theorem PolyZ.setK {E : Env} {K : Nat → Option Obj} {p q s d lo hi : Nat} {z : Int} (h : @PolyZ E p q s d lo hi z) : @PolyZ (Eng.setK E K) p q s d lo hi z := by
  obtain ⟨a, b, c, d, e⟩ := h
  exact @PolyZ.mk (Eng.setK E K) _ _ _ _ _ _ _ a b c d e
theorem PolyZ.unset {E : Env} {K : Nat → Option Obj} {p q s d lo hi : Nat} {z : Int} (h : @PolyZ (Eng.setK E K) p q s d lo hi z) : @PolyZ E p q s d lo hi z := by
  obtain ⟨a, b, c, d, e⟩ := h
  exact @PolyZ.mk E _ _ _ _ _ _ _ a b c d e
theorem VR.setK {E : Env} {K : Nat → Option Obj} {ρ : Rho} {L : Look} {w : Nat} {v : Value} (h : @VR E ρ L w v) : @VR (Eng.setK E K) ρ L w v := by
  letI : Env := Eng.setK E K
  induction h with
  | undef => exact .undef
  | int p h => exact .int p h
  | bool b => exact .bool b
  | ptrNil => exact .ptrNil
  | ptr b o rb d sz h h1 => exact .ptr b o rb d sz h h1
  | sliceNil => exact .sliceNil
  | slice b e' o n k rb d sz c a h h1 h2 h3 h4 h5 h55 h6 h7 => exact .slice b e' o n k rb d sz c a h h1 h2 h3 h4 h5 h55 h6 h7
  | agg id m c vs h h1 _ h2 h3 ih => exact .agg id m c vs h h1 ih h2 h3
  | mapNil => exact .mapNil
  | map b rb d sz h => exact .map b rb d sz h
  | str s => exact .str s
  | ostr j lo hi h1 h2 h3 h4 h5 => exact .ostr j lo hi h1 h2 h3 h4 h5
  | poly id p q s d lo hi z h h1 => exact .poly id p q s d lo hi z h h1.setK
  | tup id m c vs h h1 _ ih => exact .tup id m c vs h h1 ih
  | clo id m c f vs h h1 h2 _ ih => exact .clo id m c f vs h h1 h2 ih
  | iface id t c v h _ h2 ih => exact .iface id t c v h ih h2
  | fn f => exact .fn f
  | yld l rb d sz h => exact .yld l rb d sz h
  | nilFunc => exact .nilFunc
  | nilIface => exact .nilIface
  | sl0 a => exact .sl0 a
  | var j lo hi h1 h2 h3 h4 => exact .var j lo hi h1 h2 h3 h4
  | anyI z h1 h2 => exact .anyI z h1 h2
  | btw t u z h1 h2 h3 => exact .btw t u z h1 h2 h3
  | u64 p h => exact .u64 p h
  | opq b j lo hi rb d sz c h h1 h2 h3 h4 h5 h6 h7 h8 => exact .opq b j lo hi rb d sz c h h1 h2 h3 h4 h5 h6 h7 h8
theorem HoldsT.setK {E : Env} {K : Nat → Option Obj} {t : Nat} {v : Value} (h : HoldsT E t v) : HoldsT (Eng.setK E K) t v := ⟨h.1.setK, h.2⟩
theorem HoldsA.setK {E : Env} {K : Nat → Option Obj} {w : World} {a : PA} {v : Value} (h : HoldsA E w a v) : HoldsA (Eng.setK E K) w a v := by
  cases a with
  | lit u => exact HoldsT.setK h
  | row ts =>
    obtain ⟨h0, rb, d, cp, cs, ty, fz, h1, h2, h3, h4, h5, h6, h7⟩ := h
    exact ⟨h0, rb, d, cp, cs, ty, fz, h1, h2, h3, h4, h5, h6, fun i hi => let ⟨u, a, b⟩ := h7 i hi; ⟨u, a, b.setK⟩⟩
  | emp => exact h
theorem HoldsAL.setK {E : Env} {K : Nat → Option Obj} {w : World} {l : List PA} {vs : List Value} (h : HoldsAL E w l vs) : HoldsAL (Eng.setK E K) w l vs := by
  induction h with
  | nil => exact .nil
  | cons a v l vs h _ ih => exact .cons a v l vs h.setK ih
theorem HoldsR1.unset {E : Env} {K : Nat → Option Obj} {r : PR} {x : Value} (h : HoldsR1 (Eng.setK E K) r x) : HoldsR1 E r x := by
  cases r with
  | lit u => exact h
  | poly p q s d lo hi =>
    obtain ⟨z, h1, h2⟩ := h
    exact ⟨z, h1, h2.unset⟩
  | any => exact h
theorem HoldsR1.setK {E : Env} {K : Nat → Option Obj} {r : PR} {x : Value} (h : HoldsR1 E r x) : HoldsR1 (Eng.setK E K) r x := by
  cases r with
  | lit u => exact h
  | poly p q s d lo hi =>
    obtain ⟨z, h1, h2⟩ := h
    exact ⟨z, h1, h2.setK⟩
  | any => exact h
theorem HoldsRL.unset {E : Env} {K : Nat → Option Obj} {l : List PR} {xs : List Value} (h : HoldsRL (Eng.setK E K) l xs) : HoldsRL E l xs := by
  induction h with
  | nil => exact .nil
  | cons r x l xs h _ ih => exact .cons r x l xs h.unset ih
/-- ██ A result found by a run. -/
theorem memoP_of {P : Program} {S : Sums} (hS : Always P S) {fuel d f : Nat} {l : List PA} {one : Bool} {rs : List PR} (h : isP1 one rs (runP P S fuel d f l) = true) (E : Env) : MemoPK E P (f, l, one, rs) := by
  letI : Env := setK E fun _ => none
  unfold runP at h
  simp only at h
  cases hg : sel (okPA l) (ltb (layP l .nil 0 []).n 1000) false with
  | false => rw [hg] at h; cases h
  | true =>
    rw [hg, sel_true] at h
    obtain ⟨hok, hlt⟩ := sel_and hg
    have hlt := (ltb_iff _ _).1 hlt
    cases hr : funE P (callN P S fuel d) fuel f (layP l .nil 0 []).ws (layP l .nil 0 []).H (layP l .nil 0 []).n with
    | bad q => rw [hr] at h; cases h
    | ok v' H' n' =>
      rw [hr] at h
      refine ⟨known_of hr, fun w vs hh cs => ?_⟩
      obtain ⟨_, hL⟩ := layP_sound (E := setK E fun _ => none) (w := w) l .nil 0 []
      obtain ⟨ρ', L', c, ha⟩ := hL _ _ vs.toList [] (Ctx.start w) .nil hh.setK hlt hok
      obtain ⟨ρ2, L2, w', x, c2, _, hb, _, _, hx, _, hc⟩ := funE_sound (callN_sound P (hS (setK E fun _ => none)) fuel d) cs c (by simpa using ha) hr
      obtain ⟨e, W, fr, ⟨h1, h2⟩, h3⟩ := hc
      subst h2
      refine ⟨e, W, fr, ?_, h3⟩
      have h : sel one (sel (ltb v' 340282366920938463463374607431768211456) (sel (Nat.beq (lenN rs) 1) (isPRL H' rs v') false) false)
        (sel (Nat.beq (tagOf v') 6) (match tget H' (payOf v') with | some (.box 1 m c) => sel (Nat.beq m (lenN rs)) (isPRL H' rs c) false | _ => false) false) = true := h
      cases one with
      | true =>
        rw [sel_true] at h
        obtain ⟨a1, a2⟩ := sel_and h
        obtain ⟨a2, a3⟩ := sel_and a2
        have a1 := (ltb_iff _ _).1 a1
        have a2 := Nat.eq_of_beq_eq_true a2
        rw [lenN_eq] at a2
        have e0 : getW v' 0 = v' := by rw [getW_eq]; simpa using a1
        exact ⟨x, [x], h1, HoldsRL.unset <| isPRL_inv c2 rs v' [x] (by simp [a2]) (fun i hi => by
          have : i = 0 := by simpa using hi
          subst this
          rw [e0]; exact hx) a3, fun _ => rfl, fun hh => (by cases hh), hb⟩
      | false =>
        rw [sel_false] at h
        obtain ⟨a1, a2⟩ := sel_and h
        have h6 := Nat.eq_of_beq_eq_true a1
        split at a2
        rotate_left
        · cases a2
        rename_i m ch hget
        obtain ⟨a3, a4⟩ := sel_and a2
        have a3 := Nat.eq_of_beq_eq_true a3
        rw [lenN_eq] at a3
        obtain ⟨id, kd, m', cc, us, hw, hp, hL2, hk, hs, hcells⟩ := hx.box_inv h6
        have hL3 := c2.agree.2 _ _ hget
        rw [hp, hL2] at hL3
        injection hL3 with hL3
        injection hL3 with q1 q2 q3
        subst q1; subst q2; subst q3
        have hxt : x = .tuple us := by
          rcases hk with ⟨hk, _⟩ | ⟨_, hk⟩
          · omega
          · exact hk
        exact ⟨x, us.toList, h1, HoldsRL.unset <| isPRL_inv c2 rs cc us.toList (by simpa using hs.trans a3) (fun i hi => by
          have := hcells i (by simpa using hi)
          simpa using this) a4, fun hh => (by cases hh), fun _ => by rw [hxt], hb⟩

theorem putP_le : ∀ (l : List PR) (H : Trie) (n : Nat) (ws : List Nat), n ≤ (putP l H n ws).n
  | [], H, n, ws => Nat.le_refl _
  | .lit u :: l, H, n, ws => putP_le l H n (ws ++ [u])
  | .poly p q s d lo hi :: l, H, n, ws => Nat.le_trans (Nat.le_succ n) (putP_le l _ _ _)
  | .any :: l, H, n, ws => putP_le l H n (ws ++ [55])
theorem putP_sound {E : Env} : ∀ (l : List PR) (xs : List Value) (H : Trie) (n : Nat) (ws : List Nat) (us : List Value) (ρ : Rho) (L : Look), @Ctx E base H n ρ L w → HoldsRL E l xs → (putP l H n ws).n < 16384 →
    @AR E ρ L ws us → (∀ x ∈ ws, x < 2 ^ 128) →
    ∃ L', @Ctx E base (putP l H n ws).H (putP l H n ws).n ρ L' w ∧ Ext ρ L ρ L' ∧ @AR E ρ L' (putP l H n ws).ws (us ++ xs) ∧ (∀ x ∈ (putP l H n ws).ws, x < 2 ^ 128) ∧ Loc H n ρ L ρ L'
  | [], xs, H, n, ws, us, ρ, L, c, hh, hlt, ha, hst => by
    cases hh
    exact ⟨L, c, .refl _ _, by rw [List.append_nil]; exact ha, hst, .refl _ _ _ _⟩
  | .lit u :: l, xs, H, n, ws, us, ρ, L, c, hh, hlt, ha, hst => by
    letI : Env := E
    cases hh with
    | cons _ x _ xs' h1 h2 =>
      obtain ⟨hl, rfl⟩ : litW u = true ∧ x = litV u := h1
      obtain ⟨L', c', e', ha', hst', hloc⟩ := putP_sound l xs' H n (ws ++ [u]) (us ++ [litV u]) ρ L c h2 hlt (ha.app (.cons _ _ _ _ (litV_vr hl) .nil)) (fun y hy => by
        rcases List.mem_append.1 hy with hy | hy
        · exact hst y hy
        · simp at hy; subst hy; exact storable_lt (litW_storable hl))
      have ea : us ++ [litV u] ++ xs' = us ++ litV u :: xs' := by simp
      rw [ea] at ha'
      exact ⟨L', c', e', ha', hst', hloc⟩
  | .any :: l, xs, H, n, ws, us, ρ, L, c, hh, hlt, ha, hst => by
    letI : Env := E
    cases hh with
    | cons _ x _ xs' h1 h2 =>
      obtain ⟨z, rfl, z1, z2⟩ : ∃ z, x = .int .i64 z ∧ -9223372036854775808 ≤ z ∧ z < 9223372036854775808 := h1
      obtain ⟨L', c', e', ha', hst', hloc⟩ := putP_sound l xs' H n (ws ++ [55]) (us ++ [.int .i64 z]) ρ L c h2 hlt (ha.app (.cons _ _ _ _ (.anyI z z1 z2) .nil)) (fun y hy => by
        rcases List.mem_append.1 hy with hy | hy
        · exact hst y hy
        · simp at hy; subst hy; decide)
      have ea : us ++ [Value.int .i64 z] ++ xs' = us ++ Value.int .i64 z :: xs' := by simp
      rw [ea] at ha'
      exact ⟨L', c', e', ha', hst', hloc⟩
  | .poly p q s d lo hi :: l, xs, H, n, ws, us, ρ, L, c, hh, hlt, ha, hst => by
    letI : Env := E
    cases hh with
    | cons _ x _ xs' h1 h2 =>
      obtain ⟨z, rfl, hz⟩ : ∃ z, x = .int .i64 z ∧ @PolyZ E p q s d lo hi z := h1
      have hle := putP_le l (hset H n (.poly p q s d lo hi)) (Nat.succ n) (ws ++ [polyW n])
      have hlt' : (putP l (hset H n (.poly p q s d lo hi)) (Nat.succ n) (ws ++ [polyW n])).n < 16384 := hlt
      have es : Nat.succ n = n + 1 := rfl
      have hn : n < 16384 := by omega
      have c1 : Ctx base (hset H n (.poly p q s d lo hi)) (Nat.succ n) ρ (upd L n (.poly p q s d lo hi)) w := ⟨c.sim.boxG c.fresh (fun _ => ⟨z, hz⟩), c.agree.hset hn _, c.fresh.updL _⟩
      have e1 : Ext ρ L ρ (upd L n (.poly p q s d lo hi)) := .freshL c.fresh _
      obtain ⟨L', c', e', ha', hst', hloc⟩ := putP_sound l xs' (hset H n (.poly p q s d lo hi)) (Nat.succ n) (ws ++ [polyW n]) (us ++ [.int .i64 z]) ρ _ c1 h2 hlt' ((ha.mono e1).app (.cons _ _ _ _ (.poly n p q s d lo hi z (upd_same _ _ _) hz) .nil)) (fun y hy => by
        rcases List.mem_append.1 hy with hy | hy
        · exact hst y hy
        · simp at hy; subst hy
          show 16 * (16 + 4 * n) + 7 < _
          omega)
      have ea : us ++ [Value.int .i64 z] ++ xs' = us ++ Value.int .i64 z :: xs' := by simp
      rw [ea] at ha'
      exact ⟨L', c', e1.trans e', ha', hst', Loc.trans (H1 := H) (.freshL _) (Nat.le_succ _) hloc.any⟩
end

theorem memoP_always {P : Program} : ∀ (l : List MemoP), (∀ e ∈ l, ∀ E, MemoPK E P e) → Always P (memoP l) := by
  intro l hl E base H n ρ L w f args vs v H' n' cs c ha h
  letI : Env := E
  induction l with
  | nil => cases h
  | cons e l ih =>
    have e0 : memoP (e :: l) f args H n = sel (sel (Nat.beq e.1 f) (matchPL H e.2.1 args) false)
      (sel (ltb (putP e.2.2.2 H n []).n 16000) (.yes (finD e.2.2.1 (lenN e.2.2.2) (putP e.2.2.2 H n []))) (memoP l f args H n)) (memoP l f args H n) := rfl
    rw [e0, sel_eq] at h
    split at h
    · rename_i h1
      rw [sel_ltb] at h
      split at h
      · rename_i hlt
        rw [sel_beq] at h1
        split at h1
        · rename_i hf
          injection h with hfin
          have K := hl e List.mem_cons_self E
          have hh := matchPL_holds c e.2.1 args vs.toList ha h1
          obtain ⟨r, W, ⟨x, xs, hr, hxs, ho1, ho0, hb⟩, hcall⟩ := calls_at (K.calls w vs hh) cs
          subst hr
          rw [← hf]
          obtain ⟨L', c2, e2, ha2, hst2, hloc2⟩ := putP_sound (w := W) e.2.2.2 xs H n [] [] ρ L (c.later hb) hxs (by omega) .nil (fun x hx => by cases hx)
          simp only [List.nil_append] at ha2
          have hle := putP_le e.2.2.2 H n []
          unfold finD at hfin
          cases hone : e.2.2.1 with
          | true =>
            rw [hone, sel_true] at hfin
            injection hfin with a1 a2 a3
            subst a1; subst a2; subst a3
            have hv := ho1 hone
            subst hv
            generalize (putP e.2.2.2 H n []).ws = ws at ha2 ⊢
            rcases ha2 with _ | ⟨u, _, _, _, hu, hn0⟩
            cases hn0
            exact ⟨ρ, L', W, x, c2, e2, hb.mono c.sim.bs, hloc2, hle, hu, K.known, hcall⟩
          | false =>
            rw [hone, sel_false] at hfin
            obtain ⟨b1, b2, b3, b4⟩ := newBox_inv hfin
            subst b2; subst b3; subst b4
            have hv := ho0 hone
            subst hv
            have hsl : allSlot (putP e.2.2.2 H n []).ws = true := allSlot_of _ fun y hy => hst2 y hy
            have e3 : Ext ρ L' ρ (upd L' (putP e.2.2.2 H n []).n (.box 1 (lenN e.2.2.2) (listW (putP e.2.2.2 H n []).ws))) := .freshL c2.fresh _
            refine ⟨ρ, _, W, _, ⟨c2.sim.box c2.fresh _ _ _, c2.agree.hset b1 _, c2.fresh.updL _⟩, e2.trans e3, hb.mono c.sim.bs, Loc.trans (H1 := H) hloc2 hle (.freshL _), by omega, ?_, K.known, hcall⟩
            refine .tup _ (lenN e.2.2.2) _ _ (upd_same _ _ _) (by rw [lenN_eq]; simpa using hxs.len) fun i hi => ?_
            have hi' : i < xs.length := by simpa using hi
            have hvr := ha2.get i hi'
            rw [getW_listW _ hsl]
            have := hvr.mono e3
            simpa using this
        · cases h1
      · exact ih (fun e he => hl e (List.mem_cons_of_mem _ he)) h
    · exact ih (fun e he => hl e (List.mem_cons_of_mem _ he)) h
end Go.Eng

/- What a call gives whose first argument is a point with a map of what is kept: the map is cleared first, and nothing is known of it behind the call. -/
namespace Go.Eng
set_option linter.unusedSectionVars false
set_option linter.unusedSimpArgs false
set_option linter.unusedVariables false
open Go Go.RowKit

noncomputable section
/-- the point's row, the map: a struct of two cells -/
def matchVS (H : Trie) (w : Nat) (ts : List Nat) : Bool :=
  sel (Nat.beq (tagOf w) 6) (match tget H (payOf w) with
    | some (.box 0 2 c) => sel (isMapW (getW c 1)) (sel (match tget H (mapBlk (getW c 1)) with | some (.mp _ _ _) => true | _ => false) (matchP H (getW c 0) (.row ts)) false) false
    | _ => false) false
/-- the map's block -/
def vsMap (H : Trie) (w : Nat) : Nat := match tget H (payOf w) with | some (.box 0 2 c) => mapBlk (getW c 1) | _ => 0
def mpKey (H : Trie) (b : Nat) : Nat := match tget H b with | some (.mp _ m _) => m | _ => 0
def vsHeap (m : Nat) (ts : List Nat) : Trie := hset (hset (hset .nil 0 (.mp 3 m [])) 1 (.cells (lenN ts) (listW ts) 0 0 0 0)) 2 (.box 0 2 (listW [wS 1 1 0 (lenN ts) 0, mapW 0]))
def runV (P : Program) (S : Sums) (fuel d f m : Nat) (ts : List Nat) (l : List PA) : OR :=
  let y := layP l (vsHeap m ts) 3 [mk 6 2]
  sel (sel (sel (tokL ts) (sel (Nat.beq (lenN ts) 0) false (ltb (lenN ts) 1048576)) false) (sel (okPA l) (ltb y.n 1000) false) false) (funE P (callN P S fuel d) fuel f y.ws y.H y.n) (.bad 0)
def isV1 (r : PR) (o : OR) : Bool :=
  match o with
  | .bad _ => false
  | .ok v H _ => sel (ltb v 340282366920938463463374607431768211456) (sel (match tget H 0 with | some (.mp _ _ _) => true | _ => false) (isPR H v r) false) false
/-- function, the map's keys' cells, point, arguments behind, result -/
abbrev MemoV := Nat × Nat × List Nat × List PA × PR
def memoV (l : List MemoV) : Sums := fun f args H n => match args with
  | [] => .no
  | x :: xs => List.rec (motive := fun _ => SR) .no (fun e _ ih => sel (sel (Nat.beq e.1 f) (sel (matchPL H e.2.2.2.1 xs) (matchVS H x e.2.2.1) false) false)
    (sel (ltb (putP [e.2.2.2.2] (hset H (vsMap H x) (.mp 3 (mpKey H (vsMap H x)) [])) n []).n 16000) (.yes (finD true 1 (putP [e.2.2.2.2] (hset H (vsMap H x) (.mp 3 (mpKey H (vsMap H x)) [])) n []))) ih) ih) l
end

/-- all blocks but one are what they were -/
structure BelowBut (mb : Nat) (w w' : World) : Prop where
  os : w'.os = w.os
  tape : w'.tape = w.tape
  output : w'.output = w.output
  size : w.heap.size ≤ w'.heap.size
  block : ∀ k, k < w.heap.size → k ≠ mb → w'.heap[k]? = w.heap[k]?

structure MemoVK (E : Env) (P : Program) (e : MemoV) : Prop where
  known : Known P e.1
  calls : ∀ (w : World) (s : Value) (vs : List Value) (mb : Nat) (ents : Array MapEntry) (clock : Nat), HoldsA E w (.row e.2.2.1) s → w.heap[mb]? = some (.map ents clock) → HoldsAL E w e.2.2.2.1 vs →
    Calls P e.1 (Value.agg #[s, .map (some mb)] :: vs).toArray w fun r w' => ∃ x, r = .returned x ∧ HoldsR1 E e.2.2.2.2 x ∧ BelowBut mb w w' ∧ ∃ ents' clock', w'.heap[mb]? = some (.map ents' clock')

section
variable {base n : Nat} {H : Trie} {ρ : Rho} {L : Look} {w : World}
/-- a map alone, of which nothing is known; all else is kept -/
theorem Ctx.mapAlone {E : Env} {mb m clock : Nat} {ents : Array MapEntry} (hm : w.heap[mb]? = some (.map ents clock)) (hk : E.kept mb = none) (hkp : ∀ k o, E.kept k = some o → w.heap[k]? = some o) :
    @Ctx E 0 (hset .nil 0 (.mp 3 m [])) 1 (updR (fun _ => none) 0 (mb, 0, 0)) (upd (fun _ => none) 0 (.mp 3 m [])) w := by
  letI : Env := E
  have hlt : mb < w.heap.size := (Array.getElem?_eq_some_iff.1 hm).1
  have one : ∀ b r, updR (fun _ => none) 0 (mb, 0, 0) b = some r → b = 0 ∧ r = (mb, 0, 0) := fun b r h => by
    by_cases hb : b = 0
    · subst hb; rw [updR_same] at h; injection h with h; exact ⟨rfl, h.symm⟩
    · rw [updR_ne _ _ hb] at h; cases h
  have oneL : ∀ b k, upd (fun _ => none) 0 (.mp 3 m []) b = some k → b = 0 ∧ k = .mp 3 m [] := fun b k h => by
    by_cases hb : b = 0
    · subst hb; rw [upd_same] at h; injection h with h; exact ⟨rfl, h.symm⟩
    · rw [upd_ne _ _ hb] at h; cases h
  have g0 : grp (upd (fun _ => none) 0 (.mp 3 m [])) 0 = 1 := NoRow.grp (k := .mp 3 m []) trivial (upd_same _ _ _)
  have c0 : Ctx w.heap.size .nil 0 (fun _ => none) (fun _ => none) w := Ctx.start w hkp
  refine ⟨⟨?_, ?_, ?_, ?_, ?_, ?_, ?_, Nat.zero_le _, ?_, ?_, ?_, ?_, hkp⟩, c0.agree.hset (by omega) _, fun b hb => ⟨upd_ne _ _ (by omega), updR_ne _ _ (by omega)⟩⟩
  · intro b r h
    obtain ⟨rfl, rfl⟩ := one b r h
    exact ⟨_, upd_same _ _ _, fun _ => ⟨ents, clock, hm, fun h => absurd rfl h, fun h => absurd rfl h⟩⟩
  · intro b b' r r' h h' _ _ _ _ hg
    obtain ⟨rfl, rfl⟩ := one b r h
    obtain ⟨rfl, rfl⟩ := one b' r' h'
    exact absurd rfl hg
  · intro b b' r r' h h' _ _ _ _ _
    obtain ⟨rfl, rfl⟩ := one b r h
    obtain ⟨rfl, rfl⟩ := one b' r' h'
    rfl
  · intro b r n c g k s mm h _ hL
    obtain ⟨_, h2⟩ := oneL _ _ hL
    cases h2
  · intro b r h _; exact Nat.zero_le _
  · intro b r h hg
    obtain ⟨rfl, rfl⟩ := one b r h
    rw [g0] at hg; cases hg
  · intro b r h
    obtain ⟨rfl, rfl⟩ := one b r h
    exact hlt
  · intro b r h hg
    obtain ⟨rfl, rfl⟩ := one b r h
    rw [g0]
    exact ⟨⟨_, updR_same _ _ _⟩, g0⟩
  · intro b n c g k s mm hL
    obtain ⟨_, h2⟩ := oneL _ _ hL
    cases h2
  · intro b p q s d lo hi hL
    obtain ⟨_, h2⟩ := oneL _ _ hL
    cases h2
  · intro b r h _
    obtain ⟨rfl, rfl⟩ := one b r h
    exact hk

/-- ██ A result found by a run. -/
theorem memoV_of {P : Program} {S : Sums} (hS : Always P S) {fuel d f m : Nat} {ts : List Nat} {l : List PA} {r : PR} (h : isV1 r (runV P S fuel d f m ts l) = true) (E : Env) : MemoVK E P (f, m, ts, l, r) := by
  unfold runV at h
  simp only at h
  cases hg : sel (sel (tokL ts) (sel (Nat.beq (lenN ts) 0) false (ltb (lenN ts) 1048576)) false) (sel (okPA l) (ltb (layP l (vsHeap m ts) 3 [mk 6 2]).n 1000) false) false with
  | false => rw [hg] at h; cases h
  | true =>
    rw [hg, sel_true] at h
    obtain ⟨hts, hg2⟩ := sel_and hg
    obtain ⟨hok, hlt⟩ := sel_and hg2
    obtain ⟨htok, _⟩ := sel_and hts
    have hlt := (ltb_iff _ _).1 hlt
    cases hr : funE P (callN P S fuel d) fuel f (layP l (vsHeap m ts) 3 [mk 6 2]).ws (layP l (vsHeap m ts) 3 [mk 6 2]).H (layP l (vsHeap m ts) 3 [mk 6 2]).n with
    | bad q => rw [hr] at h; cases h
    | ok v' H' n' =>
      rw [hr] at h
      refine ⟨known_of hr, fun w s vs mb ents clock hs hm hh cs => ?_⟩
      letI : Env := setK E fun k => if k = mb then none else if k < w.heap.size then w.heap[k]? else none
      have kmb : Env.kept mb = none := if_pos rfl
      have kold : ∀ k, k < w.heap.size → k ≠ mb → Env.kept k = w.heap[k]? := fun k h1 h2 => by
        show (if k = mb then none else if k < w.heap.size then w.heap[k]? else none) = _
        rw [if_neg h2, if_pos h1]
      have hkp : ∀ k o, Env.kept k = some o → w.heap[k]? = some o := fun k o h => by
        have h : (if k = mb then none else if k < w.heap.size then w.heap[k]? else none) = some o := h
        split at h
        · cases h
        · split at h
          · exact h
          · cases h
      have hkb : ∀ (rb : Nat) cs ty fz, w.heap[rb]? = some (.cells cs ty fz) → rb < 0 ∨ ∃ o, Env.kept rb = some o := fun rb cs ty fz h => by
        have hne : rb ≠ mb := fun hh => by rw [hh, hm] at h; cases h
        exact .inr ⟨_, (kold rb (Array.getElem?_eq_some_iff.1 h).1 hne).trans h⟩
      have c0 := Ctx.mapAlone (m := m) hm kmb hkp
      obtain ⟨hl0, rb, dd, cp, xs, ty, fz, rfl, g1, g2, g3, g4, g5, g6⟩ := hs
      have g3 : ts.length < 1048576 := g3
      have ew : wS 1 1 0 (lenN ts) 0 = wS 1 1 0 ts.length 0 := by rw [lenN_eq]
      have c1 := c0.argK (nb := ts.length) (ch := listW ts) (sz := cp) (d := dd) (by omega) g4 (hkb _ _ _ _ g4) g5 g1 (fun i hi => by
        obtain ⟨u, u1, u2⟩ := g6 i hi
        rw [getW_listW _ (tokL_slot htok)]
        exact ⟨u, u1, (u2.setK).vr _ _, u2.2⟩)
      have e1 : Ext (updR (fun _ => none) 0 (mb, 0, 0)) (upd (fun _ => none) 0 (.mp 3 m [])) (updR (updR (fun _ => none) 0 (mb, 0, 0)) 1 (rb, dd, cp)) (upd (upd (fun _ => none) 0 (.mp 3 m [])) 1 (.cells ts.length (listW ts) 0 0 0 0)) := .fresh c0.fresh _ _
      have c2 : Ctx 0 (vsHeap m ts) 3 (updR (updR (fun _ => none) 0 (mb, 0, 0)) 1 (rb, dd, cp)) (upd (upd (upd (fun _ => none) 0 (.mp 3 m [])) 1 (.cells ts.length (listW ts) 0 0 0 0)) 2 (.box 0 2 (listW [wS 1 1 0 (lenN ts) 0, mapW 0]))) w := by
        have := c1.agree.hset (i := 2) (by omega) (.box 0 2 (listW [wS 1 1 0 (lenN ts) 0, mapW 0]))
        refine ⟨c1.sim.box c1.fresh _ _ _, ?_, c1.fresh.updL _⟩
        unfold vsHeap
        rw [lenN_eq] at this ⊢
        exact this
      have e2 : Ext (updR (updR (fun _ => none) 0 (mb, 0, 0)) 1 (rb, dd, cp)) (upd (upd (fun _ => none) 0 (.mp 3 m [])) 1 (.cells ts.length (listW ts) 0 0 0 0)) _ _ := .freshL c1.fresh (.box 0 2 (listW [wS 1 1 0 (lenN ts) 0, mapW 0]))
      have vS : VR (updR (updR (fun _ => none) 0 (mb, 0, 0)) 1 (rb, dd, cp)) (upd (upd (upd (fun _ => none) 0 (.mp 3 m [])) 1 (.cells ts.length (listW ts) 0 0 0 0)) 2 (.box 0 2 (listW [wS 1 1 0 (lenN ts) 0, mapW 0]))) (wS 1 1 0 ts.length 0) (.slice (some ⟨rb, dd, none⟩) ts.length cp) :=
        .slice 1 1 0 ts.length 0 rb dd cp cp _ (updR_same _ _ _) (by omega) (by omega) g3 (by omega) g1 g2 (.inl rfl) (.inr ⟨by simp, by omega⟩)
      have vM : VR (updR (updR (fun _ => none) 0 (mb, 0, 0)) 1 (rb, dd, cp)) (upd (upd (upd (fun _ => none) 0 (.mp 3 m [])) 1 (.cells ts.length (listW ts) 0 0 0 0)) 2 (.box 0 2 (listW [wS 1 1 0 (lenN ts) 0, mapW 0]))) (mapW 0) (.map (some mb)) :=
        .map 0 mb 0 0 (by rw [updR_ne _ _ (by omega)]; exact updR_same _ _ _)
      have hsl : allSlot [wS 1 1 0 (lenN ts) 0, mapW 0] = true := allSlot_of' _ fun y hy => by
        simp only [List.mem_cons, List.not_mem_nil, or_false] at hy
        rcases hy with rfl | rfl
        · rw [ew, wS_eq]; omega
        · decide
      have hst : ∀ i, i < 2 → storable (getW (listW [wS 1 1 0 (lenN ts) 0, mapW 0]) i) = true := fun i hi => by
        rw [getW_listW _ hsl]
        rcases (show i = 0 ∨ i = 1 by omega) with rfl | rfl
        · show storable (wS 1 1 0 (lenN ts) 0) = true
          rw [ew, storable_iff, (s_parts 1 1 0 ts.length 0 (by omega) (by omega) g3 (by omega)).1]
          exact ⟨by decide, by decide, by decide, by rw [wS_eq]; omega⟩
        · show storable (mapW 0) = true
          decide
      have vA : VR (updR (updR (fun _ => none) 0 (mb, 0, 0)) 1 (rb, dd, cp)) (upd (upd (upd (fun _ => none) 0 (.mp 3 m [])) 1 (.cells ts.length (listW ts) 0 0 0 0)) 2 (.box 0 2 (listW [wS 1 1 0 (lenN ts) 0, mapW 0]))) (mk 6 2) (.agg #[.slice (some ⟨rb, dd, none⟩) ts.length cp, .map (some mb)]) := by
        refine .agg 2 2 _ _ (upd_same _ _ _) rfl (fun i hi => ?_) ?_ hst
        · rw [getW_listW _ hsl]
          rcases (show i = 0 ∨ i = 1 by simp at hi; omega) with rfl | rfl
          · show VR _ _ (wS 1 1 0 (lenN ts) 0) _
            have := vS
            rw [← ew] at this
            exact this
          · exact vM
        · exact listW_lt _ hsl
      obtain ⟨_, hL⟩ := layPB_sound (w := w) (base := 0) hkb l (vsHeap m ts) 3 [mk 6 2]
      obtain ⟨ρ', L', c, ha, e3⟩ := hL _ _ vs [.agg #[.slice (some ⟨rb, dd, none⟩) ts.length cp, .map (some mb)]] c2 (.cons _ _ _ _ vA .nil) hh.setK hlt hok
      obtain ⟨ρ2, L2, w', x, c3, e4, hb, _, _, hx, _, hc⟩ := funE_sound (callN_sound P (hS _) fuel d) cs c (vs := (Value.agg #[.slice (some ⟨rb, dd, none⟩) ts.length cp, .map (some mb)] :: vs).toArray) (by simpa using ha) hr
      obtain ⟨e, W, fr, ⟨h1, h2⟩, h3⟩ := hc
      subst h2
      have h : sel (ltb v' 340282366920938463463374607431768211456) (sel (match tget H' 0 with | some (.mp _ _ _) => true | _ => false) (isPR H' v' r) false) false = true := h
      obtain ⟨a1, a2⟩ := sel_and h
      obtain ⟨a2, a3⟩ := sel_and a2
      have hρ : ρ2 0 = some (mb, 0, 0) := e4.place _ _ (e3.place _ _ (by rw [updR_ne _ _ (by omega)]; exact updR_same _ _ _))
      split at a2
      · rename_i ag m' es hget
        obtain ⟨_, ents', clock', q1⟩ := map_block0 c3 hρ hget
        refine ⟨e, W, fr, ⟨x, h1, (isPR_inv c3 hx a3).unset, ⟨hb.os, hb.tape, hb.output, hb.size, fun k hk hne => ?_⟩, ents', clock', q1⟩, h3⟩
        have hold : w.heap[k]? = some (w.heap[k]) := Array.getElem?_eq_getElem hk
        rw [hold]
        exact c3.sim.kp k _ ((kold k hk hne).trans hold)
      · cases a2
end

section
variable {base n : Nat} {H : Trie} {ρ : Rho} {L : Look} {w : World}
theorem matchVS_holds {E : Env} (c : @Ctx E base H n ρ L w) {x : Nat} {v : Value} (hx : @VR E ρ L x v) {ts : List Nat} (h : matchVS H x ts = true) :
    ∃ s mb d sz ag m es, v = .agg #[s, .map (some mb)] ∧ HoldsA E w (.row ts) s ∧ ρ (vsMap H x) = some (mb, d, sz) ∧ tget H (vsMap H x) = some (.mp ag m es) := by
  letI : Env := E
  unfold matchVS at h
  obtain ⟨h6, h⟩ := sel_and h
  have h6 := Nat.eq_of_beq_eq_true h6
  split at h
  rotate_left
  · cases h
  rename_i ch hget
  obtain ⟨h1, h⟩ := sel_and h
  obtain ⟨h2, h3⟩ := sel_and h
  have evm : vsMap H x = mapBlk (getW ch 1) := by unfold vsMap; rw [hget]; rfl
  obtain ⟨id, kd, m', cc, us, hw, hp, hL2, hk, hs, hcells⟩ := hx.box_inv h6
  have hL3 := c.agree.2 _ _ hget
  rw [hp, hL2] at hL3
  injection hL3 with hL3
  injection hL3 with q1 q2 q3
  subst q1; subst q2; subst q3
  have hxt : v = .agg us := by
    rcases hk with ⟨_, hk⟩ | ⟨hk, _⟩
    · exact hk
    · omega
  subst hxt
  have c0 := hcells 0 (by omega)
  have c1 := hcells 1 (by omega)
  obtain ⟨mb, d, sz, hρ, hv1⟩ := c1.map_inv h1
  split at h2
  · rename_i ag m es hmget
    refine ⟨us[0]'(by omega), mb, d, sz, ag, m, es, ?_, matchP_holds c c0 _ h3, by rw [evm]; exact hρ, by rw [evm]; exact hmget⟩
    congr 1
    apply Array.ext
    · simp [hs]
    · intro i h1 h2
      have : i = 0 ∨ i = 1 := by omega
      rcases this with rfl | rfl
      · rfl
      · simpa using hv1
  · cases h2
end

theorem memoV_always {P : Program} : ∀ (l : List MemoV), (∀ e ∈ l, ∀ E, MemoVK E P e) → Always P (memoV l) := by
  intro l hl E base H n ρ L w f args vs v H' n' cs c ha h
  letI : Env := E
  obtain ⟨vs⟩ := vs
  cases args with
  | nil => cases h
  | cons x xs =>
    have ha : AR ρ L (x :: xs) vs := ha
    cases ha with
    | cons _ v0 _ vs hx hxs =>
    induction l with
    | nil => cases h
    | cons e l ih =>
      have e0 : memoV (e :: l) f (x :: xs) H n = sel (sel (Nat.beq e.1 f) (sel (matchPL H e.2.2.2.1 xs) (matchVS H x e.2.2.1) false) false)
        (sel (ltb (putP [e.2.2.2.2] (hset H (vsMap H x) (.mp 3 (mpKey H (vsMap H x)) [])) n []).n 16000) (.yes (finD true 1 (putP [e.2.2.2.2] (hset H (vsMap H x) (.mp 3 (mpKey H (vsMap H x)) [])) n []))) (memoV l f (x :: xs) H n)) (memoV l f (x :: xs) H n) := rfl
      rw [e0, sel_eq] at h
      split at h
      · rename_i h1
        rw [sel_ltb] at h
        split at h
        · rename_i hlt
          obtain ⟨hf, h1⟩ := sel_and h1
          obtain ⟨hm1, hm2⟩ := sel_and h1
          have hf := Nat.eq_of_beq_eq_true hf
          injection h with hfin
          have K := hl e List.mem_cons_self E
          have hh := matchPL_holds c e.2.2.2.1 xs vs hxs hm1
          obtain ⟨s, mb, d, sz, ag, m, es, rfl, hs, hρ, hget⟩ := matchVS_holds c hx hm2
          obtain ⟨hL, ents, clock, hmap⟩ := map_block0 c hρ hget
          obtain ⟨r, W, ⟨x', hr, hx', hb, ents', clock', hmap'⟩, hcall⟩ := calls_at (K.calls w s vs mb ents clock hs hmap hh) cs
          subst hr
          rw [← hf]
          have ek : mpKey H (vsMap H x) = m := by unfold mpKey; rw [hget]
          rw [ek] at hfin hlt
          have hmb : mb < w.heap.size := (Array.getElem?_eq_some_iff.1 hmap).1
          have map_junk : ∃ L', Ctx base (hset H (vsMap H x) (.mp 3 m [])) n ρ L' { w with heap := w.heap.setIfInBounds mb (.map ents' clock') } ∧ Ext ρ L ρ L' ∧ Below base w { w with heap := w.heap.setIfInBounds mb (.map ents' clock') } ∧ Loc H n ρ L ρ L' :=
            map_swapJ c hρ hget hmap
          obtain ⟨L1, c1, e1, b1, l1⟩ := map_junk
          have hW : Below ({ w with heap := w.heap.setIfInBounds mb (.map ents' clock') } : World).heap.size { w with heap := w.heap.setIfInBounds mb (.map ents' clock') } W := by
            refine ⟨hb.os, hb.tape, hb.output, by simpa using hb.size, fun k hk => ?_⟩
            have hk' : k < w.heap.size := by simpa using hk
            by_cases hkm : k = mb
            · subst hkm
              rw [hmap']
              simp [hk']
            · rw [hb.block k hk' hkm]
              show _ = (w.heap.setIfInBounds mb _)[k]?
              rw [Array.getElem?_setIfInBounds, if_neg (by omega)]
          have c2 := c1.later hW
          obtain ⟨L', c3, e3, ha3, hst3, hloc3⟩ := putP_sound (w := W) [e.2.2.2.2] [x'] (hset H (vsMap H x) (.mp 3 m [])) n [] [] ρ L1 c2 (.cons _ _ _ _ hx' .nil) (by omega) .nil (fun y hy => by cases hy)
          simp only [List.nil_append] at ha3
          have hle := putP_le [e.2.2.2.2] (hset H (vsMap H x) (.mp 3 m [])) n []
          unfold finD at hfin
          rw [sel_true] at hfin
          injection hfin with a1 a2 a3
          subst a1; subst a2; subst a3
          generalize (putP [e.2.2.2.2] (hset H (vsMap H x) (.mp 3 m [])) n []).ws = ws at ha3 ⊢
          rcases ha3 with _ | ⟨u, _, _, _, hu, hn0⟩
          cases hn0
          exact ⟨ρ, L', W, x', c3, e1.trans e3, b1.trans (hW.mono c1.sim.bs), Loc.trans (H1 := H) l1 (Nat.le_refl _) hloc3.any, hle, hu, K.known, hcall⟩
        · exact ih (fun e he => hl e (List.mem_cons_of_mem _ he)) h
      · exact ih (fun e he => hl e (List.mem_cons_of_mem _ he)) h
end Go.Eng
