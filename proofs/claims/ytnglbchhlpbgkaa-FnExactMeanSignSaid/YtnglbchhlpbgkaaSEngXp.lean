/- Part of the evaluator: Xa Xb Xp. -/
import Derived.Test.YtnglbchhlpbgkaaSEngX

/- What is known of calls by what their arguments hold: results that have been found once. -/
namespace Go.Eng
set_option linter.unusedSectionVars false
set_option linter.unusedSimpArgs false
set_option linter.unusedVariables false
open Go Go.RowKit

noncomputable section
/-- a word that stands for one value, wherever it is met -/
def litW (w : Nat) : Bool := sel (ltb w 340282366920938463463374607431768211456) (sel (Nat.beq (tagOf w) 1) (ltb (payOf w) 18446744073709551616) (sel (Nat.beq w 18) true (sel (Nat.beq w 2) true (Nat.beq (tagOf w) 8)))) false
def litV (w : Nat) : Value := if tagOf w = 1 then .int .i64 (sInt (payOf w)) else if w = 18 then .bool true else if w = 2 then .bool false else .func (.func (payOf w)) #[] #[]
/-- what an argument holds: a word; a slice of n elements of e cells; a struct or an array; a closure with places of one cell each -/
inductive Sh where
  | lit (w : Nat)
  | row (e n c : Nat)
  | agg (m c : Nat)
  | clo (f : Nat) (cs : List Nat)

def allLit (m c : Nat) : Bool := Nat.rec (motive := fun _ => Nat → Bool) (fun _ => true) (fun _ ih c => sel (litW (getW c 0)) (ih (Nat.shiftRight c 128)) false) m c
/-- the places i, i + 1 and so on of a closure lead to cells that hold these words -/
def matchC (H : Trie) (c : Nat) (cs : List Nat) : Nat → Bool :=
  List.rec (motive := fun _ => Nat → Bool) (fun _ => true)
    (fun x _ ih i => sel (sel (litW x) (sel (Nat.beq (tagOf (getW c i)) 3) (sel (Nat.beq (pBlk (payOf (getW c i))) 0) false (Nat.beq (rd H (Nat.pred (pBlk (payOf (getW c i)))) (pOff (payOf (getW c i)))) x)) false) false) (ih (Nat.succ i)) false) cs
def matchS (H : Trie) (w : Nat) (s : Sh) : Bool :=
  Sh.rec (motive := fun _ => Bool) (fun u => sel (Nat.beq w u) (litW u) false)
    (fun e n c => sel (sel (Nat.beq (tagOf w) 4) (sel (Nat.beq (sLen (payOf w)) n) (sel (Nat.beq (sEs (payOf w)) e) (sel (Nat.beq n 0) false (sel (Nat.beq (sBlk (payOf w)) 0) false true)) false) false) false)
      (match rdRange H (Nat.pred (sBlk (payOf w))) (sOff (payOf w)) (Nat.mul n e) with | .some c' => sel (Nat.beq c' c) (allLit (Nat.mul n e) c) false | .none => false) false)
    (fun m c => sel (Nat.beq (tagOf w) 6) (match tget H (payOf w) with | some (.box 0 m' c') => sel (Nat.beq m' m) (sel (Nat.beq c' c) (allLit m c) false) false | _ => false) false)
    (fun f cs => sel (Nat.beq (tagOf w) 10) (match tget H (payOf w) with | some (.box 2 m c) => sel (Nat.beq m (lenN cs)) (sel (Nat.beq (getW c 0) f) (matchC H c cs 1) false) false | _ => false) false) s
def matchL (H : Trie) (l : List Sh) : List Nat → Bool :=
  List.rec (motive := fun _ => List Nat → Bool) (fun ws => match ws with | [] => true | _ => false)
    (fun s _ ih ws => match ws with | [] => false | w :: ws => sel (matchS H w s) (ih ws) false) l

abbrev Memo := Nat × List Sh × Nat
/-- what has been found, as what is known beforehand -/
def memoS (l : List Memo) : Sums := fun f args H n =>
  List.rec (motive := fun _ => SR) .no (fun e _ ih => sel (sel (Nat.beq e.1 f) (matchL H e.2.1 args) false) (.yes (.ok e.2.2 H n)) ih) l

/-- the state in which the arguments hold that -/
structure Lay where
  H : Trie
  n : Nat
  ws : List Nat
def layC (cs : List Nat) : Trie → Nat → List Nat → Lay :=
  List.rec (motive := fun _ => Trie → Nat → List Nat → Lay) (fun H n ws => ⟨H, n, ws⟩)
    (fun x _ ih H n ws => ih (hset H n (.cells 1 x 0 0 0 0)) (Nat.succ n) (ws ++ [wP n 0])) cs
def layS (s : Sh) (H : Trie) (n : Nat) (k : Nat → Trie → Nat → Lay) : Lay :=
  Sh.rec (motive := fun _ => Lay) (fun u => k u H n)
    (fun e m c => k (wS n e 0 m 0) (hset H n (.cells (Nat.mul m e) c 0 0 0 0)) (Nat.succ n))
    (fun m c => k (mk 6 n) (hset H n (.box 0 m c)) (Nat.succ n))
    (fun f cs => let y := layC cs H n []
      k (mk 10 y.n) (hset y.H y.n (.box 2 (lenN cs) (listW (f :: y.ws)))) (Nat.succ y.n)) s
def layL (l : List Sh) : Trie → Nat → List Nat → Lay :=
  List.rec (motive := fun _ => Trie → Nat → List Nat → Lay) (fun H n ws => ⟨H, n, ws⟩)
    (fun s _ ih H n ws => layS s H n fun w H' n' => ih H' n' (ws ++ [w])) l
def shOk (l : List Sh) : Bool := List.rec (motive := fun _ => Bool) true (fun s _ ih => Sh.rec (motive := fun _ => Bool) (fun _ => ih) (fun _ _ _ => ih) (fun _ _ => ih) (fun f _ => sel (ltb f 1000000) ih false) s) l
def memoRun (P : Program) (S : Sums) (fuel d f : Nat) (l : List Sh) : OR := let y := layL l .nil 0 []; sel (sel (shOk l) (ltb y.n 1000) false) (funE P (callN P S fuel d) fuel f y.ws y.H y.n) (.bad 0)
def isWord (v : Nat) (r : OR) : Bool := match r with | .ok v' _ _ => sel (Nat.beq v' v) (sel (Nat.beq (tagOf v) 1) (ltb (payOf v) 18446744073709551616) (sel (Nat.beq v 18) true (Nat.beq v 2))) false | .bad _ => false
end

/-! ### what is held, in a world -/
def LitAt (w : World) (a : Addr) (u : Nat) : Prop := litW u = true ∧ ∃ cs ty fz, a.spot = none ∧ w.heap[a.block]? = some (.cells cs ty fz) ∧ cs[a.off]? = some (litV u)
def HoldsS (w : World) (s : Sh) (v : Value) : Prop :=
  match s with
  | .lit u => litW u = true ∧ v = litV u
  | .row e n c => 0 < n ∧ e < 256 ∧ n < 1048576 ∧ ∃ rb d cp cs ty fz, v = .slice (some ⟨rb, d, none⟩) n cp ∧ n ≤ cp ∧ cp < 9223372036854775808 ∧ w.heap[rb]? = some (.cells cs ty fz) ∧ d + cp * e ≤ cs.size ∧
      ∀ i, i < n * e → litW (getW c i) = true ∧ cs[d + i]? = some (litV (getW c i))
  | .agg m c => ∃ vs : Array Value, v = .agg vs ∧ vs.size = m ∧ c < 2 ^ (128 * m) ∧ ∀ i, i < m → litW (getW c i) = true ∧ vs[i]? = some (litV (getW c i))
  | .clo f cs => ∃ vs : Array Value, v = .func (.func f) #[] vs ∧ vs.size = cs.length ∧ ∀ (i x : Nat), cs[i]? = some x → ∃ a : Addr, vs[i]? = some (Value.pointer (some a)) ∧ LitAt w a x
inductive HoldsL (w : World) : List Sh → List Value → Prop
  | nil : HoldsL w [] []
  | cons (s : Sh) (v : Value) (l : List Sh) (vs : List Value) : HoldsS w s v → HoldsL w l vs → HoldsL w (s :: l) (v :: vs)

/-- Called with what holds that, it comes back with that word. -/
structure MemoK (P : Program) (e : Memo) : Prop where
  known : Known P e.1
  lit : tagOf e.2.2 = 1 ∧ payOf e.2.2 < 18446744073709551616 ∨ e.2.2 = 18 ∨ e.2.2 = 2
  calls : ∀ (w : World) (vs : Array Value), HoldsL w e.2.1 vs.toList → Calls P e.1 vs w fun r w' => r = .returned (litV e.2.2) ∧ Below w.heap.size w w'

section
variable [E : Env]
theorem litW_in {u : Nat} (h : litW u = true) : sel (Nat.beq (tagOf u) 1) (ltb (payOf u) 18446744073709551616) (sel (Nat.beq u 18) true (sel (Nat.beq u 2) true (Nat.beq (tagOf u) 8))) = true := by
  unfold litW at h
  rw [sel_ltb] at h
  split at h
  · exact h
  · cases h
theorem litW_lt {u : Nat} (h : litW u = true) : u < 2 ^ 128 := by
  unfold litW at h
  rw [sel_ltb] at h
  split at h
  · assumption
  · cases h
theorem litV_vr {ρ : Rho} {L : Look} {u : Nat} (h : litW u = true) : VR ρ L u (litV u) := by
  have h := litW_in h
  unfold litV
  rw [sel_beq] at h
  split at h
  · rename_i h1
    rw [if_pos h1]
    have hp := (ltb_iff _ _).1 h
    have := VR.int (ρ := ρ) (L := L) (payOf u) hp
    have hw : wI (payOf u) = u := by have := wordOf u; rw [h1] at this; exact this.symm
    rw [hw] at this
    exact this
  · rename_i h1
    rw [if_neg h1]
    rw [sel_beq] at h
    split at h
    · rename_i h2; rw [if_pos h2, h2]; exact .bool true
    · rename_i h2
      rw [if_neg h2]
      rw [sel_beq] at h
      split at h
      · rename_i h3; rw [if_pos h3, h3]; exact .bool false
      · rename_i h3
        rw [if_neg h3]
        have h8 := Nat.eq_of_beq_eq_true h
        have := VR.fn (ρ := ρ) (L := L) (payOf u)
        have hw : mk 8 (payOf u) = u := by have := wordOf u; rw [h8] at this; exact this.symm
        rw [hw] at this
        exact this
theorem litV_of {ρ : Rho} {L : Look} {u : Nat} {v : Value} (h : litW u = true) (hv : VR ρ L u v) : v = litV u := by
  have h := litW_in h
  unfold litV
  rw [sel_beq] at h
  split at h
  · rename_i h1
    rw [if_pos h1]
    obtain ⟨p, _, _, hp, rfl⟩ := hv.int_inv h1
    rw [hp]
  · rename_i h1
    rw [if_neg h1]
    rw [sel_beq] at h
    split at h
    · rename_i h2; rw [if_pos h2]; subst h2; exact hv.true_inv
    · rename_i h2
      rw [if_neg h2]
      rw [sel_beq] at h
      split at h
      · rename_i h3; rw [if_pos h3]; subst h3; exact hv.false_inv
      · rename_i h3
        rw [if_neg h3]
        exact hv.fn_inv (Nat.eq_of_beq_eq_true h)

theorem getW_shift (c i : Nat) : getW (Nat.shiftRight c 128) i = getW c (i + 1) := by
  apply Nat.eq_of_testBit_eq
  intro k
  rw [getW_testBit, getW_testBit]
  have : (Nat.shiftRight c 128).testBit (128 * i + k) = c.testBit (128 + (128 * i + k)) := Nat.testBit_shiftRight ..
  rw [this, show 128 * (i + 1) + k = 128 + (128 * i + k) from by omega]
theorem allLit_iff : ∀ (m c : Nat), allLit m c = true → ∀ i, i < m → litW (getW c i) = true
  | 0, _, _, i, hi => by omega
  | m + 1, c, h, i, hi => by
    have e : allLit (m + 1) c = sel (litW (getW c 0)) (allLit m (Nat.shiftRight c 128)) false := rfl
    rw [e, sel_eq] at h
    split at h
    · rename_i h0
      cases i with
      | zero => exact h0
      | succ i =>
        have := allLit_iff m _ h i (by omega)
        rw [getW_shift] at this; exact this
    · cases h

section
variable {base : Nat} {H : Trie} {n : Nat} {ρ : Rho} {L : Look} {w : World}
theorem rd_block (c : Ctx base H n ρ L w) {b o rb d sz : Nat} (hb : ρ b = some (rb, d, sz)) (h : tagOf (rd H b o) ≠ 15) :
    ∃ cs ty fz v, w.heap[rb]? = some (.cells cs ty fz) ∧ cs[d + o]? = some v ∧ VR ρ L (rd H b o) v := by
  obtain ⟨v, hc, hv⟩ := rd_sound c hb h
  unfold World.cell? at hc
  split at hc
  · rename_i cs ty fz hh
    exact ⟨cs, ty, fz, v, hh, by simpa using hc, hv⟩
  · cases hc
theorem matchC_holds (c : Ctx base H n ρ L w) {ch : Nat} {vs : Array Value} (hv : ∀ i (h : i < vs.size), VR ρ L (getW ch (i + 1)) vs[i]) : ∀ (cs : List Nat) (i : Nat), matchC H ch cs (i + 1) = true → i + cs.length ≤ vs.size →
    ∀ (j x : Nat), cs[j]? = some x → ∃ a : Addr, vs[i + j]? = some (Value.pointer (some a)) ∧ LitAt w a x
  | [], i, h, hl, j, x, hj => by simp at hj
  | y :: cs, i, h, hl, j, x, hj => by
    simp only [List.length_cons] at hl
    have e : matchC H ch (y :: cs) (i + 1) = sel (sel (litW y) (sel (Nat.beq (tagOf (getW ch (i + 1))) 3) (sel (Nat.beq (pBlk (payOf (getW ch (i + 1)))) 0) false (Nat.beq (rd H (Nat.pred (pBlk (payOf (getW ch (i + 1))))) (pOff (payOf (getW ch (i + 1))))) y)) false) false) (matchC H ch cs (i + 1 + 1)) false := rfl
    rw [e, sel_eq] at h
    split at h
    · rename_i h1
      cases j with
      | succ j =>
        have := matchC_holds c hv cs (i + 1) h (by omega) j x (by simpa using hj)
        rwa [show i + 1 + j = i + (j + 1) from by omega] at this
      | zero =>
        simp only [List.getElem?_cons_zero, Option.some.injEq] at hj
        subst hj
        rw [sel_eq] at h1
        split at h1
        · rename_i hl1
          rw [sel_beq] at h1
          split at h1
          · rename_i h3
            rw [sel_beq] at h1
            split at h1
            · cases h1
            · rename_i hnz
              have hrd := Nat.eq_of_beq_eq_true h1
              have hi : i < vs.size := by omega
              rcases (hv i hi).ptr_inv h3 with ⟨h4, _⟩ | ⟨b, off, rb, d, sz, hb, ho, hw, hvv⟩
              · rw [h4] at hnz; exact absurd rfl hnz
              · obtain ⟨_, p2, p3⟩ := p_parts b off ho
                rw [hw, p2, p3, Nat.pred_succ] at hrd
                have hne : tagOf (rd H b off) ≠ 15 := by
                  rw [hrd]
                  intro hb15
                  have := litV_vr (ρ := ρ) (L := L) hl1
                  exact this.notBad hb15
                obtain ⟨cs', ty, fz, v, g1, g2, g3⟩ := rd_block c hb hne
                rw [hrd] at g3
                refine ⟨⟨rb, d + off, none⟩, by rw [Nat.add_zero, Array.getElem?_eq_getElem hi, hvv], hl1, cs', ty, fz, rfl, g1, ?_⟩
                rw [g2, litV_of hl1 g3]
          · cases h1
        · cases h1
    · cases h

theorem matchS_holds (c : Ctx base H n ρ L w) {x : Nat} {v : Value} (hx : VR ρ L x v) : ∀ (s : Sh), matchS H x s = true → HoldsS w s v := by
  intro s h
  cases s with
  | lit u =>
    have e : matchS H x (.lit u) = sel (Nat.beq x u) (litW u) false := rfl
    rw [e, sel_beq] at h
    split at h
    · rename_i hxu; subst hxu; exact ⟨h, litV_of h hx⟩
    · cases h
  | row e m ch =>
    have e0 : matchS H x (.row e m ch) = sel (sel (Nat.beq (tagOf x) 4) (sel (Nat.beq (sLen (payOf x)) m) (sel (Nat.beq (sEs (payOf x)) e) (sel (Nat.beq m 0) false (sel (Nat.beq (sBlk (payOf x)) 0) false true)) false) false) false)
      (match rdRange H (Nat.pred (sBlk (payOf x))) (sOff (payOf x)) (Nat.mul m e) with | .some c' => sel (Nat.beq c' ch) (allLit (Nat.mul m e) ch) false | .none => false) false := rfl
    rw [e0, sel_eq] at h
    split at h
    · rename_i h1
      rw [sel_beq] at h1
      split at h1
      · rename_i h4
        rw [sel_beq] at h1
        split at h1
        · rename_i hlen
          rw [sel_beq] at h1
          split at h1
          · rename_i hes
            rw [sel_beq] at h1
            split at h1
            · cases h1
            · rename_i hm0
              rw [sel_beq] at h1
              split at h1
              · cases h1
              · rename_i hbn
                split at h
                · rename_i c' hrd
                  rw [sel_beq] at h
                  split at h
                  · rename_i hcc
                    subst hcc
                    rcases hx.slice_inv h4 with ⟨rfl, _⟩ | ⟨b, es, off, m', k, rb, d, sz, cp, a, hb, he, ho, hm, hk, hmc, hbig, hk1, hcp, rfl, rfl⟩
                    · exact absurd s_nil.2.2.2.2.2 hbn
                    · obtain ⟨_, q1, q2, q3, q4, q5⟩ := s_parts b es off m' k he ho hm hk
                      rw [q5, q3, Nat.pred_succ] at hrd
                      rw [q1] at hlen
                      rw [q4] at hes
                      subst hlen; subst hes
                      obtain ⟨vs, ro⟩ := rdRange_sound c hb hrd
                      have hcp2 := hcp.resolve_left (by omega)
                      -- the block
                      have hblk : ∃ cs ty fz, w.heap[rb]? = some (.cells cs ty fz) ∧ d + sz ≤ cs.size := by
                        unfold rdRange at hrd
                        split at hrd
                        · rename_i nb cb g keep since mx hget
                          rw [sel_ble] at hrd
                          split at hrd
                          · rw [sel_eq] at hrd
                            split at hrd
                            · rename_i hval
                              have hL := c.agree.2 _ _ hget
                              have hl := validE_iff c.agree hL hval
                              obtain ⟨kk, hk2, hbr⟩ := c.sim.blk b _ hb
                              rw [hL] at hk2; injection hk2 with hk2; subst hk2
                              obtain ⟨cs, ty, fz, g1, g2, _⟩ := hbr hl
                              exact ⟨cs, ty, fz, g1, g2⟩
                            · cases hrd
                          · cases hrd
                        · cases hrd
                      obtain ⟨cs, ty, fz, g1, g2⟩ := hblk
                      refine ⟨by omega, he, hm, rb, d + off, cp, cs, ty, fz, by rw [hcp2.1], hmc, hbig, g1, by have := hcp2.2; omega, fun i hi => ?_⟩
                      have hli := allLit_iff _ _ h i hi
                      refine ⟨hli, ?_⟩
                      have hil : i < vs.length := by rw [ro.len]; exact hi
                      obtain ⟨r1, _⟩ := ro.word i vs[i] (List.getElem?_eq_getElem hil)
                      have r2 := ro.cell i vs[i] (List.getElem?_eq_getElem hil)
                      rw [addr_add, cell_of_heap g1] at r2
                      rw [r2, litV_of hli r1]
                  · cases h
                · cases h
          · cases h1
        · cases h1
      · cases h1
    · cases h
  | agg m ch =>
    have e0 : matchS H x (.agg m ch) = sel (Nat.beq (tagOf x) 6) (match tget H (payOf x) with | some (.box 0 m' c') => sel (Nat.beq m' m) (sel (Nat.beq c' ch) (allLit m ch) false) false | _ => false) false := rfl
    rw [e0, sel_beq] at h
    split at h
    · rename_i h6
      split at h
      · rename_i m' c' hget
        rw [sel_beq] at h
        split at h
        · rename_i hm
          rw [sel_beq] at h
          split at h
          · rename_i hc
            subst hm; subst hc
            obtain ⟨vs, rfl, hcr⟩ := hx.agg_inv h6 (c.agree.2 _ _ hget)
            refine ⟨vs, rfl, hcr.1, hcr.2.1, fun i hi => ?_⟩
            have hli := allLit_iff _ _ h i hi
            obtain ⟨u, a, b, _⟩ := hcr.2.2 i hi
            exact ⟨hli, by rw [a, litV_of hli b]⟩
          · cases h
        · cases h
      · cases h
    · cases h
  | clo f cs =>
    have e0 : matchS H x (.clo f cs) = sel (Nat.beq (tagOf x) 10) (match tget H (payOf x) with | some (.box 2 m c) => sel (Nat.beq m (lenN cs)) (sel (Nat.beq (getW c 0) f) (matchC H c cs 1) false) false | _ => false) false := rfl
    rw [e0, sel_beq] at h
    split at h
    · rename_i h10
      split at h
      · rename_i m ch hget
        rw [sel_beq] at h
        split at h
        · rename_i hm
          rw [sel_beq] at h
          split at h
          · rename_i hf
            obtain ⟨m', c', vs, hL, hsz, hvs, rfl⟩ := hx.clo_inv h10 ⟨_, _, c.agree.2 _ _ hget⟩
            have := c.agree.2 _ _ hget
            rw [hL] at this; injection this with this; injection this with _ e1 e2
            subst e1; subst e2
            rw [lenN_eq] at hm
            refine ⟨vs, by rw [hf], by rw [hsz, hm], fun i x hi => ?_⟩
            have := matchC_holds c hvs cs 0 h (by rw [hsz, hm]; omega) i x hi
            rwa [Nat.zero_add] at this
          · cases h
        · cases h
      · cases h
    · cases h
theorem matchL_holds (c : Ctx base H n ρ L w) : ∀ (l : List Sh) (ws : List Nat) (vs : List Value), AR ρ L ws vs → matchL H l ws = true → HoldsL w l vs
  | [], ws, vs, ha, h => by
    cases ha with
    | nil => exact .nil
    | cons => cases h
  | s :: l, ws, vs, ha, h => by
    cases ha with
    | nil => cases h
    | cons x v xs vs' hx ha' =>
      have e : matchL H (s :: l) (x :: xs) = sel (matchS H x s) (matchL H l xs) false := rfl
      rw [e, sel_eq] at h
      split at h
      · rename_i h1
        exact .cons _ _ _ _ (matchS_holds c hx s h1) (matchL_holds c l xs vs' ha' h)
      · cases h

/-- What was there is there still. -/
theorem Ctx.later {W : World} (c : Ctx base H n ρ L w) (hb : Below w.heap.size w W) : Ctx base H n ρ L W := by
  have hs := c.sim
  refine ⟨⟨fun b r h => ?_, hs.sep, hs.same, hs.mx, hs.rw, hs.ro, fun b r h => Nat.lt_of_lt_of_le (hs.bnd b r h) hb.size, Nat.le_trans hs.bs hb.size, hs.ld, hs.kind, hs.pol, hs.rk, fun k o h => (hb.block _ (Array.getElem?_eq_some_iff.1 (hs.kp k o h)).1).trans (hs.kp k o h)⟩, c.agree, c.fresh⟩
  obtain ⟨k, h1, h2⟩ := hs.blk b r h
  exact ⟨k, h1, fun hl => (h2 hl).mono (Ext.refl _ _) (hb.block _ (hs.bnd b r h))⟩
end
end

theorem memoS_always {P : Program} : ∀ (l : List Memo), (∀ e ∈ l, MemoK P e) → Always P (memoS l) := by
  intro l hl E base H n ρ L w f args vs v H' n' cs c ha h
  induction l with
  | nil => cases h
  | cons e l ih =>
    have e0 : memoS (e :: l) f args H n = sel (sel (Nat.beq e.1 f) (matchL H e.2.1 args) false) (.yes (.ok e.2.2 H n)) (memoS l f args H n) := rfl
    rw [e0, sel_eq] at h
    split at h
    · rename_i h1
      rw [sel_beq] at h1
      split at h1
      · rename_i hf
        injection h with h
        injection h with q1 q2 q3
        subst q1; subst q2; subst q3
        have K := hl e List.mem_cons_self
        have hh := matchL_holds c e.2.1 args vs.toList ha h1
        obtain ⟨r, W, ⟨hr, hb⟩, hcall⟩ := calls_at (K.calls w vs hh) cs
        subst hr
        rw [← hf]
        have hlit : litW e.2.2 = true := by
          unfold litW
          rcases K.lit with ⟨h1, h2⟩ | h1 | h1
          · rw [sel_ltb, if_pos (by have := wordOf e.2.2; rw [h1, mk_eq] at this; omega), h1, sel_beq, if_pos rfl]; exact (ltb_iff _ _).2 h2
          · rw [h1]; rfl
          · rw [h1]; rfl
        have hbase : Below base w W := hb.mono c.sim.bs
        exact ⟨ρ, L, W, _, c.later hb, .refl _ _, hbase, .refl _ _ _ _, Nat.le_refl _, litV_vr hlit, K.known, hcall⟩
      · cases h1
    · exact ih (fun e he => hl e (List.mem_cons_of_mem _ he)) h

section
variable [E : Env]
theorem litW_storable {u : Nat} (h : litW u = true) : storable u = true := by
  have hlt := litW_lt h
  have h := litW_in h
  rw [storable_iff]
  rw [sel_beq] at h
  split at h
  · rename_i h1; exact ⟨by omega, by omega, by omega, hlt⟩
  · rw [sel_beq] at h
    split at h
    · rename_i h2; subst h2; exact ⟨by decide, by decide, by decide, hlt⟩
    · rw [sel_beq] at h
      split at h
      · rename_i h3; subst h3; exact ⟨by decide, by decide, by decide, hlt⟩
      · have h8 := Nat.eq_of_beq_eq_true h
        exact ⟨by omega, by omega, by omega, hlt⟩

variable {ρ : Rho} {L : Look} {w : World}
theorem layC_le : ∀ (cs : List Nat) (H : Trie) (n : Nat) (ws : List Nat), (layC cs H n ws).n = n + cs.length ∧ (layC cs H n ws).ws.length = ws.length + cs.length
  | [], H, n, ws => ⟨rfl, rfl⟩
  | x :: cs, H, n, ws => by
    have e : layC (x :: cs) H n ws = layC cs (hset H n (.cells 1 x 0 0 0 0)) (n + 1) (ws ++ [wP n 0]) := rfl
    rw [e]
    obtain ⟨h1, h2⟩ := layC_le cs (hset H n (.cells 1 x 0 0 0 0)) (n + 1) (ws ++ [wP n 0])
    rw [h1, h2]
    simp; omega
theorem layC_sound : ∀ (cs : List Nat) (H : Trie) (n : Nat) (ws : List Nat) (ρ : Rho) (L : Look) (vs us : List Value), Ctx w.heap.size H n ρ L w → n + cs.length < 16384 → AR ρ L ws us → (∀ x ∈ ws, x < 2 ^ 128) → vs.length = cs.length →
    (∀ (i x : Nat), cs[i]? = some x → ∃ a : Addr, vs[i]? = some (Value.pointer (some a)) ∧ LitAt w a x) →
    ∃ ρ' L', Ctx w.heap.size (layC cs H n ws).H (layC cs H n ws).n ρ' L' w ∧ Ext ρ L ρ' L' ∧ AR ρ' L' (layC cs H n ws).ws (us ++ vs) ∧ ∀ x ∈ (layC cs H n ws).ws, x < 2 ^ 128
  | [], H, n, ws, ρ, L, vs, us, c, hn, ha, hs, hl, h => by
    have : vs = [] := List.eq_nil_of_length_eq_zero (by simpa using hl)
    subst this
    exact ⟨ρ, L, c, .refl _ _, by rw [List.append_nil]; exact ha, hs⟩
  | x :: cs, H, n, ws, ρ, L, vs, us, c, hn, ha, hs, hl, h => by
    simp only [List.length_cons] at hn hl
    obtain ⟨a, h1, hlit, cc, ty, fz, hsp, hh, hc⟩ := h 0 x rfl
    cases vs with
    | nil => simp at hl
    | cons v vs =>
      simp only [List.getElem?_cons_zero, Option.some.injEq] at h1
      subst h1
      have hrb : a.block < w.heap.size := (Array.getElem?_eq_some_iff.1 hh).1
      have hoff : a.off < cc.size := (Array.getElem?_eq_some_iff.1 hc).1
      have c1 := c.arg (nb := 1) (ch := x) (sz := 1) (d := a.off) (by omega) hh hrb (by omega) (Nat.le_refl _) (fun i hi => by
        obtain rfl : i = 0 := by omega
        have e : getW x 0 = x := by rw [getW_eq]; simpa using litW_lt hlit
        rw [e]
        exact ⟨_, by simpa using hc, litV_vr hlit, litW_storable hlit⟩)
      have e1 : Ext ρ L (updR ρ n (a.block, a.off, 1)) (upd L n (.cells 1 x 0 0 0 0)) := .fresh c.fresh _ _
      have hp : VR (updR ρ n (a.block, a.off, 1)) (upd L n (.cells 1 x 0 0 0 0)) (wP n 0) (.pointer (some a)) := by
        have := VR.ptr (ρ := updR ρ n (a.block, a.off, 1)) (L := upd L n (.cells 1 x 0 0 0 0)) n 0 a.block a.off 1 (updR_same _ _ _) (by omega)
        have ea : a = ⟨a.block, a.off + 0, none⟩ := by
          cases a with
          | mk b o s => simp at hsp ⊢; exact hsp
        rw [← ea] at this; exact this
      have app : ∀ {ρ : Rho} {L : Look} {xs ys : List Nat} {us vs : List Value}, AR ρ L xs us → AR ρ L ys vs → AR ρ L (xs ++ ys) (us ++ vs) := by
        intro ρ L xs ys us vs h1 h2
        induction h1 with
        | nil => exact h2
        | cons x v xs vs hv _ ih => exact .cons _ _ _ _ hv ih
      have hw : wP n 0 < 2 ^ 128 := by rw [wP_eq]; omega
      obtain ⟨ρ', L', c', e', ha', hs'⟩ := layC_sound cs (hset H n (.cells 1 x 0 0 0 0)) (n + 1) (ws ++ [wP n 0]) _ _ vs (us ++ [.pointer (some a)]) c1 (by omega) (app (ha.mono e1) (.cons _ _ _ _ hp .nil)) (fun y hy => by
        rcases List.mem_append.1 hy with hy | hy
        · exact hs y hy
        · simp at hy; subst hy; exact hw) (by simpa using hl) (fun i y hi => by
        have := h (i + 1) y (by simpa using hi)
        simpa using this)
      refine ⟨ρ', L', c', e1.trans e', ?_, hs'⟩
      have : us ++ Value.pointer (some a) :: vs = us ++ [Value.pointer (some a)] ++ vs := by simp
      rw [this]; exact ha'

theorem layS_sound (s : Sh) (H : Trie) (n : Nat) (k : Nat → Trie → Nat → Lay) : ∃ x H1 n1, layS s H n k = k x H1 n1 ∧ n ≤ n1 ∧
    ∀ (ρ : Rho) (L : Look) (v : Value), Ctx w.heap.size H n ρ L w → HoldsS w s v → n1 < 16384 → shOk [s] = true → ∃ ρ' L', Ctx w.heap.size H1 n1 ρ' L' w ∧ Ext ρ L ρ' L' ∧ VR ρ' L' x v := by
  cases s with
  | lit u => exact ⟨u, H, n, rfl, Nat.le_refl _, fun ρ L v c hh _ _ => by obtain ⟨h1, rfl⟩ := hh; exact ⟨ρ, L, c, .refl _ _, litV_vr h1⟩⟩
  | row e m ch =>
    refine ⟨wS n e 0 m 0, hset H n (.cells (Nat.mul m e) ch 0 0 0 0), n + 1, rfl, Nat.le_succ _, fun ρ L v c hh hn _ => ?_⟩
    obtain ⟨h0, h1, h2, rb, d, cp, cs, ty, fz, rfl, h3, h4, h5, h6, h7⟩ := hh
    have hrb : rb < w.heap.size := (Array.getElem?_eq_some_iff.1 h5).1
    have hle : m * e ≤ cp * e := Nat.mul_le_mul_right _ h3
    have c1 := c.arg (nb := m * e) (ch := ch) (sz := cp * e) (d := d) (by omega) h5 hrb h6 hle (fun i hi => by
      obtain ⟨a, b⟩ := h7 i hi
      exact ⟨_, b, litV_vr a, litW_storable a⟩)
    exact ⟨_, _, c1, .fresh c.fresh _ _, .slice n e 0 m 0 rb d (cp * e) cp _ (updR_same _ _ _) h1 (by omega) h2 (by omega) h3 h4 (.inl rfl) (.inr ⟨by simp, by omega⟩)⟩
  | agg m ch =>
    refine ⟨mk 6 n, hset H n (.box 0 m ch), n + 1, rfl, Nat.le_succ _, fun ρ L v c hh hn _ => ?_⟩
    obtain ⟨vs, rfl, h1, h2, h3⟩ := hh
    have e : Ext ρ L ρ (upd L n (.box 0 m ch)) := .freshL c.fresh _
    have hc : CellsR ρ L m ch vs := ⟨h1, h2, fun i hi => by
      obtain ⟨a, b⟩ := h3 i hi
      exact ⟨_, b, litV_vr a, litW_storable a⟩⟩
    exact ⟨ρ, _, ⟨c.sim.box c.fresh _ _ _, c.agree.hset (by omega) _, c.fresh.updL _⟩, e, (hc.mono0 e.toExt0).agg (upd_same _ _ _)⟩
  | clo f cs =>
    have hle := layC_le cs H n []
    refine ⟨mk 10 (layC cs H n []).n, hset (layC cs H n []).H (layC cs H n []).n (.box 2 (lenN cs) (listW (f :: (layC cs H n []).ws))), (layC cs H n []).n + 1, rfl, by omega, fun ρ L v c hh hn hok => ?_⟩
    obtain ⟨vs, rfl, h1, h2⟩ := hh
    have hf : f < 1000000 := by
      have e0 : shOk [.clo f cs] = sel (ltb f 1000000) true false := rfl
      rw [e0, sel_ltb] at hok
      split at hok
      · assumption
      · cases hok
    obtain ⟨ρ1, L1, c1, e1, ha, hs⟩ := layC_sound cs H n [] ρ L vs.toList [] c (by omega) .nil (fun x hx => by cases hx) (by simpa using h1) (fun i x hi => by
      obtain ⟨a, b1, b2⟩ := h2 i x hi
      exact ⟨a, by simpa using b1, b2⟩)
    have hn1 : (layC cs H n []).n < 16384 := by omega
    have e2 : Ext ρ1 L1 ρ1 (upd L1 (layC cs H n []).n (.box 2 (lenN cs) (listW (f :: (layC cs H n []).ws)))) := .freshL c1.fresh _
    have hsl : allSlot (f :: (layC cs H n []).ws) = true := allSlot_of' _ fun y hy => by
      rcases List.mem_cons.1 hy with rfl | hy
      · omega
      · exact hs y hy
    refine ⟨ρ1, _, ⟨c1.sim.box c1.fresh _ _ _, c1.agree.hset hn1 _, c1.fresh.updL _⟩, e1.trans e2, ?_⟩
    refine .clo _ _ _ f vs (upd_same _ _ _) (by rw [getW_listW _ hsl]; rfl) (by rw [h1, lenN_eq]) fun i hi => ?_
    rw [getW_listW _ hsl]
    have hi' : i < ([] ++ vs.toList).length := by simpa using hi
    have := (ha.get i hi').mono e2
    simpa using this

theorem shOk_cons (s : Sh) (l : List Sh) : shOk (s :: l) = true → shOk [s] = true ∧ shOk l = true := by
  intro h
  cases s with
  | lit u => exact ⟨rfl, h⟩
  | row e n c => exact ⟨rfl, h⟩
  | agg m c => exact ⟨rfl, h⟩
  | clo f cs =>
    have e0 : shOk (.clo f cs :: l) = sel (ltb f 1000000) (shOk l) false := rfl
    have e1 : shOk [.clo f cs] = sel (ltb f 1000000) true false := rfl
    rw [e0, sel_ltb] at h
    rw [e1, sel_ltb]
    split at h
    · rename_i hf; exact ⟨by rw [if_pos hf], h⟩
    · cases h
theorem layL_sound : ∀ (l : List Sh) (H : Trie) (n : Nat) (ws : List Nat), n ≤ (layL l H n ws).n ∧
    ∀ (ρ : Rho) (L : Look) (vs us : List Value), Ctx w.heap.size H n ρ L w → AR ρ L ws us → HoldsL w l vs → (layL l H n ws).n < 1000 → shOk l = true →
      ∃ ρ' L', Ctx w.heap.size (layL l H n ws).H (layL l H n ws).n ρ' L' w ∧ AR ρ' L' (layL l H n ws).ws (us ++ vs)
  | [], H, n, ws => ⟨Nat.le_refl _, fun ρ L vs us c ha hh _ _ => by cases hh; exact ⟨ρ, L, c, by rw [List.append_nil]; exact ha⟩⟩
  | s :: l, H, n, ws => by
    obtain ⟨x, H1, n1, e, hn, hS⟩ := layS_sound (w := w) s H n (fun w' H' n' => layL l H' n' (ws ++ [w']))
    have e0 : layL (s :: l) H n ws = layL l H1 n1 (ws ++ [x]) := e
    obtain ⟨h1, h2⟩ := layL_sound l H1 n1 (ws ++ [x])
    rw [e0]
    refine ⟨Nat.le_trans hn h1, fun ρ L vs us c ha hh hlt hok => ?_⟩
    cases hh with
    | cons _ v _ vs' hv hl =>
      obtain ⟨ok1, ok2⟩ := shOk_cons s l hok
      obtain ⟨ρ1, L1, c1, e1, hx⟩ := hS ρ L v c hv (by omega) ok1
      have app : ∀ {ρ : Rho} {L : Look} {xs ys : List Nat} {us vs : List Value}, AR ρ L xs us → AR ρ L ys vs → AR ρ L (xs ++ ys) (us ++ vs) := by
        intro ρ L xs ys us vs h1 h2
        induction h1 with
        | nil => exact h2
        | cons x v xs vs hv _ ih => exact .cons _ _ _ _ hv ih
      obtain ⟨ρ', L', c', ha'⟩ := h2 ρ1 L1 vs' (us ++ [v]) c1 (app (ha.mono e1) (.cons _ _ _ _ hx .nil)) hl hlt ok2
      exact ⟨ρ', L', c', by simpa using ha'⟩
end

/-- surroundings that tell nothing -/
@[reducible] noncomputable def noEnv : Env where
  lst := fun j => if j = 1001 then [.int .u8 0] else []
  int := fun j => if j = 1099511627776 + 1001 then 1 else 0
  wf := fun j => by split <;> omega
  len := fun j _ => by
    have : lenIx j = 1099511627776 + j := rfl
    rw [this]
    by_cases h : j = 1001
    · subst h; simp
    · rw [if_neg (by omega), if_neg h]; rfl
  byThree := by simp
  notThree := by simp
  txt := fun _ => ⟨#[0]⟩
  txtNe := fun _ _ => txt0_ok

theorem known_of {P : Program} {call : Nat → List Nat → Trie → Nat → OR} {fuel f v n n' : Nat} {args : List Nat} {H H' : Trie} (h : funE P call fuel f args H n = .ok v H' n') : Known P f := by
  unfold funE at h
  split at h
  · rename_i fn hfn
    split at h
    · rename_i c hb
      rw [sel_beq] at h
      split at h
      · cases h
      · rename_i hne
        refine ⟨fn, hfn, by rw [hb]; rfl, fun hname => hne ?_⟩
        unfold funE.bne'
        rw [if_pos hname]
    · cases h
  · cases h

/-- ██ A result found by a run. -/
theorem memo_of {P : Program} {S : Sums} (hS : Always P S) {fuel d f v : Nat} {l : List Sh} (h : isWord v (memoRun P S fuel d f l) = true) : MemoK P (f, l, v) := by
  letI : Env := noEnv
  unfold memoRun at h
  simp only at h
  cases hg : sel (shOk l) (ltb (layL l .nil 0 []).n 1000) false with
  | false => rw [hg] at h; cases h
  | true =>
    rw [hg, sel_true] at h
    rw [sel_eq] at hg
    split at hg
    · rename_i hok
      have hlt := (ltb_iff _ _).1 hg
      cases hr : funE P (callN P S fuel d) fuel f (layL l .nil 0 []).ws (layL l .nil 0 []).H (layL l .nil 0 []).n with
      | bad q => rw [hr] at h; cases h
      | ok v' H' n' =>
        rw [hr] at h
        have h' : sel (Nat.beq v' v) (sel (Nat.beq (tagOf v) 1) (ltb (payOf v) 18446744073709551616) (sel (Nat.beq v 18) true (Nat.beq v 2))) false = true := h
        rw [sel_beq] at h'
        split at h'
        · rename_i hv
          subst hv
          have lit : ∀ w : World, ∀ vs : Array Value, HoldsL w l vs.toList → ∃ x, litW v' = true ∧ x = litV v' ∧ Calls P f vs w fun e w' => e = .returned x ∧ Below w.heap.size w w' := by
            intro w vs hh
            obtain ⟨_, hL⟩ := layL_sound (w := w) l .nil 0 []
            obtain ⟨ρ', L', c, ha⟩ := hL _ _ vs.toList [] (Ctx.start w) .nil hh hlt hok
            have key : ∀ cs, ∃ ρ' L' w' x, Below w.heap.size w w' ∧ VR ρ' L' v' x ∧ CallsAt P f vs w cs (fun e W => e = .returned x ∧ W = w') := by
              intro cs
              obtain ⟨ρ2, L2, w', x, _, _, hb, _, _, hx, _, hc⟩ := funE_sound (callN_sound P (hS noEnv) fuel d) cs c (by simpa using ha) hr
              exact ⟨ρ2, L2, w', x, hb, hx, hc⟩
            have hlitw : ∃ (ρ : Rho) (L : Look) (x : Value), VR ρ L v' x := by
              obtain ⟨ρ2, L2, w', x, _, hx, _⟩ := key []
              exact ⟨ρ2, L2, x, hx⟩
            have hl : litW v' = true := by
              obtain ⟨ρ2, L2, x, hx⟩ := hlitw
              unfold litW
              rw [sel_beq] at h'
              split at h'
              · rename_i h1
                obtain ⟨p, hp, hw, hpp, _⟩ := hx.int_inv h1
                rw [sel_ltb, if_pos (by rw [hw]; exact wI_slot hp), sel_beq, if_pos h1, hpp]
                exact (ltb_iff _ _).2 hp
              · rw [sel_beq] at h'
                split at h'
                · rename_i h2; subst h2; rfl
                · have := Nat.eq_of_beq_eq_true h'; subst this; rfl
            refine ⟨litV v', hl, rfl, fun cs => ?_⟩
            obtain ⟨ρ2, L2, w', x, hb, hx, hc⟩ := key cs
            have hxl := litV_of hl hx
            subst hxl
            obtain ⟨e, W, fr, ⟨h1, h2⟩, h3⟩ := hc
            subst h2
            exact ⟨e, W, fr, ⟨h1, hb⟩, h3⟩
          refine ⟨known_of hr, ?_, fun w vs hh => ?_⟩
          · rw [sel_beq] at h'
            split at h'
            · rename_i h1
              exact .inl ⟨h1, (ltb_iff _ _).1 h'⟩
            · rw [sel_beq] at h'
              split at h'
              · exact .inr (.inl (by assumption))
              · exact .inr (.inr (Nat.eq_of_beq_eq_true h'))
          · obtain ⟨x, _, rfl, hc⟩ := lit w vs hh
            exact hc
        · cases h'
    · cases hg
end Go.Eng

/- What is known of calls: results in new memory. -/
namespace Go.Eng
set_option linter.unusedSectionVars false
set_option linter.unusedSimpArgs false
set_option linter.unusedVariables false
open Go Go.RowKit

noncomputable section
/-- a result: a word; a new slice of m elements of e cells; a new slice of new slices of ints -/
inductive RS where
  | lit (v : Nat)
  | row (e m c : Nat)
  | rows (l : List (Nat × Nat))

/-- a new row of k cells c, and its group -/
def isRowE (H : Trie) (w e m c : Nat) (k : Nat → Bool) : Bool :=
  sel (sel (Nat.beq (tagOf w) 4) (sel (Nat.beq (sLen (payOf w)) m) (sel (Nat.beq (sEs (payOf w)) e) (sel (Nat.beq (sOff (payOf w)) 0) (sel (Nat.beq m 0) false (sel (Nat.beq (sBlk (payOf w)) 0) false true)) false) false) false) false)
    (match tget H (Nat.pred (sBlk (payOf w))) with
     | some (.cells nb cb g keep since _) => sel (sel (Nat.beq g 0) false (sel (validE H (Nat.pred (sBlk (payOf w))) g keep since) (sel (Nat.ble (Nat.mul m e) nb) (sel (Nat.beq (chunk cb 0 (Nat.mul m e)) c) (allLit (Nat.mul m e) c) false) false) false)) (k g) false
     | _ => false) false
def noneE (l : List Nat) (g : Nat) : Bool := List.rec (motive := fun _ => Bool) true (fun x _ ih => sel (Nat.beq x g) false ih) l
/-- the words of an outer row, one by one; the groups so far -/
def isRowsE (H : Trie) (l : List (Nat × Nat)) : Nat → List Nat → Bool :=
  List.rec (motive := fun _ => Nat → List Nat → Bool) (fun _ _ => true)
    (fun x _ ih c gs => sel (Nat.beq x.1 0)
      (sel (sel (Nat.beq (tagOf (getW c 0)) 4) (sel (Nat.beq (sLen (payOf (getW c 0))) 0) (sel (Nat.beq (sCap (payOf (getW c 0))) 1) (sel (Nat.beq (sBlk (payOf (getW c 0))) 0) false true) false) false) false) (ih (Nat.shiftRight c 128) gs) false)
      (isRowE H (getW c 0) 1 x.1 x.2 fun g => sel (noneE gs g) (ih (Nat.shiftRight c 128) (g :: gs)) false)) l
def isRes (rs : RS) (r : OR) : Bool :=
  match r with
  | .bad _ => false
  | .ok v H _ => RS.rec (motive := fun _ => Bool) (fun u => isWord u (.ok v H 0)) (fun e m c => isRowE H v e m c fun _ => true)
      (fun l => sel (sel (Nat.beq (tagOf v) 4) (sel (Nat.beq (sLen (payOf v)) (lenN l)) (sel (Nat.beq (sEs (payOf v)) 1) (sel (Nat.beq (sOff (payOf v)) 0) (sel (Nat.beq (lenN l) 0) false (sel (Nat.beq (sBlk (payOf v)) 0) false true)) false) false) false) false)
        (match tget H (Nat.pred (sBlk (payOf v))) with
         | some (.cells nb cb g keep since _) => sel (sel (Nat.beq g 0) false (sel (validE H (Nat.pred (sBlk (payOf v))) g keep since) (Nat.ble (lenN l) nb) false)) (isRowsE H l cb [g]) false
         | _ => false) false) rs

/-- the new rows laid, behind one another, and their words -/
def putRows (l : List (Nat × Nat)) : Trie → Nat → List Nat → Lay :=
  List.rec (motive := fun _ => Trie → Nat → List Nat → Lay) (fun H n ws => ⟨H, n, ws⟩)
    (fun x _ ih H n ws => sel (Nat.beq x.1 0) (ih H n (ws ++ [14])) (ih (hset H n (.cells x.1 x.2 (Nat.succ n) n n x.1)) (Nat.succ n) (ws ++ [wS n 1 0 x.1 0]))) l
def putRes (rs : RS) (H : Trie) (n : Nat) : OR :=
  RS.rec (motive := fun _ => OR) (fun v => .ok v H n)
    (fun e m c => sel (sel (ltb n maxBlk) (sel (ltb e 256) (sel (Nat.beq m 0) false (ltb m 1048576)) false) false) (.ok (wS n e 0 m 0) (hset H n (.cells (Nat.mul m e) c (Nat.succ n) n n (Nat.mul m e))) (Nat.succ n)) (.bad 9))
    (fun l => let y := putRows l H n []
      sel (sel (ltb y.n maxBlk) (sel (ltb (lenN l) 1048576) (allE (fun x : Nat × Nat => ltb x.1 1048576) l) false) false) (.ok (wS y.n 1 0 (lenN l) 0) (hset y.H y.n (.cells (lenN l) (listW y.ws) (Nat.succ y.n) y.n y.n (lenN l))) (Nat.succ y.n)) (.bad 9)) rs

abbrev Memo2 := Nat × List Sh × RS
def memo2S (l : List Memo2) : Sums := fun f args H n =>
  List.rec (motive := fun _ => SR) .no (fun e _ ih => sel (sel (Nat.beq e.1 f) (matchL H e.2.1 args) false) (.yes (putRes e.2.2 H n)) ih) l
end

/-! ### what comes back -/
/-- a new row, from block s on -/
def NewRow (s : Nat) (W : World) (rb d cp e m c : Nat) : Prop :=
  s ≤ rb ∧ m ≤ cp ∧ cp < 9223372036854775808 ∧ ∃ cs ty, W.heap[rb]? = some (.cells cs ty (0, 0)) ∧ d + cp * e ≤ cs.size ∧ c < 2 ^ (128 * (m * e)) ∧ ∀ i, i < m * e → litW (getW c i) = true ∧ cs[d + i]? = some (litV (getW c i))
/-- the elements of an outer row: new rows, or slices without room -/
inductive NewRows (s : Nat) (W : World) : List (Nat × Nat) → List Value → List Nat → Prop
  | nil : NewRows s W [] [] []
  | none (c : Nat) (a : Addr) (l : List (Nat × Nat)) (vs : List Value) (bs : List Nat) : NewRows s W l vs bs → NewRows s W ((0, c) :: l) (.slice (some a) 0 0 :: vs) bs
  | row (m c rb d cp : Nat) (l : List (Nat × Nat)) (vs : List Value) (bs : List Nat) : m ≠ 0 → NewRow s W rb d cp 1 m c → rb ∉ bs → NewRows s W l vs bs → NewRows s W ((m, c) :: l) (.slice (some ⟨rb, d, none⟩) m cp :: vs) (rb :: bs)
def HoldsR (s : Nat) (W : World) (rs : RS) (x : Value) : Prop :=
  match rs with
  | .lit v => litW v = true ∧ x = litV v
  | .row e m c => ∃ rb d cp, x = .slice (some ⟨rb, d, none⟩) m cp ∧ NewRow s W rb d cp e m c
  | .rows l => ∃ rb d cp cs ty vs bs, x = .slice (some ⟨rb, d, none⟩) l.length cp ∧ s ≤ rb ∧ l.length ≤ cp ∧ cp < 9223372036854775808 ∧ W.heap[rb]? = some (.cells cs ty (0, 0)) ∧ d + cp ≤ cs.size ∧
      NewRows s W l vs bs ∧ rb ∉ bs ∧ vs.length = l.length ∧ ∀ i, i < l.length → cs[d + i]? = vs[i]?

structure Memo2K (P : Program) (e : Memo2) : Prop where
  known : Known P e.1
  calls : ∀ (w : World) (vs : Array Value), HoldsL w e.2.1 vs.toList → Calls P e.1 vs w fun r w' => ∃ x, r = .returned x ∧ HoldsR w.heap.size w' e.2.2 x ∧ Below w.heap.size w w'

section
variable [E : Env]
section
variable {base n : Nat} {H : Trie} {ρ : Rho} {L : Look} {w : World}
/-- A block that lies in the world already is told of. -/
theorem Ctx.adopt (c : Ctx base H n ρ L w) (hn : n < 16384) {rb d sz len ch : Nat} {cs : Array Value} {ty : TypeId} (hh : w.heap[rb]? = some (.cells cs ty (0, 0))) (hb : base ≤ rb) (hkn : E.kept rb = none) (hnew : ∀ b r, ρ b = some r → r.1 ≠ rb) (hsz : d + sz ≤ cs.size) (hlen : len ≤ sz)
    (hc : ∀ j, j < len → ∃ v, cs[d + j]? = some v ∧ VR ρ L (getW ch j) v ∧ storable (getW ch j) = true) :
    Ctx base (hset H n (.cells len ch (n + 1) n n len)) (n + 1) (updR ρ n (rb, d, sz)) (upd L n (.cells len ch (n + 1) n n len)) w ∧ Ext ρ L (updR ρ n (rb, d, sz)) (upd L n (.cells len ch (n + 1) n n len)) := by
  have hf := c.fresh
  have hs := c.sim
  have e : Ext ρ L (updR ρ n (rb, d, sz)) (upd L n (.cells len ch (n + 1) n n len)) := .fresh hf _ _
  have hrb : rb < w.heap.size := (Array.getElem?_eq_some_iff.1 hh).1
  have hk : OwnK n (.cells len ch (n + 1) n n len) := ⟨rfl, rfl, rfl, Nat.le_refl _⟩
  have old : ∀ b r, updR ρ n (rb, d, sz) b = some r → b ≠ n → ρ b = some r := fun b r h hne => by rw [updR_ne _ _ hne] at h; exact h
  have gold : ∀ b, b ≠ n → grp (upd L n (.cells len ch (n + 1) n n len)) b = grp L b := fun b hb => grp_upd_ne hb
  have ldne : ∀ b r, ρ b = some r → grp L b = 0 ∨ grp L b - 1 ≠ n := fun b r h => by
    by_cases h0 : grp L b = 0
    · exact .inl h0
    · obtain ⟨⟨q, hq⟩, _⟩ := hs.ld b r h h0
      have := hf.lt hq
      exact .inr (by omega)
  have lold : ∀ b r, ρ b = some r → b ≠ n → (live (upd L n (.cells len ch (n + 1) n n len)) b ↔ live L b) := fun b r h hne => live_upd_ne hne (ldne b r h)
  have iold : ∀ b r, ρ b = some r → grp L b ≠ 0 → info (upd L n (.cells len ch (n + 1) n n len)) (grp L b - 1) = info L (grp L b - 1) := fun b r h h0 => info_upd_ne ((ldne b r h).resolve_left h0)
  have gn : grp (upd L n (.cells len ch (n + 1) n n len)) n = n + 1 := hk.grp L
  refine ⟨⟨⟨?_, ?_, ?_, ?_, ?_, ?_, ?_, hs.bs, ?_, ?_, fun j p q s d' lo hi hL h64 => (by
    by_cases hne : j = n
    · subst hne; rw [upd_same] at hL; cases hL
    · rw [upd_ne _ _ hne] at hL; exact hs.pol j p q s d' lo hi hL h64), fun b r h hg => (by
    by_cases hne : b = n
    · subst hne; rw [updR_same] at h; injection h with h; subst h; exact hkn
    · rw [gold b hne] at hg; exact hs.rk b r (old b r h hne) hg), hs.kp⟩, c.agree.hset hn _, hf.upd _ _⟩, e⟩
  · intro b r h
    by_cases hne : b = n
    · subst hne
      rw [updR_same] at h; injection h with h; subst h
      refine ⟨_, upd_same _ _ _, fun _ => ⟨cs, ty, (0, 0), hh, hsz, hlen, fun _ => rfl, fun i hi => ?_⟩⟩
      obtain ⟨v, a, b, d⟩ := hc i hi
      exact ⟨v, a, b.mono e, d⟩
    · have h' := old b r h hne
      obtain ⟨kk, h1, h2⟩ := hs.blk b r h'
      exact ⟨kk, by rw [upd_ne _ _ hne]; exact h1, fun hl => (h2 ((lold b r h' hne).1 hl)).mono e rfl⟩
  · intro b b' r r' h h' hl hl' hg hg' hgg
    by_cases hne : b = n
    · by_cases hne' : b' = n
      · subst hne; subst hne'; exact absurd rfl hgg
      · subst hne
        rw [updR_same] at h; injection h with h; subst h
        exact (hnew b' r' (old b' r' h' hne')).symm
    · by_cases hne' : b' = n
      · subst hne'
        rw [updR_same] at h'; injection h' with h'; subst h'
        exact hnew b r (old b r h hne)
      · have k1 := old b r h hne
        have k2 := old b' r' h' hne'
        rw [gold b hne] at hg hgg
        rw [gold b' hne'] at hg' hgg
        exact hs.sep b b' r r' k1 k2 ((lold b r k1 hne).1 hl) ((lold b' r' k2 hne').1 hl') hg hg' hgg
  · intro b b' r r' h h' hl hl' hg hgg hrr
    by_cases hne : b = n
    · by_cases hne' : b' = n
      · subst hne; subst hne'; rw [h] at h'; injection h' with h'; rw [h']
      · subst hne
        rw [updR_same] at h; injection h with h; subst h
        exact absurd hrr.symm (hnew b' r' (old b' r' h' hne'))
    · by_cases hne' : b' = n
      · subst hne'
        rw [updR_same] at h'; injection h' with h'; subst h'
        exact absurd hrr (hnew b r (old b r h hne))
      · have k1 := old b r h hne
        have k2 := old b' r' h' hne'
        rw [gold b hne] at hg hgg
        rw [gold b' hne'] at hgg
        exact hs.same b b' r r' k1 k2 ((lold b r k1 hne).1 hl) ((lold b' r' k2 hne').1 hl') hg hgg hrr
  · intro b r m c' g kk s mm h hl hL hg
    by_cases hne : b = n
    · subst hne
      rw [upd_same] at hL; injection hL with hL; injection hL with q1 q2 q3 q4 q5 q6
      subst q3
      simp only [Nat.add_sub_cancel, info, upd_same]
      omega
    · have h' := old b r h hne
      rw [upd_ne _ _ hne] at hL
      have hg0 : grp L b = g := grp_of hL
      have := iold b r h' (by rw [hg0]; exact hg)
      rw [hg0] at this
      rw [this]
      exact hs.mx b r m c' g kk s mm h' ((lold b r h' hne).1 hl) hL hg
  · intro b r h hg
    by_cases hne : b = n
    · subst hne; rw [updR_same] at h; injection h with h; subst h; exact hb
    · rw [gold b hne] at hg; exact hs.rw b r (old b r h hne) hg
  · intro b r h hg
    by_cases hne : b = n
    · subst hne; rw [gn] at hg; omega
    · rw [gold b hne] at hg; exact hs.ro b r (old b r h hne) hg
  · intro b r h
    by_cases hne : b = n
    · subst hne; rw [updR_same] at h; injection h with h; subst h; exact hrb
    · exact hs.bnd b r (old b r h hne)
  · intro b r h hg
    by_cases hne : b = n
    · subst hne; rw [gn]; exact ⟨⟨_, updR_same _ _ _⟩, gn⟩
    · have h' := old b r h hne
      rw [gold b hne] at hg ⊢
      obtain ⟨⟨q, hq⟩, h2⟩ := hs.ld b r h' hg
      exact ⟨⟨q, e.place _ _ hq⟩, by rw [gold _ ((ldne b r h').resolve_left hg)]; exact h2⟩
  · intro b m c' g kk s mm hL hg
    by_cases hne : b = n
    · subst hne
      rw [upd_same] at hL; injection hL with hL; injection hL with q1 q2 q3
      exact ⟨len, ch, b, b, len, by rw [← q3]; exact upd_same _ _ _⟩
    · rw [upd_ne _ _ hne] at hL
      obtain ⟨a1, a2, a3, a4, a5, a6⟩ := hs.kind b m c' g kk s mm hL hg
      exact ⟨a1, a2, a3, a4, a5, by rw [upd_ne _ _ (by have := hf.ltL a6; omega)]; exact a6⟩

theorem isRowE_inv (c : Ctx base H n ρ L w) {x : Nat} {v : Value} (hx : VR ρ L x v) {e m ch : Nat} {k : Nat → Bool} (h : isRowE H x e m ch k = true) :
    ∃ b rb d sz cp g, v = .slice (some ⟨rb, d, none⟩) m cp ∧ NewRow base w rb d cp e m ch ∧ k g = true ∧ live L b ∧ grp L b = g ∧ g ≠ 0 ∧ ρ b = some (rb, d, sz) ∧ m ≠ 0 := by
  unfold isRowE at h
  rw [sel_eq] at h
  split at h
  · rename_i h1
    rw [sel_beq] at h1
    split at h1
    · rename_i h4
      rw [sel_beq] at h1
      split at h1
      · rename_i hlen
        rw [sel_beq] at h1
        split at h1
        · rename_i hes
          rw [sel_beq] at h1
          split at h1
          · rename_i hof0
            rw [sel_beq] at h1
            split at h1
            · cases h1
            · rename_i hm0
              rw [sel_beq] at h1
              split at h1
              · cases h1
              · rename_i hbn
                rcases hx.slice_inv h4 with ⟨rfl, _⟩ | ⟨b, es, off, m', kk, rb, d, sz, cp, a, hb, he, ho, hm, hk, hmc, hbig, hk1, hcp, rfl, rfl⟩
                · exact absurd s_nil.2.2.2.2.2 hbn
                · obtain ⟨_, q1, q2, q3, q4, q5⟩ := s_parts b es off m' kk he ho hm hk
                  rw [q1] at hlen; rw [q4] at hes; rw [q3] at hof0
                  subst hlen; subst hes; subst hof0
                  rw [q5, Nat.pred_succ] at h
                  split at h
                  · rename_i nb cb g keep since mx hget
                    rw [sel_eq] at h
                    split at h
                    · rename_i hc
                      rw [sel_beq] at hc
                      split at hc
                      · cases hc
                      · rename_i hg0
                        rw [sel_eq] at hc
                        split at hc
                        · rename_i hval
                          rw [sel_ble] at hc
                          split at hc
                          · rename_i hle
                            rw [sel_beq] at hc
                            split at hc
                            · rename_i hcc
                              have hL := c.agree.2 _ _ hget
                              have hl := validE_iff c.agree hL hval
                              obtain ⟨k2, hk2, hbr⟩ := c.sim.blk b _ hb
                              rw [hL] at hk2; injection hk2 with hk2; subst hk2
                              obtain ⟨cs, ty, fz, g1, g2, g3, g4, g5⟩ := hbr hl
                              obtain rfl := g4 hg0
                              have hgrp : grp L b = g := grp_of hL
                              have hcp2 := hcp.resolve_left (by omega)
                              have hbase : base ≤ rb := c.sim.rw b _ hb (by rw [hgrp]; exact hg0)
                              simp only at g2 g3 g5
                              have hle' : m' * es ≤ nb := hle
                              refine ⟨b, rb, d, sz, cp, g, by rw [hcp2.1]; rfl, ⟨hbase, hmc, hbig, cs, ty, g1, by have := hcp2.2; omega, by rw [← hcc]; exact chunk_lt _ _ _, fun i hi => ?_⟩, h, hl, hgrp, hg0, hb, hm0⟩
                              have hli := allLit_iff _ _ hc i hi
                              refine ⟨hli, ?_⟩
                              obtain ⟨u, u1, u2, _⟩ := g5 i (by omega)
                              rw [← hcc, getW_chunk _ _ _ _ (show i < Nat.mul m' es from hi), Nat.zero_add] at hli ⊢
                              rw [u1, litV_of hli u2]
                            · cases hc
                          · cases hc
                        · cases hc
                    · cases h
                  · cases h
          · cases h1
        · cases h1
      · cases h1
    · cases h1
  · cases h

theorem noneE_inv : ∀ (l : List Nat) (g : Nat), noneE l g = true → g ∉ l
  | [], _, _ => by simp
  | x :: l, g, h => by
    have e : noneE (x :: l) g = sel (Nat.beq x g) false (noneE l g) := rfl
    rw [e, sel_beq] at h
    split at h
    · cases h
    · rename_i hne
      have := noneE_inv l g h
      simp only [List.mem_cons, not_or]
      exact ⟨fun hh => hne hh.symm, this⟩

/-- The elements of an outer row. The groups that were met stand for blocks of the world. -/
theorem isRowsE_inv (c : Ctx base H n ρ L w) : ∀ (l : List (Nat × Nat)) (ch : Nat) (gs : List Nat) (vs : List Value) (rs : List Nat), vs.length = l.length → (∀ i (h : i < vs.length), VR ρ L (getW ch i) vs[i]) →
    isRowsE H l ch gs = true → (∀ g ∈ gs, ∃ b r, live L b ∧ grp L b = g ∧ g ≠ 0 ∧ ρ b = some r ∧ r.1 ∈ rs) → (∀ r ∈ rs, ∃ g ∈ gs, ∃ b q, live L b ∧ grp L b = g ∧ g ≠ 0 ∧ ρ b = some q ∧ q.1 = r) →
    ∃ bs, NewRows base w l vs bs ∧ ∀ r ∈ bs, r ∉ rs
  | [], ch, gs, vs, rs, hl, hv, h, hg, hr => by
    have : vs = [] := List.eq_nil_of_length_eq_zero (by simpa using hl)
    subst this
    exact ⟨[], .nil, by simp⟩
  | x :: l, ch, gs, [], rs, hl, hv, h, hg, hr => by simp at hl
  | x :: l, ch, gs, v :: vs, rs, hl, hv, h, hg, hr => by
    have e : isRowsE H (x :: l) ch gs = sel (Nat.beq x.1 0)
      (sel (sel (Nat.beq (tagOf (getW ch 0)) 4) (sel (Nat.beq (sLen (payOf (getW ch 0))) 0) (sel (Nat.beq (sCap (payOf (getW ch 0))) 1) (sel (Nat.beq (sBlk (payOf (getW ch 0))) 0) false true) false) false) false) (isRowsE H l (Nat.shiftRight ch 128) gs) false)
      (isRowE H (getW ch 0) 1 x.1 x.2 fun g => sel (noneE gs g) (isRowsE H l (Nat.shiftRight ch 128) (g :: gs)) false) := rfl
    have hv0 : VR ρ L (getW ch 0) v := hv 0 (by simp)
    have hvt : ∀ i (h : i < vs.length), VR ρ L (getW (Nat.shiftRight ch 128) i) vs[i] := fun i hi => by
      rw [getW_shift]
      have := hv (i + 1) (by simpa using hi)
      simpa using this
    rw [e, sel_beq] at h
    split at h
    · rename_i hx0
      rw [sel_eq] at h
      split at h
      · rename_i h1
        rw [sel_beq] at h1
        split at h1
        · rename_i h4
          rw [sel_beq] at h1
          split at h1
          · rename_i hlen
            rw [sel_beq] at h1
            split at h1
            · rename_i hcap
              rw [sel_beq] at h1
              split at h1
              · cases h1
              · rename_i hbn
                obtain ⟨bs, hb1, hb2⟩ := isRowsE_inv c l (Nat.shiftRight ch 128) gs vs rs (by simpa using hl) hvt h hg hr
                rcases hv0.slice_inv h4 with ⟨h5, _⟩ | ⟨b, es, off, m', kk, rb, d, sz, cp, a, hb, he, ho, hm, hk, hmc, hbig, hk1, hcp, h5, rfl⟩
                · rw [h5] at hbn; exact absurd s_nil.2.2.2.2.2 hbn
                · obtain ⟨_, q1, q2, q3, q4, q5⟩ := s_parts b es off m' kk he ho hm hk
                  rw [h5, q1] at hlen
                  rw [h5, q2] at hcap
                  have hcp0 : cp = 0 := by omega
                  subst hlen; subst hcp0
                  obtain ⟨x1, x2⟩ := x
                  simp only at hx0
                  subst hx0
                  exact ⟨bs, .none x2 a l vs bs hb1, hb2⟩
            · cases h1
          · cases h1
        · cases h1
      · cases h
    · rename_i hx0
      obtain ⟨b, rb, d, sz, cp, g, rfl, hnr, hk, hlive, hgrp, hg0, hρ, hm0⟩ := isRowE_inv c hv0 h
      rw [sel_eq] at hk
      split at hk
      · rename_i hn
        have hng := noneE_inv gs g hn
        have hrs : rb ∉ rs := by
          intro hmem
          obtain ⟨g', hg', b', q, hl', hgr', hg0', hρ', hq⟩ := hr rb hmem
          have hne : grp L b ≠ grp L b' := by rw [hgrp, hgr']; intro hh; exact hng (hh ▸ hg')
          exact c.sim.sep b b' _ q hρ hρ' hlive hl' (by rw [hgrp]; exact hg0) (by rw [hgr']; exact hg0') hne hq.symm
        obtain ⟨bs, hb1, hb2⟩ := isRowsE_inv c l (Nat.shiftRight ch 128) (g :: gs) vs (rb :: rs) (by simpa using hl) hvt hk (fun g' hg' => by
          rcases List.mem_cons.1 hg' with rfl | hg'
          · exact ⟨b, _, hlive, hgrp, hg0, hρ, by simp⟩
          · obtain ⟨b', r, a1, a2, a3, a4, a5⟩ := hg g' hg'
            exact ⟨b', r, a1, a2, a3, a4, by simp [a5]⟩) (fun r hrm => by
          rcases List.mem_cons.1 hrm with rfl | hrm
          · exact ⟨g, by simp, b, _, hlive, hgrp, hg0, hρ, rfl⟩
          · obtain ⟨g', a0, a1⟩ := hr r hrm
            exact ⟨g', by simp [a0], a1⟩)
        obtain ⟨x1, x2⟩ := x
        exact ⟨rb :: bs, .row x1 x2 rb d cp l vs bs hx0 hnr (fun hh => hb2 rb hh (by simp)) hb1, fun r hrm => by
          rcases List.mem_cons.1 hrm with rfl | hrm
          · exact hrs
          · exact fun hh => hb2 r hrm (by simp [hh])⟩
      · cases hk

/-- The state behind a result. -/
theorem adopt_row (c : Ctx base H n ρ L w) (hn : n < 16384) {s rb d cp e m ch : Nat} (hs : Low base s) (h : NewRow s w rb d cp e m ch) (he : e < 256) (hm : m < 1048576) (hnew : ∀ b r, ρ b = some r → r.1 ≠ rb) (h0 : m = 0 → cp ≠ 0) :
    ∃ ρ' L', Ctx base (hset H n (.cells (Nat.mul m e) ch (n + 1) n n (Nat.mul m e))) (n + 1) ρ' L' w ∧ Ext ρ L ρ' L' ∧ VR ρ' L' (wS n e 0 m 0) (.slice (some ⟨rb, d, none⟩) m cp) ∧ (∀ b r, ρ' b = some r → ρ b = some r ∨ r.1 = rb) ∧ Loc H n ρ L ρ' L' := by
  obtain ⟨h1, h2, h3, cs, ty, h4, h5, h6, h7⟩ := h
  have hle : m * e ≤ cp * e := Nat.mul_le_mul_right _ h2
  obtain ⟨c1, e1⟩ := c.adopt (sz := cp * e) (len := Nat.mul m e) (ch := ch) hn h4 (Nat.le_trans hs.1 h1) (hs.2 _ h1) hnew h5 hle (fun j hj => by
    obtain ⟨a, b⟩ := h7 j hj
    exact ⟨_, b, litV_vr a, litW_storable a⟩)
  refine ⟨_, _, c1, e1, .slice n e 0 m 0 rb d (cp * e) cp _ (updR_same _ _ _) he (by omega) hm (by omega) h2 h3 (.inl rfl) (.inr ⟨by simp, by omega⟩), fun b r hr => ?_, .fresh _ _⟩
  by_cases hbn : b = n
  · subst hbn; rw [updR_same] at hr; injection hr with hr; subst hr; exact .inr rfl
  · rw [updR_ne _ _ hbn] at hr; exact .inl hr

theorem putRows_le : ∀ (l : List (Nat × Nat)) (H : Trie) (n : Nat) (ws : List Nat), n ≤ (putRows l H n ws).n
  | [], H, n, ws => Nat.le_refl _
  | x :: l, H, n, ws => by
    have e : putRows (x :: l) H n ws = sel (Nat.beq x.1 0) (putRows l H n (ws ++ [14])) (putRows l (hset H n (.cells x.1 x.2 (Nat.succ n) n n x.1)) (Nat.succ n) (ws ++ [wS n 1 0 x.1 0])) := rfl
    rw [e, sel_beq]
    split
    · exact putRows_le l H n _
    · exact Nat.le_trans (Nat.le_succ n) (putRows_le l _ _ _)
theorem AR.app {ρ : Rho} {L : Look} {xs ys : List Nat} {us vs : List Value} (h1 : AR ρ L xs us) (h2 : AR ρ L ys vs) : AR ρ L (xs ++ ys) (us ++ vs) := by
  induction h1 with
  | nil => exact h2
  | cons x v xs vs hv _ ih => exact .cons _ _ _ _ hv ih
theorem putRows_sound {s : Nat} : ∀ (l : List (Nat × Nat)) (vs : List Value) (bs : List Nat) (H : Trie) (n : Nat) (ws : List Nat) (us : List Value) (ρ : Rho) (L : Look), Ctx base H n ρ L w → Low base s → NewRows s w l vs bs → (putRows l H n ws).n < 16384 →
    (∀ x ∈ l, x.1 < 1048576) → (∀ b r, ρ b = some r → r.1 ∉ bs) → AR ρ L ws us → (∀ x ∈ ws, storable x = true) →
    ∃ ρ' L', Ctx base (putRows l H n ws).H (putRows l H n ws).n ρ' L' w ∧ Ext ρ L ρ' L' ∧ AR ρ' L' (putRows l H n ws).ws (us ++ vs) ∧ (∀ x ∈ (putRows l H n ws).ws, storable x = true) ∧ (∀ b r, ρ' b = some r → ρ b = some r ∨ r.1 ∈ bs) ∧ Loc H n ρ L ρ' L'
  | [], vs, bs, H, n, ws, us, ρ, L, c, hs, hnr, hlt, hl, hbs, ha, hst => by
    cases hnr
    exact ⟨ρ, L, c, .refl _ _, by rw [List.append_nil]; exact ha, hst, fun b r h => .inl h, .refl _ _ _ _⟩
  | x :: l, vs, bs, H, n, ws, us, ρ, L, c, hs, hnr, hlt, hl, hbs, ha, hst => by
    have e : putRows (x :: l) H n ws = sel (Nat.beq x.1 0) (putRows l H n (ws ++ [14])) (putRows l (hset H n (.cells x.1 x.2 (Nat.succ n) n n x.1)) (Nat.succ n) (ws ++ [wS n 1 0 x.1 0])) := rfl
    cases hnr with
    | none ch a _ vs' _ h1 =>
      rw [e, sel_beq, if_pos rfl] at hlt ⊢
      obtain ⟨ρ', L', c', e', ha', hst', hb', hloc⟩ := putRows_sound l vs' bs H n (ws ++ [14]) (us ++ [.slice (some a) 0 0]) ρ L c hs h1 hlt (fun y hy => hl y (List.mem_cons_of_mem _ hy)) hbs (ha.app (.cons _ _ _ _ (.sl0 a) .nil)) (fun y hy => by
        rcases List.mem_append.1 hy with hy | hy
        · exact hst y hy
        · simp at hy; subst hy; decide)
      exact ⟨ρ', L', c', e', by simpa using ha', hst', hb', hloc⟩
    | row m ch rb d cp _ vs' bs' hm0 h1 h2 h3 =>
      rw [e, sel_beq, if_neg hm0] at hlt ⊢
      have hle := putRows_le l (hset H n (.cells m ch (Nat.succ n) n n m)) (Nat.succ n) (ws ++ [wS n 1 0 m 0])
      have hmlt : m < 1048576 := hl _ List.mem_cons_self
      obtain ⟨ρ1, L1, c1, e1, v1, hb1, hloc1⟩ := adopt_row c (by simp only at hlt hle; omega) hs h1 (by omega) hmlt (fun b r hr => fun hh => hbs b r hr (by simp [hh])) (fun h => absurd h hm0)
      rw [show Nat.mul m 1 = m from Nat.mul_one m] at c1
      obtain ⟨ρ', L', c', e', ha', hst', hb', hloc⟩ := putRows_sound l vs' bs' (hset H n (.cells m ch (Nat.succ n) n n m)) (Nat.succ n) (ws ++ [wS n 1 0 m 0]) (us ++ [.slice (some ⟨rb, d, none⟩) m cp]) ρ1 L1 c1 hs h3 hlt (fun y hy => hl y (List.mem_cons_of_mem _ hy)) (fun b r hr => by
        rcases hb1 b r hr with hr | hr
        · exact fun hh => hbs b r hr (by simp [hh])
        · rw [hr]; exact h2) ((ha.mono e1).app (.cons _ _ _ _ v1 .nil)) (fun y hy => by
        rcases List.mem_append.1 hy with hy | hy
        · exact hst y hy
        · simp at hy; subst hy
          rw [storable_iff, tag_wS]
          have hnl : n < 16384 := by simp only at hlt hle; omega
          exact ⟨by decide, by decide, by decide, by rw [wS_eq]; omega⟩)
      refine ⟨ρ', L', c', e1.trans e', by simpa using ha', hst', fun b r hr => ?_, hloc1.trans (Nat.le_succ _) hloc⟩
      rcases hb' b r hr with hr | hr
      · rcases hb1 b r hr with hr | hr
        · exact .inl hr
        · exact .inr (by simp [hr])
      · exact .inr (by simp [hr])

theorem storable_lt {x : Nat} (h : storable x = true) : x < 2 ^ 128 := ((storable_iff _).1 h).2.2.2
theorem NewRows.len {s : Nat} {W : World} {l : List (Nat × Nat)} {vs : List Value} {bs : List Nat} (h : NewRows s W l vs bs) : vs.length = l.length := by
  induction h with
  | nil => rfl
  | none _ _ _ _ _ _ ih => simp [ih]
  | row _ _ _ _ _ _ _ _ _ _ _ _ ih => simp [ih]
theorem NewRows.low {s : Nat} {W : World} {l : List (Nat × Nat)} {vs : List Value} {bs : List Nat} (h : NewRows s W l vs bs) : ∀ b ∈ bs, s ≤ b := by
  induction h with
  | nil => intro b hb; cases hb
  | none _ _ _ _ _ _ ih => exact ih
  | row _ _ _ _ _ _ _ _ _ h2 _ _ ih =>
    intro b hb
    rcases List.mem_cons.1 hb with rfl | hb
    · exact h2.1
    · exact ih b hb
theorem putRes_sound (c : Ctx base H n ρ L w) {s : Nat} (hs : Low base s) (hnew : ∀ b r, ρ b = some r → r.1 < s) {rs : RS} {x : Value} {v n' : Nat} {H' : Trie} (hx : HoldsR s w rs x) (h : putRes rs H n = .ok v H' n') :
    ∃ ρ' L', Ctx base H' n' ρ' L' w ∧ Ext ρ L ρ' L' ∧ Loc H n ρ L ρ' L' ∧ n ≤ n' ∧ VR ρ' L' v x := by
  cases rs with
  | lit u =>
    have e : putRes (.lit u) H n = .ok u H n := rfl
    rw [e] at h; injection h with h1 h2 h3
    subst h1; subst h2; subst h3
    obtain ⟨hl, rfl⟩ := hx
    exact ⟨ρ, L, c, .refl _ _, .refl _ _ _ _, Nat.le_refl _, litV_vr hl⟩
  | row e m ch =>
    have e0 : putRes (.row e m ch) H n = sel (sel (ltb n maxBlk) (sel (ltb e 256) (sel (Nat.beq m 0) false (ltb m 1048576)) false) false) (.ok (wS n e 0 m 0) (hset H n (.cells (Nat.mul m e) ch (Nat.succ n) n n (Nat.mul m e))) (Nat.succ n)) (.bad 9) := rfl
    rw [e0, sel_eq] at h
    split at h
    · rename_i hg
      rw [sel_ltb] at hg
      split at hg
      · rename_i hn
        rw [sel_ltb] at hg
        split at hg
        · rename_i he
          rw [sel_beq] at hg
          split at hg
          · cases hg
          · rename_i hm0
            have hm := (ltb_iff _ _).1 hg
            injection h with h1 h2 h3
            subst h1; subst h2; subst h3
            obtain ⟨rb, d, cp, rfl, hr⟩ := hx
            obtain ⟨ρ', L', c', e', v', _, hloc⟩ := adopt_row c hn hs hr he hm (fun b r hbr => by have := hnew b r hbr; have := hr.1; omega) (fun h => absurd h hm0)
            exact ⟨ρ', L', c', e', hloc, Nat.le_succ _, v'⟩
        · cases hg
      · cases hg
    · cases h
  | rows l =>
    have e0 : putRes (.rows l) H n = sel (sel (ltb (putRows l H n []).n maxBlk) (sel (ltb (lenN l) 1048576) (allE (fun x : Nat × Nat => ltb x.1 1048576) l) false) false) (.ok (wS (putRows l H n []).n 1 0 (lenN l) 0) (hset (putRows l H n []).H (putRows l H n []).n (.cells (lenN l) (listW (putRows l H n []).ws) (Nat.succ (putRows l H n []).n) (putRows l H n []).n (putRows l H n []).n (lenN l))) (Nat.succ (putRows l H n []).n)) (.bad 9) := rfl
    rw [e0, sel_eq] at h
    split at h
    · rename_i hg
      rw [sel_ltb] at hg
      split at hg
      · rename_i hn
        rw [sel_ltb] at hg
        split at hg
        · rename_i hll
          rw [allE_iff] at hg
          injection h with h1 h2 h3
          subst h1; subst h2; subst h3
          rw [lenN_eq] at hll ⊢
          obtain ⟨rb, d, cp, cs, ty, vs, bs, rfl, q1, q2, q3, q4, q5, q6, q7, q8, q9⟩ := hx
          have hbs := q6.low
          obtain ⟨ρ1, L1, c1, e1, ha1, hst1, hb1, hloc1⟩ := putRows_sound l vs bs H n [] [] ρ L c hs q6 hn (fun x hx => (ltb_iff _ _).1 (hg x hx)) (fun b r hbr => fun hh => by have := hnew b r hbr; have := hbs _ hh; omega) .nil (fun x hx => by cases hx)
          have hsl : allSlot (putRows l H n []).ws = true := allSlot_of' _ fun y hy => storable_lt (hst1 y hy)
          have hwl : (putRows l H n []).ws.length = l.length := by
            have := ha1.length
            simp only [List.nil_append] at this
            omega
          obtain ⟨c2, e2⟩ := c1.adopt (sz := cp) (d := d) (len := l.length) (ch := listW (putRows l H n []).ws) hn q4 (Nat.le_trans hs.1 q1) (hs.2 _ q1) (fun b r hbr => by
            rcases hb1 b r hbr with hbr | hbr
            · have := hnew b r hbr; omega
            · exact fun hh => q7 (hh ▸ hbr)) q5 q2 (fun j hj => by
            have hjv : j < ([] ++ vs).length := by simp; omega
            have hvr := ha1.get j hjv
            have hjw : j < (putRows l H n []).ws.length := by omega
            refine ⟨vs[j]'(by omega), by rw [q9 j hj, List.getElem?_eq_getElem (by omega)], ?_, ?_⟩
            · rw [getW_listW _ hsl]; simpa using hvr
            · rw [getW_listW _ hsl, List.getD_eq_getElem?_getD, List.getElem?_eq_getElem hjw]
              exact hst1 _ (List.getElem_mem hjw))
          have hle := putRows_le l H n []
          refine ⟨_, _, c2, e1.trans e2, Loc.trans (H1 := H) hloc1 hle (.fresh _ _), by omega, ?_⟩
          exact .slice _ 1 0 l.length 0 rb d cp cp _ (updR_same _ _ _) (by omega) (by omega) hll (by omega) q2 q3 (.inl rfl) (.inr ⟨by simp, by omega⟩)
        · cases hg
      · cases hg
    · cases h
end
end

theorem memo2S_always {P : Program} : ∀ (l : List Memo2), (∀ e ∈ l, Memo2K P e) → Always P (memo2S l) := by
  intro l hl E base H n ρ L w f args vs v H' n' cs c ha h
  induction l with
  | nil => cases h
  | cons e l ih =>
    have e0 : memo2S (e :: l) f args H n = sel (sel (Nat.beq e.1 f) (matchL H e.2.1 args) false) (.yes (putRes e.2.2 H n)) (memo2S l f args H n) := rfl
    rw [e0, sel_eq] at h
    split at h
    · rename_i h1
      rw [sel_beq] at h1
      split at h1
      · rename_i hf
        injection h with h
        have K := hl e List.mem_cons_self
        have hh := matchL_holds c e.2.1 args vs.toList ha h1
        obtain ⟨r, W, ⟨x, hr, hx, hb⟩, hcall⟩ := calls_at (K.calls w vs hh) cs
        subst hr
        rw [← hf]
        obtain ⟨ρ', L', c', e', hloc, hn, hv⟩ := putRes_sound (c.later hb) c.sim.low c.sim.bnd hx h
        exact ⟨ρ', L', W, x, c', e', hb.mono c.sim.bs, hloc, hn, hv, K.known, hcall⟩
      · cases h1
    · exact ih (fun e he => hl e (List.mem_cons_of_mem _ he)) h

theorem litW_word {v : Nat} {r : OR} {H : Trie} {n : Nat} (h : isWord v (.ok v H n) = true) : tagOf v = 1 ∧ payOf v < 18446744073709551616 ∨ v = 18 ∨ v = 2 := by
  have h' : sel (Nat.beq v v) (sel (Nat.beq (tagOf v) 1) (ltb (payOf v) 18446744073709551616) (sel (Nat.beq v 18) true (Nat.beq v 2))) false = true := h
  rw [sel_beq, if_pos rfl, sel_beq] at h'
  split at h'
  · rename_i h1; exact .inl ⟨h1, (ltb_iff _ _).1 h'⟩
  · rw [sel_beq] at h'
    split at h'
    · exact .inr (.inl (by assumption))
    · exact .inr (.inr (Nat.eq_of_beq_eq_true h'))
/-- ██ A result found by a run. -/
theorem memo2_of {P : Program} {S : Sums} (hS : Always P S) {fuel d f : Nat} {l : List Sh} {rs : RS} (h : isRes rs (memoRun P S fuel d f l) = true) : Memo2K P (f, l, rs) := by
  letI : Env := noEnv
  unfold memoRun at h
  simp only at h
  cases hg : sel (shOk l) (ltb (layL l .nil 0 []).n 1000) false with
  | false => rw [hg] at h; cases h
  | true =>
    rw [hg, sel_true] at h
    rw [sel_eq] at hg
    split at hg
    · rename_i hok
      have hlt := (ltb_iff _ _).1 hg
      cases hr : funE P (callN P S fuel d) fuel f (layL l .nil 0 []).ws (layL l .nil 0 []).H (layL l .nil 0 []).n with
      | bad q => rw [hr] at h; cases h
      | ok v' H' n' =>
        rw [hr] at h
        refine ⟨known_of hr, fun w vs hh cs => ?_⟩
        obtain ⟨_, hL⟩ := layL_sound (w := w) l .nil 0 []
        obtain ⟨ρ', L', c, ha⟩ := hL _ _ vs.toList [] (Ctx.start w) .nil hh hlt hok
        obtain ⟨ρ2, L2, w', x, c2, _, hb, _, _, hx, _, hc⟩ := funE_sound (callN_sound P (hS noEnv) fuel d) cs c (by simpa using ha) hr
        obtain ⟨e, W, fr, ⟨h1, h2⟩, h3⟩ := hc
        subst h2
        refine ⟨e, W, fr, ⟨x, h1, ?_, hb⟩, h3⟩
        cases rs with
        | lit u =>
          have h' : isWord u (.ok v' H' 0) = true := h
          have huv : v' = u := by
            have h2 : sel (Nat.beq v' u) (sel (Nat.beq (tagOf u) 1) (ltb (payOf u) 18446744073709551616) (sel (Nat.beq u 18) true (Nat.beq u 2))) false = true := h'
            rw [sel_beq] at h2
            split at h2
            · assumption
            · cases h2
          subst huv
          have hl : litW v' = true := by
            unfold litW
            rcases litW_word (r := .bad 0) h' with ⟨a, b⟩ | a | a
            · rw [sel_ltb, if_pos (by have := wordOf v'; rw [a, mk_eq] at this; omega), a, sel_beq, if_pos rfl]; exact (ltb_iff _ _).2 b
            · rw [a]; rfl
            · rw [a]; rfl
          exact ⟨hl, litV_of hl hx⟩
        | row e m ch =>
          have h' : isRowE H' v' e m ch (fun _ => true) = true := h
          obtain ⟨b, rb, d, sz, cp, g, rfl, hnr, _, _, _, _, _, _⟩ := isRowE_inv c2 hx h'
          exact ⟨rb, d, cp, rfl, hnr⟩
        | rows l =>
          have h' : sel (sel (Nat.beq (tagOf v') 4) (sel (Nat.beq (sLen (payOf v')) (lenN l)) (sel (Nat.beq (sEs (payOf v')) 1) (sel (Nat.beq (sOff (payOf v')) 0) (sel (Nat.beq (lenN l) 0) false (sel (Nat.beq (sBlk (payOf v')) 0) false true)) false) false) false) false)
            (match tget H' (Nat.pred (sBlk (payOf v'))) with
             | some (.cells nb cb g keep since _) => sel (sel (Nat.beq g 0) false (sel (validE H' (Nat.pred (sBlk (payOf v'))) g keep since) (Nat.ble (lenN l) nb) false)) (isRowsE H' l cb [g]) false
             | _ => false) false = true := h
          rw [sel_eq] at h'
          split at h'
          · rename_i g0
            rw [sel_beq] at g0
            split at g0
            · rename_i h4
              rw [sel_beq] at g0
              split at g0
              · rename_i hlen
                rw [sel_beq] at g0
                split at g0
                · rename_i hes
                  rw [sel_beq] at g0
                  split at g0
                  · rename_i hof0
                    rw [sel_beq] at g0
                    split at g0
                    · cases g0
                    · rename_i hm0
                      rw [sel_beq] at g0
                      split at g0
                      · cases g0
                      · rename_i hbn
                        rcases hx.slice_inv h4 with ⟨rfl, _⟩ | ⟨b, es, off, m', kk, rb, dd, sz, cp, a, hb', he, ho, hm, hk, hmc, hbig, hk1, hcp, rfl, rfl⟩
                        · exact absurd s_nil.2.2.2.2.2 hbn
                        · obtain ⟨_, q1, q2, q3, q4, q5⟩ := s_parts b es off m' kk he ho hm hk
                          rw [q1, lenN_eq] at hlen; rw [q4] at hes; rw [q3] at hof0; rw [lenN_eq] at hm0
                          subst hlen; subst hes; subst hof0
                          rw [q5, Nat.pred_succ, lenN_eq] at h'
                          split at h'
                          · rename_i nb cb g keep since mx hget
                            rw [sel_eq] at h'
                            split at h'
                            · rename_i hc2
                              rw [sel_beq] at hc2
                              split at hc2
                              · cases hc2
                              · rename_i hg0
                                rw [sel_eq] at hc2
                                split at hc2
                                · rename_i hval
                                  have hle := Nat.le_of_ble_eq_true hc2
                                  have hL2 := c2.agree.2 _ _ hget
                                  have hlv := validE_iff c2.agree hL2 hval
                                  obtain ⟨k2, hk2, hbr⟩ := c2.sim.blk b _ hb'
                                  rw [hL2] at hk2; injection hk2 with hk2; subst hk2
                                  obtain ⟨cs', ty, fz, g1, g2, g3, g4, g5⟩ := hbr hlv
                                  obtain rfl := g4 hg0
                                  have hgrp : grp L2 b = g := grp_of hL2
                                  have hcp2 := hcp.resolve_left (by omega)
                                  have hbase : w.heap.size ≤ rb := c2.sim.rw b _ hb' (by rw [hgrp]; exact hg0)
                                  simp only at g2 g3 g5
                                  -- the elements
                                  have hvals : ∀ i, i < l.length → ∃ u, cs'[dd + i]? = some u ∧ VR ρ2 L2 (getW cb i) u := fun i hi => by
                                    obtain ⟨u, u1, u2, _⟩ := g5 i (by omega)
                                    exact ⟨u, u1, u2⟩
                                  have hvl : ((List.range l.length).map fun i => (cs'[dd + i]?).getD Go.undef).length = l.length := by simp
                                  obtain ⟨bs, hb1, hb2⟩ := isRowsE_inv c2 l cb [g] ((List.range l.length).map fun i => (cs'[dd + i]?).getD Go.undef) [rb] hvl (fun i hi => by
                                    have hi' : i < l.length := by simpa using hi
                                    obtain ⟨u, u1, u2⟩ := hvals i hi'
                                    simp only [List.getElem_map, List.getElem_range, u1, Option.getD_some]
                                    exact u2) h' (fun g' hg' => by
                                    simp only [List.mem_cons, List.not_mem_nil, or_false] at hg'
                                    subst hg'
                                    exact ⟨b, _, hlv, hgrp, hg0, hb', by simp⟩) (fun r hr => by
                                    simp only [List.mem_cons, List.not_mem_nil, or_false] at hr
                                    subst hr
                                    exact ⟨g, by simp, b, _, hlv, hgrp, hg0, hb', rfl⟩)
                                  refine ⟨rb, dd, cp, cs', ty, _, bs, by rw [hcp2.1]; rfl, hbase, hmc, hbig, g1, by have := hcp2.2; omega, hb1, fun hh => hb2 rb hh (by simp), hvl, fun i hi => ?_⟩
                                  obtain ⟨u, u1, _⟩ := hvals i hi
                                  rw [List.getElem?_map, List.getElem?_range hi, u1]
                                  simp [u1]
                                · cases hc2
                            · cases h'
                          · cases h'
                  · cases g0
                · cases g0
              · cases g0
            · cases g0
          · cases h'
    · cases hg
end Go.Eng

/- Sums of products, written out; trees of facts. -/
namespace Go.Eng
set_option linter.unusedSectionVars false
set_option linter.unusedSimpArgs false
set_option linter.unusedVariables false
open Go Go.RowKit

/-! ### sums of products, written out -/
theorem sel_andN {a b : Bool} (h : sel a b false = true) : a = true ∧ b = true := by
  cases a with
  | true => exact ⟨rfl, h⟩
  | false => cases h
inductive PX where
  | v (i : Nat)
  | c (n : Nat)
  | add (a b : PX)
  | mul (a b : PX)
  | neg (a : PX)
structure PN where
  p : Nat
  q : Nat
  s : Nat
  d : Nat
noncomputable section
/-- its numbers -/
def PX.num (e : PX) : PN := PX.rec (motive := fun _ => PN) (fun i => ⟨pvPow i, 0, 1, pvDeg i⟩) (fun n => ⟨n, 0, n, 0⟩)
  (fun _ _ x y => ⟨Nat.add x.p y.p, Nat.add x.q y.q, Nat.add x.s y.s, mxD x.d y.d⟩)
  (fun _ _ x y => ⟨Nat.add (Nat.mul x.p y.p) (Nat.mul x.q y.q), Nat.add (Nat.mul x.p y.q) (Nat.mul x.q y.p), Nat.mul x.s y.s, Nat.add x.d y.d⟩)
  (fun _ x => ⟨x.q, x.p, x.s, x.d⟩) e
def PX.ok (e : PX) : Bool := PX.rec (motive := fun _ => Bool) (fun i => pvOk i) (fun _ => true) (fun _ _ x y => sel x y false)
  (fun a b x y => sel (sel x y false) (sel (ltb (Nat.add (Nat.mod a.num.d 12) (Nat.mod b.num.d 12)) 12) (ltb (Nat.add (Nat.div a.num.d 12) (Nat.div b.num.d 12)) 2) false) false) (fun _ x => x) e
end
def PX.val (x : Nat → Int) : PX → Int
  | .v i => x i
  | .c n => (n : Int)
  | .add a b => a.val x + b.val x
  | .mul a b => a.val x * b.val x
  | .neg a => - a.val x
theorem mxN_le (a b : Nat) : a ≤ mxN a b ∧ b ≤ mxN a b := by unfold mxN; rw [sel_ble]; split <;> omega
theorem mxD_le (d d' : Nat) : (d % 12 ≤ mxD d d' % 12 ∧ d / 12 ≤ mxD d d' / 12) ∧ (d' % 12 ≤ mxD d d' % 12 ∧ d' / 12 ≤ mxD d d' / 12) := by
  have eD : mxD d d' = mxN (d % 12) (d' % 12) + 12 * mxN (d / 12) (d' / 12) := rfl
  have mA := mxN_le (d % 12) (d' % 12)
  have mB := mxN_le (d / 12) (d' / 12)
  have mL : mxN (d % 12) (d' % 12) < 12 := by unfold mxN; rw [sel_ble]; split <;> omega
  rw [eD]; omega
theorem PX.sound (x : Nat → Int) : ∀ e : PX, e.ok = true → PolyR x e.num.p e.num.q e.num.s e.num.d (e.val x)
  | .v i, h => PolyR.var h
  | .c n, _ => PolyR.const (n : Int) (by show (n : Int).natAbs ≤ n; omega) (by show ((n : Nat) : Int) - ((0 : Nat) : Int) = _; omega)
  | .add a b, h => by
    obtain ⟨h1, h2⟩ := sel_andN (show sel a.ok b.ok false = true from h)
    have m := mxD_le a.num.d b.num.d
    exact (PX.sound x a h1).add (PX.sound x b h2) m.1 m.2
  | .mul a b, h => by
    obtain ⟨h1, h2⟩ := sel_andN (show sel (sel a.ok b.ok false) (sel (ltb (Nat.add (Nat.mod a.num.d 12) (Nat.mod b.num.d 12)) 12) (ltb (Nat.add (Nat.div a.num.d 12) (Nat.div b.num.d 12)) 2) false) false = true from h)
    obtain ⟨h3, h4⟩ := sel_andN h1
    obtain ⟨h5, h6⟩ := sel_andN h2
    exact (PX.sound x a h3).mul (PX.sound x b h4) ((ltb_iff _ _).1 h5) ((ltb_iff _ _).1 h6)
  | .neg a, h => (PX.sound x a h).neg

/-! ### what is known of them -/
abbrev FE := PX × Nat × Nat
noncomputable section
/-- the facts, laid down -/
def feH (fs : List FE) : Nat → Trie → Trie := List.rec (motive := fun _ => Nat → Trie → Trie) (fun _ H => H) (fun f _ ih n H => ih (Nat.succ n) (hset H n (.poly f.1.num.p f.1.num.q f.1.num.s 83 f.2.1 f.2.2))) fs
/-- a tree of cases: what a sum comes to, as a word of 64 bits from -2^63 on: below a, from a to b, above b -/
inductive FT where
  | leaf
  | tri (e : PX) (a b : Nat) (x y z : FT)
  | two (e : PX) (a : Nat) (x y : FT)
def chkFT (run : List FE → Bool) (t : FT) : List FE → Bool :=
  FT.rec (motive := fun _ => List FE → Bool) (fun fs => run fs)
    (fun e a b _ _ _ ix iy iz fs => sel (sel e.ok (sel (sel (Nat.ble 1 a) (Nat.ble a b) false) (ltb b 18446744073709551615) false) false)
      (sel (ix ((e, 0, Nat.pred a) :: fs)) (sel (iy ((e, a, b) :: fs)) (iz ((e, Nat.succ b, 18446744073709551615) :: fs)) false) false) false)
    (fun e a _ _ ix iy fs => sel (sel e.ok (sel (Nat.ble 1 a) (ltb a 18446744073709551616) false) false)
      (sel (ix ((e, 0, Nat.pred a) :: fs)) (iy ((e, a, 18446744073709551615) :: fs)) false) false) t
end
def FeOk (E : Env) (f : FE) : Prop := ∃ z, @PolyZ E f.1.num.p f.1.num.q f.1.num.s 83 f.2.1 f.2.2 z
theorem PolyR.up79 {x : Nat → Int} {p q s d : Nat} {z : Int} (h : PolyR x p q s d z) (h2 : d / 12 ≤ 6) : PolyR x p q s 83 z := by
  have := h.add (PolyR.const (x := x) (s := 0) (p := 0) (n := 0) 0 (by decide) (by decide)) (D := 83) ⟨by omega, by omega⟩ ⟨by omega, by omega⟩
  simpa using this
/-- what it comes to, in 64 bits -/
theorem PX.word (E : Env) (e : PX) (h : e.ok = true) (hd : e.num.d / 12 ≤ 6) : ∃ z : Int, -9223372036854775808 ≤ z ∧ z < 9223372036854775808 ∧
    ∀ lo hi : Nat, lo < 18446744073709551616 → hi < 18446744073709551616 → (lo : Int) - 9223372036854775808 ≤ z → z ≤ (hi : Int) - 9223372036854775808 → FeOk E (e, lo, hi) := by
  obtain ⟨u, _, h1, h2, h3⟩ := wrap64_of (e.val fun i => E.int (pvIx i))
  exact ⟨u, h1, h2, fun lo hi a b c d => ⟨u, a, b, c, d, _, PolyR.up79 (PX.sound _ e h) hd, h3⟩⟩
theorem PX.deg : ∀ e : PX, e.ok = true → e.num.d / 12 ≤ 1
  | .v i, h => by
    show pvDeg i / 12 ≤ 1
    unfold pvDeg
    rw [sel_ltb]
    split <;> decide
  | .c n, _ => by show 0 / 12 ≤ 1; decide
  | .add a b, h => by
    obtain ⟨h1, h2⟩ := sel_andN (show sel a.ok b.ok false = true from h)
    have ha := PX.deg a h1
    have hb := PX.deg b h2
    show mxD a.num.d b.num.d / 12 ≤ 1
    have eD : mxD a.num.d b.num.d = mxN (a.num.d % 12) (b.num.d % 12) + 12 * mxN (a.num.d / 12) (b.num.d / 12) := rfl
    have m1 : mxN (a.num.d / 12) (b.num.d / 12) ≤ 1 := by unfold mxN; rw [sel_ble]; split <;> omega
    have m2 : mxN (a.num.d % 12) (b.num.d % 12) < 12 := by unfold mxN; rw [sel_ble]; split <;> omega
    rw [eD]; omega
  | .mul a b, h => by
    obtain ⟨h1, h2⟩ := sel_andN (show sel (sel a.ok b.ok false) (sel (ltb (Nat.add (Nat.mod a.num.d 12) (Nat.mod b.num.d 12)) 12) (ltb (Nat.add (Nat.div a.num.d 12) (Nat.div b.num.d 12)) 2) false) false = true from h)
    obtain ⟨h5, h6⟩ := sel_andN h2
    have h5 := (ltb_iff _ _).1 h5
    have h6 := (ltb_iff _ _).1 h6
    have e1 : Nat.add (Nat.mod a.num.d 12) (Nat.mod b.num.d 12) = a.num.d % 12 + b.num.d % 12 := rfl
    have e2 : Nat.add (Nat.div a.num.d 12) (Nat.div b.num.d 12) = a.num.d / 12 + b.num.d / 12 := rfl
    rw [e1] at h5
    rw [e2] at h6
    show (a.num.d + b.num.d) / 12 ≤ 1
    omega
  | .neg a, h => PX.deg a h
/-- ██ Whatever the surroundings: one of the cases is so, and its run is well. -/
theorem FT.sound (E : Env) {run : List FE → Bool} : ∀ (t : FT) (fs : List FE), chkFT run t fs = true → (∀ f ∈ fs, FeOk E f) → ∃ fs', (∀ f ∈ fs', FeOk E f) ∧ run fs' = true
  | .leaf, fs, h, hf => ⟨fs, hf, h⟩
  | .tri e a b x y z, fs, h, hf => by
    obtain ⟨h1, h2⟩ := sel_andN (show sel (sel e.ok (sel (sel (Nat.ble 1 a) (Nat.ble a b) false) (ltb b 18446744073709551615) false) false)
      (sel (chkFT run x ((e, 0, Nat.pred a) :: fs)) (sel (chkFT run y ((e, a, b) :: fs)) (chkFT run z ((e, Nat.succ b, 18446744073709551615) :: fs)) false) false) false = true from h)
    obtain ⟨k1, k2⟩ := sel_andN h1
    obtain ⟨k3, k4⟩ := sel_andN k2
    obtain ⟨k5, k6⟩ := sel_andN k3
    have k4 := (ltb_iff _ _).1 k4
    have k5 := Nat.le_of_ble_eq_true k5
    have k6 := Nat.le_of_ble_eq_true k6
    obtain ⟨g1, g2⟩ := sel_andN h2
    obtain ⟨g3, g4⟩ := sel_andN g2
    obtain ⟨u, u1, u2, u3⟩ := PX.word E e k1 (by have := PX.deg e k1; omega)
    have ep : Nat.pred a = a - 1 := rfl
    have es : Nat.succ b = b + 1 := rfl
    by_cases c1 : u < (a : Int) - 9223372036854775808
    · exact FT.sound E x _ g1 (fun f hm => by
        rcases List.mem_cons.1 hm with rfl | hm
        · exact u3 _ _ (by omega) (by rw [ep]; omega) (by omega) (by rw [ep]; omega)
        · exact hf f hm)
    · by_cases c2 : u ≤ (b : Int) - 9223372036854775808
      · exact FT.sound E y _ g3 (fun f hm => by
          rcases List.mem_cons.1 hm with rfl | hm
          · exact u3 _ _ (by omega) (by omega) (by omega) (by omega)
          · exact hf f hm)
      · exact FT.sound E z _ g4 (fun f hm => by
          rcases List.mem_cons.1 hm with rfl | hm
          · exact u3 _ _ (by rw [es]; omega) (by omega) (by rw [es]; omega) (by omega)
          · exact hf f hm)
  | .two e a x y, fs, h, hf => by
    obtain ⟨h1, h2⟩ := sel_andN (show sel (sel e.ok (sel (Nat.ble 1 a) (ltb a 18446744073709551616) false) false)
      (sel (chkFT run x ((e, 0, Nat.pred a) :: fs)) (chkFT run y ((e, a, 18446744073709551615) :: fs)) false) false = true from h)
    obtain ⟨k1, k2⟩ := sel_andN h1
    obtain ⟨k3, k4⟩ := sel_andN k2
    have k3 := Nat.le_of_ble_eq_true k3
    have k4 := (ltb_iff _ _).1 k4
    obtain ⟨g1, g2⟩ := sel_andN h2
    obtain ⟨u, u1, u2, u3⟩ := PX.word E e k1 (by have := PX.deg e k1; omega)
    have ep : Nat.pred a = a - 1 := rfl
    by_cases c1 : u < (a : Int) - 9223372036854775808
    · exact FT.sound E x _ g1 (fun f hm => by
        rcases List.mem_cons.1 hm with rfl | hm
        · exact u3 _ _ (by omega) (by rw [ep]; omega) (by omega) (by rw [ep]; omega)
        · exact hf f hm)
    · exact FT.sound E y _ g2 (fun f hm => by
        rcases List.mem_cons.1 hm with rfl | hm
        · exact u3 _ _ (by omega) (by omega) (by omega) (by omega)
        · exact hf f hm)
theorem put_fe {E : Env} : ∀ (fs : List FE) (n : Nat) (H : Trie) (ρ : Rho) (L : Look) (base : Nat) (w : World), @Ctx E base H n ρ L w → n + fs.length < 16384 → (∀ f ∈ fs, FeOk E f) →
    ∃ L', @Ctx E base (feH fs n H) (n + fs.length) ρ L' w ∧ Ext ρ L ρ L'
  | [], n, H, ρ, L, base, w, c, _, _ => ⟨L, c, .refl _ _⟩
  | f :: fs, n, H, ρ, L, base, w, c, hn, hf => by
    letI := E
    have c1 : Ctx base (hset H n (.poly f.1.num.p f.1.num.q f.1.num.s 83 f.2.1 f.2.2)) (n + 1) ρ (upd L n (.poly f.1.num.p f.1.num.q f.1.num.s 83 f.2.1 f.2.2)) w :=
      ⟨c.sim.boxG c.fresh (fun _ => hf f (by simp)), c.agree.hset (by simp at hn; omega) _, c.fresh.updL _⟩
    obtain ⟨L', c', e'⟩ := put_fe fs (n + 1) _ ρ _ base w c1 (by simp at hn; omega) (fun g hg => hf g (by simp [hg]))
    refine ⟨L', ?_, (Ext.freshL c.fresh _).trans e'⟩
    have : n + (f :: fs).length = n + 1 + fs.length := by simp; omega
    rw [this]
    exact c'

def FtOk (run : List FE → Bool) : Prop := ∃ t, chkFT run t [] = true
end Go.Eng
