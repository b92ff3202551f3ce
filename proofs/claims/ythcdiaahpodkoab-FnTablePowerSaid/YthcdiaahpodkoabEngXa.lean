/- What is known of calls by what their arguments hold: results that have been found once. -/
import Derived.Test.YthcdiaahpodkoabEngX
namespace Go.Eng
set_option linter.unusedSectionVars false
set_option linter.unusedSimpArgs false
set_option linter.unusedVariables false
open Go Go.RowKit

noncomputable section
/-- a word that stands for one value, wherever it is met -/
def litW (w : Nat) : Bool := sel (ltb w 340282366920938463463374607431768211456) (sel (Nat.beq (tagOf w) 1) (ltb (payOf w) 18446744073709551616) (sel (Nat.beq w 18) true (sel (Nat.beq w 2) true (Nat.beq (tagOf w) 8)))) false
def litV (w : Nat) : Value := if tagOf w = 1 then .int .i64 (sInt (payOf w)) else if w = 18 then .bool true else if w = 2 then .bool false else .func (.func (payOf w)) #[] #[]
/-- what an argument holds: a word; a slice of n elements of e cells; a struct or an array; a closure with places of one cell each -/
inductive Sh where
  | lit (w : Nat)
  | row (e n c : Nat)
  | agg (m c : Nat)
  | clo (f : Nat) (cs : List Nat)

def allLit (m c : Nat) : Bool := Nat.rec (motive := fun _ => Nat → Bool) (fun _ => true) (fun _ ih c => sel (litW (getW c 0)) (ih (Nat.shiftRight c 128)) false) m c
/-- the places i, i + 1 and so on of a closure lead to cells that hold these words -/
def matchC (H : Trie) (c : Nat) (cs : List Nat) : Nat → Bool :=
  List.rec (motive := fun _ => Nat → Bool) (fun _ => true)
    (fun x _ ih i => sel (sel (litW x) (sel (Nat.beq (tagOf (getW c i)) 3) (sel (Nat.beq (pBlk (payOf (getW c i))) 0) false (Nat.beq (rd H (Nat.pred (pBlk (payOf (getW c i)))) (pOff (payOf (getW c i)))) x)) false) false) (ih (Nat.succ i)) false) cs
def matchS (H : Trie) (w : Nat) (s : Sh) : Bool :=
  Sh.rec (motive := fun _ => Bool) (fun u => sel (Nat.beq w u) (litW u) false)
    (fun e n c => sel (sel (Nat.beq (tagOf w) 4) (sel (Nat.beq (sLen (payOf w)) n) (sel (Nat.beq (sEs (payOf w)) e) (sel (Nat.beq n 0) false (sel (Nat.beq (sBlk (payOf w)) 0) false true)) false) false) false)
      (match rdRange H (Nat.pred (sBlk (payOf w))) (sOff (payOf w)) (Nat.mul n e) with | .some c' => sel (Nat.beq c' c) (allLit (Nat.mul n e) c) false | .none => false) false)
    (fun m c => sel (Nat.beq (tagOf w) 6) (match tget H (payOf w) with | some (.box 0 m' c') => sel (Nat.beq m' m) (sel (Nat.beq c' c) (allLit m c) false) false | _ => false) false)
    (fun f cs => sel (Nat.beq (tagOf w) 10) (match tget H (payOf w) with | some (.box 2 m c) => sel (Nat.beq m (lenN cs)) (sel (Nat.beq (getW c 0) f) (matchC H c cs 1) false) false | _ => false) false) s
def matchL (H : Trie) (l : List Sh) : List Nat → Bool :=
  List.rec (motive := fun _ => List Nat → Bool) (fun ws => match ws with | [] => true | _ => false)
    (fun s _ ih ws => match ws with | [] => false | w :: ws => sel (matchS H w s) (ih ws) false) l

abbrev Memo := Nat × List Sh × Nat
/-- what has been found, as what is known beforehand -/
def memoS (l : List Memo) : Sums := fun f args H n =>
  List.rec (motive := fun _ => SR) .no (fun e _ ih => sel (sel (Nat.beq e.1 f) (matchL H e.2.1 args) false) (.yes (.ok e.2.2 H n)) ih) l

/-- the state in which the arguments hold that -/
structure Lay where
  H : Trie
  n : Nat
  ws : List Nat
def layC (cs : List Nat) : Trie → Nat → List Nat → Lay :=
  List.rec (motive := fun _ => Trie → Nat → List Nat → Lay) (fun H n ws => ⟨H, n, ws⟩)
    (fun x _ ih H n ws => ih (hset H n (.cells 1 x 0 0 0 0)) (Nat.succ n) (ws ++ [wP n 0])) cs
def layS (s : Sh) (H : Trie) (n : Nat) (k : Nat → Trie → Nat → Lay) : Lay :=
  Sh.rec (motive := fun _ => Lay) (fun u => k u H n)
    (fun e m c => k (wS n e 0 m 0) (hset H n (.cells (Nat.mul m e) c 0 0 0 0)) (Nat.succ n))
    (fun m c => k (mk 6 n) (hset H n (.box 0 m c)) (Nat.succ n))
    (fun f cs => let y := layC cs H n []
      k (mk 10 y.n) (hset y.H y.n (.box 2 (lenN cs) (listW (f :: y.ws)))) (Nat.succ y.n)) s
def layL (l : List Sh) : Trie → Nat → List Nat → Lay :=
  List.rec (motive := fun _ => Trie → Nat → List Nat → Lay) (fun H n ws => ⟨H, n, ws⟩)
    (fun s _ ih H n ws => layS s H n fun w H' n' => ih H' n' (ws ++ [w])) l
def shOk (l : List Sh) : Bool := List.rec (motive := fun _ => Bool) true (fun s _ ih => Sh.rec (motive := fun _ => Bool) (fun _ => ih) (fun _ _ _ => ih) (fun _ _ => ih) (fun f _ => sel (ltb f 1000000) ih false) s) l
def memoRun (P : Program) (S : Sums) (fuel d f : Nat) (l : List Sh) : OR := let y := layL l .nil 0 []; sel (sel (shOk l) (ltb y.n 1000) false) (funE P (callN P S fuel d) fuel f y.ws y.H y.n) (.bad 0)
def isWord (v : Nat) (r : OR) : Bool := match r with | .ok v' _ _ => sel (Nat.beq v' v) (sel (Nat.beq (tagOf v) 1) (ltb (payOf v) 18446744073709551616) (sel (Nat.beq v 18) true (Nat.beq v 2))) false | .bad _ => false
end

/-! ### what is held, in a world -/
def LitAt (w : World) (a : Addr) (u : Nat) : Prop := litW u = true ∧ ∃ cs ty fz, a.spot = none ∧ w.heap[a.block]? = some (.cells cs ty fz) ∧ cs[a.off]? = some (litV u)
def HoldsS (w : World) (s : Sh) (v : Value) : Prop :=
  match s with
  | .lit u => litW u = true ∧ v = litV u
  | .row e n c => 0 < n ∧ e < 256 ∧ n < 1048576 ∧ ∃ rb d cp cs ty fz, v = .slice (some ⟨rb, d, none⟩) n cp ∧ n ≤ cp ∧ cp < 9223372036854775808 ∧ w.heap[rb]? = some (.cells cs ty fz) ∧ d + cp * e ≤ cs.size ∧
      ∀ i, i < n * e → litW (getW c i) = true ∧ cs[d + i]? = some (litV (getW c i))
  | .agg m c => ∃ vs : Array Value, v = .agg vs ∧ vs.size = m ∧ c < 2 ^ (128 * m) ∧ ∀ i, i < m → litW (getW c i) = true ∧ vs[i]? = some (litV (getW c i))
  | .clo f cs => ∃ vs : Array Value, v = .func (.func f) #[] vs ∧ vs.size = cs.length ∧ ∀ (i x : Nat), cs[i]? = some x → ∃ a : Addr, vs[i]? = some (Value.pointer (some a)) ∧ LitAt w a x
inductive HoldsL (w : World) : List Sh → List Value → Prop
  | nil : HoldsL w [] []
  | cons (s : Sh) (v : Value) (l : List Sh) (vs : List Value) : HoldsS w s v → HoldsL w l vs → HoldsL w (s :: l) (v :: vs)

/-- Called with what holds that, it comes back with that word. -/
structure MemoK (P : Program) (e : Memo) : Prop where
  known : Known P e.1
  lit : tagOf e.2.2 = 1 ∧ payOf e.2.2 < 18446744073709551616 ∨ e.2.2 = 18 ∨ e.2.2 = 2
  calls : ∀ (w : World) (vs : Array Value), HoldsL w e.2.1 vs.toList → Calls P e.1 vs w fun r w' => r = .returned (litV e.2.2) ∧ Below w.heap.size w w'

section
variable [E : Env]
theorem litW_in {u : Nat} (h : litW u = true) : sel (Nat.beq (tagOf u) 1) (ltb (payOf u) 18446744073709551616) (sel (Nat.beq u 18) true (sel (Nat.beq u 2) true (Nat.beq (tagOf u) 8))) = true := by
  unfold litW at h
  rw [sel_ltb] at h
  split at h
  · exact h
  · cases h
theorem litW_lt {u : Nat} (h : litW u = true) : u < 2 ^ 128 := by
  unfold litW at h
  rw [sel_ltb] at h
  split at h
  · assumption
  · cases h
theorem litV_vr {ρ : Rho} {L : Look} {u : Nat} (h : litW u = true) : VR ρ L u (litV u) := by
  have h := litW_in h
  unfold litV
  rw [sel_beq] at h
  split at h
  · rename_i h1
    rw [if_pos h1]
    have hp := (ltb_iff _ _).1 h
    have := VR.int (ρ := ρ) (L := L) (payOf u) hp
    have hw : wI (payOf u) = u := by have := wordOf u; rw [h1] at this; exact this.symm
    rw [hw] at this
    exact this
  · rename_i h1
    rw [if_neg h1]
    rw [sel_beq] at h
    split at h
    · rename_i h2; rw [if_pos h2, h2]; exact .bool true
    · rename_i h2
      rw [if_neg h2]
      rw [sel_beq] at h
      split at h
      · rename_i h3; rw [if_pos h3, h3]; exact .bool false
      · rename_i h3
        rw [if_neg h3]
        have h8 := Nat.eq_of_beq_eq_true h
        have := VR.fn (ρ := ρ) (L := L) (payOf u)
        have hw : mk 8 (payOf u) = u := by have := wordOf u; rw [h8] at this; exact this.symm
        rw [hw] at this
        exact this
theorem litV_of {ρ : Rho} {L : Look} {u : Nat} {v : Value} (h : litW u = true) (hv : VR ρ L u v) : v = litV u := by
  have h := litW_in h
  unfold litV
  rw [sel_beq] at h
  split at h
  · rename_i h1
    rw [if_pos h1]
    obtain ⟨p, _, _, hp, rfl⟩ := hv.int_inv h1
    rw [hp]
  · rename_i h1
    rw [if_neg h1]
    rw [sel_beq] at h
    split at h
    · rename_i h2; rw [if_pos h2]; subst h2; exact hv.true_inv
    · rename_i h2
      rw [if_neg h2]
      rw [sel_beq] at h
      split at h
      · rename_i h3; rw [if_pos h3]; subst h3; exact hv.false_inv
      · rename_i h3
        rw [if_neg h3]
        exact hv.fn_inv (Nat.eq_of_beq_eq_true h)

theorem getW_shift (c i : Nat) : getW (Nat.shiftRight c 128) i = getW c (i + 1) := by
  apply Nat.eq_of_testBit_eq
  intro k
  rw [getW_testBit, getW_testBit]
  have : (Nat.shiftRight c 128).testBit (128 * i + k) = c.testBit (128 + (128 * i + k)) := Nat.testBit_shiftRight ..
  rw [this, show 128 * (i + 1) + k = 128 + (128 * i + k) from by omega]
theorem allLit_iff : ∀ (m c : Nat), allLit m c = true → ∀ i, i < m → litW (getW c i) = true
  | 0, _, _, i, hi => by omega
  | m + 1, c, h, i, hi => by
    have e : allLit (m + 1) c = sel (litW (getW c 0)) (allLit m (Nat.shiftRight c 128)) false := rfl
    rw [e, sel_eq] at h
    split at h
    · rename_i h0
      cases i with
      | zero => exact h0
      | succ i =>
        have := allLit_iff m _ h i (by omega)
        rw [getW_shift] at this; exact this
    · cases h

section
variable {base : Nat} {H : Trie} {n : Nat} {ρ : Rho} {L : Look} {w : World}
theorem rd_block (c : Ctx base H n ρ L w) {b o rb d sz : Nat} (hb : ρ b = some (rb, d, sz)) (h : tagOf (rd H b o) ≠ 15) :
    ∃ cs ty fz v, w.heap[rb]? = some (.cells cs ty fz) ∧ cs[d + o]? = some v ∧ VR ρ L (rd H b o) v := by
  obtain ⟨v, hc, hv⟩ := rd_sound c hb h
  unfold World.cell? at hc
  split at hc
  · rename_i cs ty fz hh
    exact ⟨cs, ty, fz, v, hh, by simpa using hc, hv⟩
  · cases hc
theorem matchC_holds (c : Ctx base H n ρ L w) {ch : Nat} {vs : Array Value} (hv : ∀ i (h : i < vs.size), VR ρ L (getW ch (i + 1)) vs[i]) : ∀ (cs : List Nat) (i : Nat), matchC H ch cs (i + 1) = true → i + cs.length ≤ vs.size →
    ∀ (j x : Nat), cs[j]? = some x → ∃ a : Addr, vs[i + j]? = some (Value.pointer (some a)) ∧ LitAt w a x
  | [], i, h, hl, j, x, hj => by simp at hj
  | y :: cs, i, h, hl, j, x, hj => by
    simp only [List.length_cons] at hl
    have e : matchC H ch (y :: cs) (i + 1) = sel (sel (litW y) (sel (Nat.beq (tagOf (getW ch (i + 1))) 3) (sel (Nat.beq (pBlk (payOf (getW ch (i + 1)))) 0) false (Nat.beq (rd H (Nat.pred (pBlk (payOf (getW ch (i + 1))))) (pOff (payOf (getW ch (i + 1))))) y)) false) false) (matchC H ch cs (i + 1 + 1)) false := rfl
    rw [e, sel_eq] at h
    split at h
    · rename_i h1
      cases j with
      | succ j =>
        have := matchC_holds c hv cs (i + 1) h (by omega) j x (by simpa using hj)
        rwa [show i + 1 + j = i + (j + 1) from by omega] at this
      | zero =>
        simp only [List.getElem?_cons_zero, Option.some.injEq] at hj
        subst hj
        rw [sel_eq] at h1
        split at h1
        · rename_i hl1
          rw [sel_beq] at h1
          split at h1
          · rename_i h3
            rw [sel_beq] at h1
            split at h1
            · cases h1
            · rename_i hnz
              have hrd := Nat.eq_of_beq_eq_true h1
              have hi : i < vs.size := by omega
              rcases (hv i hi).ptr_inv h3 with ⟨h4, _⟩ | ⟨b, off, rb, d, sz, hb, ho, hw, hvv⟩
              · rw [h4] at hnz; exact absurd rfl hnz
              · obtain ⟨_, p2, p3⟩ := p_parts b off ho
                rw [hw, p2, p3, Nat.pred_succ] at hrd
                have hne : tagOf (rd H b off) ≠ 15 := by
                  rw [hrd]
                  intro hb15
                  have := litV_vr (ρ := ρ) (L := L) hl1
                  exact this.notBad hb15
                obtain ⟨cs', ty, fz, v, g1, g2, g3⟩ := rd_block c hb hne
                rw [hrd] at g3
                refine ⟨⟨rb, d + off, none⟩, by rw [Nat.add_zero, Array.getElem?_eq_getElem hi, hvv], hl1, cs', ty, fz, rfl, g1, ?_⟩
                rw [g2, litV_of hl1 g3]
          · cases h1
        · cases h1
    · cases h

theorem matchS_holds (c : Ctx base H n ρ L w) {x : Nat} {v : Value} (hx : VR ρ L x v) : ∀ (s : Sh), matchS H x s = true → HoldsS w s v := by
  intro s h
  cases s with
  | lit u =>
    have e : matchS H x (.lit u) = sel (Nat.beq x u) (litW u) false := rfl
    rw [e, sel_beq] at h
    split at h
    · rename_i hxu; subst hxu; exact ⟨h, litV_of h hx⟩
    · cases h
  | row e m ch =>
    have e0 : matchS H x (.row e m ch) = sel (sel (Nat.beq (tagOf x) 4) (sel (Nat.beq (sLen (payOf x)) m) (sel (Nat.beq (sEs (payOf x)) e) (sel (Nat.beq m 0) false (sel (Nat.beq (sBlk (payOf x)) 0) false true)) false) false) false)
      (match rdRange H (Nat.pred (sBlk (payOf x))) (sOff (payOf x)) (Nat.mul m e) with | .some c' => sel (Nat.beq c' ch) (allLit (Nat.mul m e) ch) false | .none => false) false := rfl
    rw [e0, sel_eq] at h
    split at h
    · rename_i h1
      rw [sel_beq] at h1
      split at h1
      · rename_i h4
        rw [sel_beq] at h1
        split at h1
        · rename_i hlen
          rw [sel_beq] at h1
          split at h1
          · rename_i hes
            rw [sel_beq] at h1
            split at h1
            · cases h1
            · rename_i hm0
              rw [sel_beq] at h1
              split at h1
              · cases h1
              · rename_i hbn
                split at h
                · rename_i c' hrd
                  rw [sel_beq] at h
                  split at h
                  · rename_i hcc
                    subst hcc
                    rcases hx.slice_inv h4 with ⟨rfl, _⟩ | ⟨b, es, off, m', k, rb, d, sz, cp, a, hb, he, ho, hm, hk, hmc, hbig, hk1, hcp, rfl, rfl⟩
                    · exact absurd s_nil.2.2.2.2.2 hbn
                    · obtain ⟨_, q1, q2, q3, q4, q5⟩ := s_parts b es off m' k he ho hm hk
                      rw [q5, q3, Nat.pred_succ] at hrd
                      rw [q1] at hlen
                      rw [q4] at hes
                      subst hlen; subst hes
                      obtain ⟨vs, ro⟩ := rdRange_sound c hb hrd
                      have hcp2 := hcp.resolve_left (by omega)
                      -- the block
                      have hblk : ∃ cs ty fz, w.heap[rb]? = some (.cells cs ty fz) ∧ d + sz ≤ cs.size := by
                        unfold rdRange at hrd
                        split at hrd
                        · rename_i nb cb g keep since mx hget
                          rw [sel_ble] at hrd
                          split at hrd
                          · rw [sel_eq] at hrd
                            split at hrd
                            · rename_i hval
                              have hL := c.agree.2 _ _ hget
                              have hl := validE_iff c.agree hL hval
                              obtain ⟨kk, hk2, hbr⟩ := c.sim.blk b _ hb
                              rw [hL] at hk2; injection hk2 with hk2; subst hk2
                              obtain ⟨cs, ty, fz, g1, g2, _⟩ := hbr hl
                              exact ⟨cs, ty, fz, g1, g2⟩
                            · cases hrd
                          · cases hrd
                        · cases hrd
                      obtain ⟨cs, ty, fz, g1, g2⟩ := hblk
                      refine ⟨by omega, he, hm, rb, d + off, cp, cs, ty, fz, by rw [hcp2.1], hmc, hbig, g1, by have := hcp2.2; omega, fun i hi => ?_⟩
                      have hli := allLit_iff _ _ h i hi
                      refine ⟨hli, ?_⟩
                      have hil : i < vs.length := by rw [ro.len]; exact hi
                      obtain ⟨r1, _⟩ := ro.word i vs[i] (List.getElem?_eq_getElem hil)
                      have r2 := ro.cell i vs[i] (List.getElem?_eq_getElem hil)
                      rw [addr_add, cell_of_heap g1] at r2
                      rw [r2, litV_of hli r1]
                  · cases h
                · cases h
          · cases h1
        · cases h1
      · cases h1
    · cases h
  | agg m ch =>
    have e0 : matchS H x (.agg m ch) = sel (Nat.beq (tagOf x) 6) (match tget H (payOf x) with | some (.box 0 m' c') => sel (Nat.beq m' m) (sel (Nat.beq c' ch) (allLit m ch) false) false | _ => false) false := rfl
    rw [e0, sel_beq] at h
    split at h
    · rename_i h6
      split at h
      · rename_i m' c' hget
        rw [sel_beq] at h
        split at h
        · rename_i hm
          rw [sel_beq] at h
          split at h
          · rename_i hc
            subst hm; subst hc
            obtain ⟨vs, rfl, hcr⟩ := hx.agg_inv h6 (c.agree.2 _ _ hget)
            refine ⟨vs, rfl, hcr.1, hcr.2.1, fun i hi => ?_⟩
            have hli := allLit_iff _ _ h i hi
            obtain ⟨u, a, b, _⟩ := hcr.2.2 i hi
            exact ⟨hli, by rw [a, litV_of hli b]⟩
          · cases h
        · cases h
      · cases h
    · cases h
  | clo f cs =>
    have e0 : matchS H x (.clo f cs) = sel (Nat.beq (tagOf x) 10) (match tget H (payOf x) with | some (.box 2 m c) => sel (Nat.beq m (lenN cs)) (sel (Nat.beq (getW c 0) f) (matchC H c cs 1) false) false | _ => false) false := rfl
    rw [e0, sel_beq] at h
    split at h
    · rename_i h10
      split at h
      · rename_i m ch hget
        rw [sel_beq] at h
        split at h
        · rename_i hm
          rw [sel_beq] at h
          split at h
          · rename_i hf
            obtain ⟨m', c', vs, hL, hsz, hvs, rfl⟩ := hx.clo_inv h10
            have := c.agree.2 _ _ hget
            rw [hL] at this; injection this with this; injection this with _ e1 e2
            subst e1; subst e2
            rw [lenN_eq] at hm
            refine ⟨vs, by rw [hf], by rw [hsz, hm], fun i x hi => ?_⟩
            have := matchC_holds c hvs cs 0 h (by rw [hsz, hm]; omega) i x hi
            rwa [Nat.zero_add] at this
          · cases h
        · cases h
      · cases h
    · cases h
theorem matchL_holds (c : Ctx base H n ρ L w) : ∀ (l : List Sh) (ws : List Nat) (vs : List Value), AR ρ L ws vs → matchL H l ws = true → HoldsL w l vs
  | [], ws, vs, ha, h => by
    cases ha with
    | nil => exact .nil
    | cons => cases h
  | s :: l, ws, vs, ha, h => by
    cases ha with
    | nil => cases h
    | cons x v xs vs' hx ha' =>
      have e : matchL H (s :: l) (x :: xs) = sel (matchS H x s) (matchL H l xs) false := rfl
      rw [e, sel_eq] at h
      split at h
      · rename_i h1
        exact .cons _ _ _ _ (matchS_holds c hx s h1) (matchL_holds c l xs vs' ha' h)
      · cases h

/-- What was there is there still. -/
theorem Ctx.later {W : World} (c : Ctx base H n ρ L w) (hb : Below w.heap.size w W) : Ctx base H n ρ L W := by
  have hs := c.sim
  refine ⟨⟨fun b r h => ?_, hs.sep, hs.same, hs.mx, hs.rw, hs.ro, fun b r h => Nat.lt_of_lt_of_le (hs.bnd b r h) hb.size, Nat.le_trans hs.bs hb.size, hs.ld, hs.kind⟩, c.agree, c.fresh⟩
  obtain ⟨k, h1, h2⟩ := hs.blk b r h
  exact ⟨k, h1, fun hl => (h2 hl).mono (Ext.refl _ _) (hb.block _ (hs.bnd b r h))⟩
end
end

theorem memoS_always {P : Program} : ∀ (l : List Memo), (∀ e ∈ l, MemoK P e) → Always P (memoS l) := by
  intro l hl E base H n ρ L w f args vs v H' n' cs c ha h
  induction l with
  | nil => cases h
  | cons e l ih =>
    have e0 : memoS (e :: l) f args H n = sel (sel (Nat.beq e.1 f) (matchL H e.2.1 args) false) (.yes (.ok e.2.2 H n)) (memoS l f args H n) := rfl
    rw [e0, sel_eq] at h
    split at h
    · rename_i h1
      rw [sel_beq] at h1
      split at h1
      · rename_i hf
        injection h with h
        injection h with q1 q2 q3
        subst q1; subst q2; subst q3
        have K := hl e List.mem_cons_self
        have hh := matchL_holds c e.2.1 args vs.toList ha h1
        obtain ⟨r, W, ⟨hr, hb⟩, hcall⟩ := calls_at (K.calls w vs hh) cs
        subst hr
        rw [← hf]
        have hlit : litW e.2.2 = true := by
          unfold litW
          rcases K.lit with ⟨h1, h2⟩ | h1 | h1
          · rw [sel_ltb, if_pos (by have := wordOf e.2.2; rw [h1, mk_eq] at this; omega), h1, sel_beq, if_pos rfl]; exact (ltb_iff _ _).2 h2
          · rw [h1]; rfl
          · rw [h1]; rfl
        have hbase : Below base w W := hb.mono c.sim.bs
        exact ⟨ρ, L, W, _, c.later hb, .refl _ _, hbase, .refl _ _ _ _, Nat.le_refl _, litV_vr hlit, K.known, hcall⟩
      · cases h1
    · exact ih (fun e he => hl e (List.mem_cons_of_mem _ he)) h

section
variable [E : Env]
theorem litW_storable {u : Nat} (h : litW u = true) : storable u = true := by
  have hlt := litW_lt h
  have h := litW_in h
  rw [storable_iff]
  rw [sel_beq] at h
  split at h
  · rename_i h1; exact ⟨by omega, by omega, by omega, hlt⟩
  · rw [sel_beq] at h
    split at h
    · rename_i h2; subst h2; exact ⟨by decide, by decide, by decide, hlt⟩
    · rw [sel_beq] at h
      split at h
      · rename_i h3; subst h3; exact ⟨by decide, by decide, by decide, hlt⟩
      · have h8 := Nat.eq_of_beq_eq_true h
        exact ⟨by omega, by omega, by omega, hlt⟩

variable {ρ : Rho} {L : Look} {w : World}
theorem layC_le : ∀ (cs : List Nat) (H : Trie) (n : Nat) (ws : List Nat), (layC cs H n ws).n = n + cs.length ∧ (layC cs H n ws).ws.length = ws.length + cs.length
  | [], H, n, ws => ⟨rfl, rfl⟩
  | x :: cs, H, n, ws => by
    have e : layC (x :: cs) H n ws = layC cs (hset H n (.cells 1 x 0 0 0 0)) (n + 1) (ws ++ [wP n 0]) := rfl
    rw [e]
    obtain ⟨h1, h2⟩ := layC_le cs (hset H n (.cells 1 x 0 0 0 0)) (n + 1) (ws ++ [wP n 0])
    rw [h1, h2]
    simp; omega
theorem layC_sound : ∀ (cs : List Nat) (H : Trie) (n : Nat) (ws : List Nat) (ρ : Rho) (L : Look) (vs us : List Value), Ctx w.heap.size H n ρ L w → n + cs.length < 16384 → AR ρ L ws us → (∀ x ∈ ws, x < 2 ^ 128) → vs.length = cs.length →
    (∀ (i x : Nat), cs[i]? = some x → ∃ a : Addr, vs[i]? = some (Value.pointer (some a)) ∧ LitAt w a x) →
    ∃ ρ' L', Ctx w.heap.size (layC cs H n ws).H (layC cs H n ws).n ρ' L' w ∧ Ext ρ L ρ' L' ∧ AR ρ' L' (layC cs H n ws).ws (us ++ vs) ∧ ∀ x ∈ (layC cs H n ws).ws, x < 2 ^ 128
  | [], H, n, ws, ρ, L, vs, us, c, hn, ha, hs, hl, h => by
    have : vs = [] := List.eq_nil_of_length_eq_zero (by simpa using hl)
    subst this
    exact ⟨ρ, L, c, .refl _ _, by rw [List.append_nil]; exact ha, hs⟩
  | x :: cs, H, n, ws, ρ, L, vs, us, c, hn, ha, hs, hl, h => by
    simp only [List.length_cons] at hn hl
    obtain ⟨a, h1, hlit, cc, ty, fz, hsp, hh, hc⟩ := h 0 x rfl
    cases vs with
    | nil => simp at hl
    | cons v vs =>
      simp only [List.getElem?_cons_zero, Option.some.injEq] at h1
      subst h1
      have hrb : a.block < w.heap.size := (Array.getElem?_eq_some_iff.1 hh).1
      have hoff : a.off < cc.size := (Array.getElem?_eq_some_iff.1 hc).1
      have c1 := c.arg (nb := 1) (ch := x) (sz := 1) (d := a.off) (by omega) hh hrb (by omega) (Nat.le_refl _) (fun i hi => by
        obtain rfl : i = 0 := by omega
        have e : getW x 0 = x := by rw [getW_eq]; simpa using litW_lt hlit
        rw [e]
        exact ⟨_, by simpa using hc, litV_vr hlit, litW_storable hlit⟩)
      have e1 : Ext ρ L (updR ρ n (a.block, a.off, 1)) (upd L n (.cells 1 x 0 0 0 0)) := .fresh c.fresh _ _
      have hp : VR (updR ρ n (a.block, a.off, 1)) (upd L n (.cells 1 x 0 0 0 0)) (wP n 0) (.pointer (some a)) := by
        have := VR.ptr (ρ := updR ρ n (a.block, a.off, 1)) (L := upd L n (.cells 1 x 0 0 0 0)) n 0 a.block a.off 1 (updR_same _ _ _) (by omega)
        have ea : a = ⟨a.block, a.off + 0, none⟩ := by
          cases a with
          | mk b o s => simp at hsp ⊢; exact hsp
        rw [← ea] at this; exact this
      have app : ∀ {ρ : Rho} {L : Look} {xs ys : List Nat} {us vs : List Value}, AR ρ L xs us → AR ρ L ys vs → AR ρ L (xs ++ ys) (us ++ vs) := by
        intro ρ L xs ys us vs h1 h2
        induction h1 with
        | nil => exact h2
        | cons x v xs vs hv _ ih => exact .cons _ _ _ _ hv ih
      have hw : wP n 0 < 2 ^ 128 := by rw [wP_eq]; omega
      obtain ⟨ρ', L', c', e', ha', hs'⟩ := layC_sound cs (hset H n (.cells 1 x 0 0 0 0)) (n + 1) (ws ++ [wP n 0]) _ _ vs (us ++ [.pointer (some a)]) c1 (by omega) (app (ha.mono e1) (.cons _ _ _ _ hp .nil)) (fun y hy => by
        rcases List.mem_append.1 hy with hy | hy
        · exact hs y hy
        · simp at hy; subst hy; exact hw) (by simpa using hl) (fun i y hi => by
        have := h (i + 1) y (by simpa using hi)
        simpa using this)
      refine ⟨ρ', L', c', e1.trans e', ?_, hs'⟩
      have : us ++ Value.pointer (some a) :: vs = us ++ [Value.pointer (some a)] ++ vs := by simp
      rw [this]; exact ha'

theorem layS_sound (s : Sh) (H : Trie) (n : Nat) (k : Nat → Trie → Nat → Lay) : ∃ x H1 n1, layS s H n k = k x H1 n1 ∧ n ≤ n1 ∧
    ∀ (ρ : Rho) (L : Look) (v : Value), Ctx w.heap.size H n ρ L w → HoldsS w s v → n1 < 16384 → shOk [s] = true → ∃ ρ' L', Ctx w.heap.size H1 n1 ρ' L' w ∧ Ext ρ L ρ' L' ∧ VR ρ' L' x v := by
  cases s with
  | lit u => exact ⟨u, H, n, rfl, Nat.le_refl _, fun ρ L v c hh _ _ => by obtain ⟨h1, rfl⟩ := hh; exact ⟨ρ, L, c, .refl _ _, litV_vr h1⟩⟩
  | row e m ch =>
    refine ⟨wS n e 0 m 0, hset H n (.cells (Nat.mul m e) ch 0 0 0 0), n + 1, rfl, Nat.le_succ _, fun ρ L v c hh hn _ => ?_⟩
    obtain ⟨h0, h1, h2, rb, d, cp, cs, ty, fz, rfl, h3, h4, h5, h6, h7⟩ := hh
    have hrb : rb < w.heap.size := (Array.getElem?_eq_some_iff.1 h5).1
    have hle : m * e ≤ cp * e := Nat.mul_le_mul_right _ h3
    have c1 := c.arg (nb := m * e) (ch := ch) (sz := cp * e) (d := d) (by omega) h5 hrb h6 hle (fun i hi => by
      obtain ⟨a, b⟩ := h7 i hi
      exact ⟨_, b, litV_vr a, litW_storable a⟩)
    exact ⟨_, _, c1, .fresh c.fresh _ _, .slice n e 0 m 0 rb d (cp * e) cp _ (updR_same _ _ _) h1 (by omega) h2 (by omega) h3 h4 (.inl rfl) (.inr ⟨by simp, by omega⟩)⟩
  | agg m ch =>
    refine ⟨mk 6 n, hset H n (.box 0 m ch), n + 1, rfl, Nat.le_succ _, fun ρ L v c hh hn _ => ?_⟩
    obtain ⟨vs, rfl, h1, h2, h3⟩ := hh
    have e : Ext ρ L ρ (upd L n (.box 0 m ch)) := .freshL c.fresh _
    have hc : CellsR ρ L m ch vs := ⟨h1, h2, fun i hi => by
      obtain ⟨a, b⟩ := h3 i hi
      exact ⟨_, b, litV_vr a, litW_storable a⟩⟩
    exact ⟨ρ, _, ⟨c.sim.box c.fresh _ _ _, c.agree.hset (by omega) _, c.fresh.updL _⟩, e, (hc.mono0 e.toExt0).agg (upd_same _ _ _)⟩
  | clo f cs =>
    have hle := layC_le cs H n []
    refine ⟨mk 10 (layC cs H n []).n, hset (layC cs H n []).H (layC cs H n []).n (.box 2 (lenN cs) (listW (f :: (layC cs H n []).ws))), (layC cs H n []).n + 1, rfl, by omega, fun ρ L v c hh hn hok => ?_⟩
    obtain ⟨vs, rfl, h1, h2⟩ := hh
    have hf : f < 1000000 := by
      have e0 : shOk [.clo f cs] = sel (ltb f 1000000) true false := rfl
      rw [e0, sel_ltb] at hok
      split at hok
      · assumption
      · cases hok
    obtain ⟨ρ1, L1, c1, e1, ha, hs⟩ := layC_sound cs H n [] ρ L vs.toList [] c (by omega) .nil (fun x hx => by cases hx) (by simpa using h1) (fun i x hi => by
      obtain ⟨a, b1, b2⟩ := h2 i x hi
      exact ⟨a, by simpa using b1, b2⟩)
    have hn1 : (layC cs H n []).n < 16384 := by omega
    have e2 : Ext ρ1 L1 ρ1 (upd L1 (layC cs H n []).n (.box 2 (lenN cs) (listW (f :: (layC cs H n []).ws)))) := .freshL c1.fresh _
    have hsl : allSlot (f :: (layC cs H n []).ws) = true := allSlot_of' _ fun y hy => by
      rcases List.mem_cons.1 hy with rfl | hy
      · omega
      · exact hs y hy
    refine ⟨ρ1, _, ⟨c1.sim.box c1.fresh _ _ _, c1.agree.hset hn1 _, c1.fresh.updL _⟩, e1.trans e2, ?_⟩
    refine .clo _ _ _ f vs (upd_same _ _ _) (by rw [getW_listW _ hsl]; rfl) (by rw [h1, lenN_eq]) fun i hi => ?_
    rw [getW_listW _ hsl]
    have hi' : i < ([] ++ vs.toList).length := by simpa using hi
    have := (ha.get i hi').mono e2
    simpa using this

theorem shOk_cons (s : Sh) (l : List Sh) : shOk (s :: l) = true → shOk [s] = true ∧ shOk l = true := by
  intro h
  cases s with
  | lit u => exact ⟨rfl, h⟩
  | row e n c => exact ⟨rfl, h⟩
  | agg m c => exact ⟨rfl, h⟩
  | clo f cs =>
    have e0 : shOk (.clo f cs :: l) = sel (ltb f 1000000) (shOk l) false := rfl
    have e1 : shOk [.clo f cs] = sel (ltb f 1000000) true false := rfl
    rw [e0, sel_ltb] at h
    rw [e1, sel_ltb]
    split at h
    · rename_i hf; exact ⟨by rw [if_pos hf], h⟩
    · cases h
theorem layL_sound : ∀ (l : List Sh) (H : Trie) (n : Nat) (ws : List Nat), n ≤ (layL l H n ws).n ∧
    ∀ (ρ : Rho) (L : Look) (vs us : List Value), Ctx w.heap.size H n ρ L w → AR ρ L ws us → HoldsL w l vs → (layL l H n ws).n < 1000 → shOk l = true →
      ∃ ρ' L', Ctx w.heap.size (layL l H n ws).H (layL l H n ws).n ρ' L' w ∧ AR ρ' L' (layL l H n ws).ws (us ++ vs)
  | [], H, n, ws => ⟨Nat.le_refl _, fun ρ L vs us c ha hh _ _ => by cases hh; exact ⟨ρ, L, c, by rw [List.append_nil]; exact ha⟩⟩
  | s :: l, H, n, ws => by
    obtain ⟨x, H1, n1, e, hn, hS⟩ := layS_sound (w := w) s H n (fun w' H' n' => layL l H' n' (ws ++ [w']))
    have e0 : layL (s :: l) H n ws = layL l H1 n1 (ws ++ [x]) := e
    obtain ⟨h1, h2⟩ := layL_sound l H1 n1 (ws ++ [x])
    rw [e0]
    refine ⟨Nat.le_trans hn h1, fun ρ L vs us c ha hh hlt hok => ?_⟩
    cases hh with
    | cons _ v _ vs' hv hl =>
      obtain ⟨ok1, ok2⟩ := shOk_cons s l hok
      obtain ⟨ρ1, L1, c1, e1, hx⟩ := hS ρ L v c hv (by omega) ok1
      have app : ∀ {ρ : Rho} {L : Look} {xs ys : List Nat} {us vs : List Value}, AR ρ L xs us → AR ρ L ys vs → AR ρ L (xs ++ ys) (us ++ vs) := by
        intro ρ L xs ys us vs h1 h2
        induction h1 with
        | nil => exact h2
        | cons x v xs vs hv _ ih => exact .cons _ _ _ _ hv ih
      obtain ⟨ρ', L', c', ha'⟩ := h2 ρ1 L1 vs' (us ++ [v]) c1 (app (ha.mono e1) (.cons _ _ _ _ hx .nil)) hl hlt ok2
      exact ⟨ρ', L', c', by simpa using ha'⟩
end

/-- surroundings that tell nothing -/
@[reducible] noncomputable def noEnv : Env where
  lst := fun j => if j = 1001 then [.int .u8 0] else []
  int := fun j => if j = 1099511627776 + 1001 then 1 else 0
  wf := fun j => by split <;> omega
  len := fun j _ => by
    have : lenIx j = 1099511627776 + j := rfl
    rw [this]
    by_cases h : j = 1001
    · subst h; simp
    · rw [if_neg (by omega), if_neg h]; rfl
  byThree := by simp
  notThree := by simp

theorem known_of {P : Program} {call : Nat → List Nat → Trie → Nat → OR} {fuel f v n n' : Nat} {args : List Nat} {H H' : Trie} (h : funE P call fuel f args H n = .ok v H' n') : Known P f := by
  unfold funE at h
  split at h
  · rename_i fn hfn
    split at h
    · rename_i c hb
      rw [sel_beq] at h
      split at h
      · cases h
      · rename_i hne
        refine ⟨fn, hfn, by rw [hb]; rfl, fun hname => hne ?_⟩
        unfold funE.bne'
        rw [if_pos hname]
    · cases h
  · cases h

/-- ██ A result found by a run. -/
theorem memo_of {P : Program} {S : Sums} (hS : Always P S) {fuel d f v : Nat} {l : List Sh} (h : isWord v (memoRun P S fuel d f l) = true) : MemoK P (f, l, v) := by
  letI : Env := noEnv
  unfold memoRun at h
  simp only at h
  cases hg : sel (shOk l) (ltb (layL l .nil 0 []).n 1000) false with
  | false => rw [hg] at h; cases h
  | true =>
    rw [hg, sel_true] at h
    rw [sel_eq] at hg
    split at hg
    · rename_i hok
      have hlt := (ltb_iff _ _).1 hg
      cases hr : funE P (callN P S fuel d) fuel f (layL l .nil 0 []).ws (layL l .nil 0 []).H (layL l .nil 0 []).n with
      | bad q => rw [hr] at h; cases h
      | ok v' H' n' =>
        rw [hr] at h
        have h' : sel (Nat.beq v' v) (sel (Nat.beq (tagOf v) 1) (ltb (payOf v) 18446744073709551616) (sel (Nat.beq v 18) true (Nat.beq v 2))) false = true := h
        rw [sel_beq] at h'
        split at h'
        · rename_i hv
          subst hv
          have lit : ∀ w : World, ∀ vs : Array Value, HoldsL w l vs.toList → ∃ x, litW v' = true ∧ x = litV v' ∧ Calls P f vs w fun e w' => e = .returned x ∧ Below w.heap.size w w' := by
            intro w vs hh
            obtain ⟨_, hL⟩ := layL_sound (w := w) l .nil 0 []
            obtain ⟨ρ', L', c, ha⟩ := hL _ _ vs.toList [] (Ctx.start w) .nil hh hlt hok
            have key : ∀ cs, ∃ ρ' L' w' x, Below w.heap.size w w' ∧ VR ρ' L' v' x ∧ CallsAt P f vs w cs (fun e W => e = .returned x ∧ W = w') := by
              intro cs
              obtain ⟨ρ2, L2, w', x, _, _, hb, _, _, hx, _, hc⟩ := funE_sound (callN_sound P (hS noEnv) fuel d) cs c (by simpa using ha) hr
              exact ⟨ρ2, L2, w', x, hb, hx, hc⟩
            have hlitw : ∃ (ρ : Rho) (L : Look) (x : Value), VR ρ L v' x := by
              obtain ⟨ρ2, L2, w', x, _, hx, _⟩ := key []
              exact ⟨ρ2, L2, x, hx⟩
            have hl : litW v' = true := by
              obtain ⟨ρ2, L2, x, hx⟩ := hlitw
              unfold litW
              rw [sel_beq] at h'
              split at h'
              · rename_i h1
                obtain ⟨p, hp, hw, hpp, _⟩ := hx.int_inv h1
                rw [sel_ltb, if_pos (by rw [hw]; exact wI_slot hp), sel_beq, if_pos h1, hpp]
                exact (ltb_iff _ _).2 hp
              · rw [sel_beq] at h'
                split at h'
                · rename_i h2; subst h2; rfl
                · have := Nat.eq_of_beq_eq_true h'; subst this; rfl
            refine ⟨litV v', hl, rfl, fun cs => ?_⟩
            obtain ⟨ρ2, L2, w', x, hb, hx, hc⟩ := key cs
            have hxl := litV_of hl hx
            subst hxl
            obtain ⟨e, W, fr, ⟨h1, h2⟩, h3⟩ := hc
            subst h2
            exact ⟨e, W, fr, ⟨h1, hb⟩, h3⟩
          refine ⟨known_of hr, ?_, fun w vs hh => ?_⟩
          · rw [sel_beq] at h'
            split at h'
            · rename_i h1
              exact .inl ⟨h1, (ltb_iff _ _).1 h'⟩
            · rw [sel_beq] at h'
              split at h'
              · exact .inr (.inl (by assumption))
              · exact .inr (.inr (Nat.eq_of_beq_eq_true h'))
          · obtain ⟨x, _, rfl, hc⟩ := lit w vs hh
            exact hc
        · cases h'
    · cases hg
end Go.Eng
