/- Part of the evaluator, in company. -/
import Derived.Test.YtadmpiidofncpacOCf
set_option linter.unusedSectionVars false
set_option linter.unusedSimpArgs false
set_option linter.unusedVariables false
namespace Go.Eng
open Go Go.RowKit
variable [E : Env] [Pd : Pad]
inductive AR (ρ : Rho) (L : Look) : List Nat → List Value → Prop
 | nil : AR ρ L [] []
 | cons (x : Nat) (v : Value) (xs : List Nat) (vs : List Value) : VR ρ L x v → AR ρ L xs vs → AR ρ L (x :: xs) (v :: vs)
theorem AR.mono {ρ ρ' : Rho} {L L' : Look} (e : Ext ρ L ρ' L') {xs : List Nat} {vs : List Value} (h : AR ρ L xs vs) : AR ρ' L' xs vs := by
 induction h with
 | nil => exact .nil
 | cons x v xs vs h _ ih => exact .cons _ _ _ _ (h.mono e) ih
theorem AR.length {ρ : Rho} {L : Look} {xs : List Nat} {vs : List Value} (h : AR ρ L xs vs) : vs.length = xs.length := by
 induction h with
 | nil => rfl
 | cons _ _ _ _ _ _ ih => simp [ih]
theorem zb8 {x : Nat} {xs : List Nat} (h : noBad (x :: xs) = true) : tagOf x ≠ 15 ∧ noBad xs = true := by
 have e : noBad (x :: xs) = sel (Nat.beq (tagOf x) 15) false (noBad xs) := rfl
 rw [e, z8] at h
 split at h
 ·cases h
 ·exact ⟨by assumption, h⟩
theorem z1N {ρ : Rho} {L : Look} {nt T : Nat} {tmps : Array Value} (h : TR ρ L nt T tmps) : ∀ (l : List Operand), noBad (evs T l) = true → AR ρ L (evs T l) (l.map (evT tmps))
 | [], _ => .nil
 | o :: l, hb => by
  have e : evs T (o :: l) = ev T o :: evs T l := rfl
  rw [e] at hb ⊢
  obtain ⟨h1, h2⟩ := zb8 hb
  exact .cons _ _ _ _ (zC h o h1) (z1N h l h2)
def CallS (P : Program) (call : Nat → List Nat → Trie → Nat → OR) : Prop :=
 ∀ (base : Nat) (H : Trie) (n : Nat) (ρ : Rho) (L : Look) (w : World) (fw : Nat) (args : List Nat) (fv : Value) (vs : Array Value) (v : Nat) (H' : Trie) (n' : Nat) (cfr : Frame) (ccs : List Frame),
  Ctx base H n ρ L w → VR ρ L fw fv → AR ρ L args vs.toList → call fw args H n = .ok v H' n' →
  After base H n ρ L w v H' n' (fun x w' => Does P (do let d ← Deferred.ofValue fv vs; invoke d.target d.args) w x w' cfr ccs)
theorem AR.get {ρ : Rho} {L : Look} {xs : List Nat} {vs : List Value} (h : AR ρ L xs vs) : ∀ i (hi : i < vs.length), VR ρ L (xs.getD i 0) vs[i] := by
 induction h with
 | nil => intro i hi; exact absurd hi (by simp)
 | cons x v xs vs hv _ ih =>
  intro i hi
  cases i with
  | zero => exact hv
  | succ i => simpa using ih i (by simpa using hi)
section
variable {base : Nat} {H H' : Trie} {n n' nt T v : Nat} {ρ : Rho} {L : Look} {w : World} {P : Program} {tmps : Array Value} {o : Oper} {call : Nat → List Nat → Trie → Nat → OR} {cfr : Frame} {ccs : List Frame}
abbrev OpDone (P : Program) (tmps : Array Value) (o : Oper) (w : World) (cfr : Frame) (ccs : List Frame) : Value → World → Prop := fun x w' => Does P (execOp (evT tmps) o) w x w' cfr ccs
theorem z9E (c : Ctx base H n ρ L w) (ht : TR ρ L nt T tmps) {x : Operand} (ho : o.op = .move x ∨ o.op = .assign x) (h : okv (ev T x) H n = .ok v H' n') :
  CalmD ρ L H n w v H' n' (OpDone P tmps o w cfr ccs) := by
 obtain ⟨h1, rfl, rfl, rfl⟩ := z0N h
 refine .pure c (zC ht x h1) (.value ?_)
 rcases ho with ho | ho <;> simp [execOp, ho]
theorem z3J {t : TypeId} {x : Value} (hx : x.cells = #[x]) : (newVar t x).run P w = .ok ⟨w.heap.size, 0, none⟩ { w with heap := w.heap.push (.cells #[x] t) } := by
 simp [newVar, newRow, hx]
theorem z2H {v : Nat} {x : Value} (hv : VR ρ L v x) (hs : storable v = true) : ∀ i, i < 1 → ∃ u, (#[x] : Array Value)[i]? = some u ∧ VR ρ L (getW v i) u ∧ storable (getW v i) = true := by
 intro i hi
 obtain rfl : i = 0 := by omega
 have hlt := ((z0g _).1 hs).2.2.2
 have e : getW v 0 = v := by rw [z1w]; simpa using hlt
 rw [e]
 exact ⟨x, rfl, hv, hs⟩
theorem zei (c : Ctx base H n ρ L w) (ht : TR ρ L nt T tmps) {x : Operand} {t : TypeId} (ho : o.op = .box t x) (h : opE P call T H n o.op = .ok v H' n') :
  After base H n ρ L w v H' n' (OpDone P tmps o w cfr ccs) := by
 rw [ho] at h
 simp only [z01, opX] at h
 rw [zf] at h
 split at h
 ·rename_i hs
  obtain ⟨hn, hk, hmk⟩ := z1B c h (by simp)
  injection hk with h1 h2 h3
  subst h1; subst h2; subst h3
  have hx := zC ht x ((z0g _).1 hs).2.2.1
  obtain ⟨hc1, hc2⟩ := hx.cell hs
  obtain ⟨c', e, hb, hl⟩ := hmk { w with heap := w.heap.push (.cells #[evT tmps x] t) } #[evT tmps x] t rfl rfl rfl rfl (by simp) (z2H hx hs)
  refine ⟨_, _, _, _, c', e, hb, hl, Nat.le_succ _, z1V (zU _ _ _), .value ?_⟩
  simp [execOp, ho, Instr.box, z3J hc1]
 ·rename_i hs
  by_cases hnb : tagOf (ev T x) = 6
  ·refine ((z6V (P := P) (t := t) c (zC ht x (by omega)) h).after c).mono fun y w' hy => .value ?_
   simp [execOp, ho, hy]
  ·unfold boxA at h
   rw [z8, if_neg hnb] at h
   cases h
theorem zdf (c : Ctx base H n ρ L w) {t : TypeId} (ho : o.op = .alloc t) (h : opE P call T H n o.op = .ok v H' n') :
  After base H n ρ L w v H' n' (OpDone P tmps o w cfr ccs) := by
 rw [ho] at h
 simp only [z01, opX] at h
 rw [zf, zf] at h
 split at h
 ·rename_i hp
  split at h
  ·rename_i hs
   obtain ⟨hn, hk, hmk⟩ := z1B c h (by simp)
   injection hk with h1 h2 h3
   subst h1; subst h2; subst h3
   obtain ⟨i, z, hi, hz, hx⟩ := z13 ρ L hs
   obtain ⟨hc1, hc2⟩ := hx.cell hs
   obtain ⟨c', e, hb, hl⟩ := hmk { w with heap := w.heap.push (.cells #[z] t) } #[z] t rfl rfl rfl rfl (by simp) (z2H hx hs)
   refine ⟨_, _, _, _, c', e, hb, hl, Nat.le_succ _, z1V (zU _ _ _), .value ?_⟩
   have hzv : (zeroValue t).run P w = .ok z w := by simp [zeroValue, typeInfo, hi, hz]
   simp [execOp, ho, Instr.alloc, hzv, z3J hc1]
  ·cases h
 ·refine ((z5a (ρ := ρ) (L := L) h).after c).mono fun y w' hy => .value ?_
  simp [execOp, ho, hy]
theorem zci (c : Ctx base H n ρ L w) (ht : TR ρ L nt T tmps) {q a b : Operand} (ho : o.op = .pick q a b) (h : opE P call T H n o.op = .ok v H' n') :
  CalmD ρ L H n w v H' n' (OpDone P tmps o w cfr ccs) := by
 rw [ho] at h
 simp only [z01, opX] at h
 rw [z8, z8] at h
 split at h
 ·rename_i hq
  obtain ⟨h1, rfl, rfl, rfl⟩ := z0N h
  have hv := zC ht q (by rw [hq]; decide)
  rw [hq] at hv
  have := hv.z3F
  exact .pure c (zC ht a h1) (.value (by simp [execOp, ho, asBool, this]))
 ·split at h
  ·rename_i hq
   obtain ⟨h1, rfl, rfl, rfl⟩ := z0N h
   have hv := zC ht q (by rw [hq]; decide)
   rw [hq] at hv
   have := hv.z2O
   exact .pure c (zC ht b h1) (.value (by simp [execOp, ho, asBool, this]))
  ·cases h
theorem z0S (op : BinOp) (t : TypeId) (x y : Operand) (k : IntKind) (a b : Int) : (eqGuard op t x y (.int k a) (.int k b)).run P w = .ok () w := by
 unfold eqGuard; cases op <;> simp
theorem z3k (op : BinOp) (t : TypeId) (x y : Operand) (a b : Bool) : (eqGuard op t x y (.bool a) (.bool b)).run P w = .ok () w := by
 unfold eqGuard; cases op <;> simp
theorem z0O (op : BinOp) (t : TypeId) (x y : Operand) (a a' : Option Addr) (l c l' c' : Nat) : (eqGuard op t x y (.slice a l c) (.slice a' l' c')).run P w = .ok () w := by
 unfold eqGuard; cases op <;> simp
theorem z9F {t : TypeId} (h : isBoolT P t = true) : P.underlying t = some .bool := by
 unfold isBoolT at h; split at h
 ·assumption
 ·cases h
theorem z5c {t : TypeId} (h : isSliceT P t = true) : ∃ e, P.underlying t = some (.slice e) := by
 unfold isSliceT at h; split at h
 ·exact ⟨_, by assumption⟩
 ·cases h
theorem run_equal_bool {t : TypeId} (hu : P.underlying t = some .bool) (a b : Bool) : (Op.equal t (.bool a) (.bool b)).run P w = .ok (a == b) w := by
 have : ∀ d, (Op.equalIn (d + 1) t (.bool a) (.bool b)).run P w = .ok (a == b) w := fun d => by simp only [Op.equalIn, Sem.run_bind, run_underlying hu, Result.andThen_ok, Sem.run_pure]
 exact this 9999
theorem z4B {t e : TypeId} (hu : P.underlying t = some (.slice e)) : (Op.equal t (.slice none 0 0) (.slice none 0 0)).run P w = .ok true w := by
 have : ∀ d, (Op.equalIn (d + 1) t (.slice none 0 0) (.slice none 0 0)).run P w = .ok true w := fun d => by simp only [Op.equalIn, Sem.run_bind, run_underlying hu, Result.andThen_ok, Sem.run_pure, Option.isNone_none]
 exact this 9999
theorem z2e {t e : TypeId} (hu : P.underlying t = some (.slice e)) (a : Addr) (n c : Nat) : (Op.equal t (.slice (some a) n c) (.slice none 0 0)).run P w = .ok false w := by
 have : ∀ d, (Op.equalIn (d + 1) t (.slice (some a) n c) (.slice none 0 0)).run P w = .ok false w := fun d => by simp only [Op.equalIn, Sem.run_bind, run_underlying hu, Result.andThen_ok, Sem.run_pure]
 exact this 9999
theorem z0Y {t : TypeId} {x y : Value} {r : Bool} (h : (Op.equal t x y).run P w = .ok r w) : (do pure (.bool (← Op.equal t x y)) : Sem Value).run P w = .ok (.bool r) w ∧
  (do pure (.bool (!(← Op.equal t x y))) : Sem Value).run P w = .ok (.bool (!r)) w := by
 constructor <;> simp only [Sem.run_bind, h, Result.andThen_ok, Sem.run_pure]
theorem zb9 {t : TypeId} (h : isPtrT P t = true) : ∃ e, P.underlying t = some (.pointer e) := by
 unfold isPtrT at h; split at h
 ·exact ⟨_, by assumption⟩
 ·cases h
theorem z1O (op : BinOp) (t : TypeId) (x y : Operand) (a b : Option Addr) : (eqGuard op t x y (.pointer a) (.pointer b)).run P w = .ok () w := by
 unfold eqGuard; cases op <;> simp
theorem z3S {t e : TypeId} (hu : P.underlying t = some (.pointer e)) : (Op.equal t (.pointer none) (.pointer none)).run P w = .ok true w := by
 have : ∀ d, (Op.equalIn (d + 1) t (.pointer none) (.pointer none)).run P w = .ok true w := fun d => by simp only [Op.equalIn, Sem.run_bind, run_underlying hu, Result.andThen_ok, Sem.run_pure, Option.isNone_none]
 exact this 9999
theorem z3x {t e : TypeId} (hu : P.underlying t = some (.pointer e)) (a : Addr) : (Op.equal t (.pointer (some a)) (.pointer none)).run P w = .ok false w := by
 have : ∀ d, (Op.equalIn (d + 1) t (.pointer (some a)) (.pointer none)).run P w = .ok false w := fun d => by simp only [Op.equalIn, Sem.run_bind, run_underlying hu, Result.andThen_ok, Sem.run_pure]
 exact this 9999
theorem zba {op : BinOp} {t : TypeId} {x y : Nat} {vx vy : Value} (hx : VR ρ L x vx) (hy : VR ρ L y vy) (h : tagOf (ptrB P op t x y) ≠ 15) (ox oy : Operand) :
  ∃ r, VR ρ L (ptrB P op t x y) r ∧ (do eqGuard op t ox oy vx vy; binOp op t vx vy : Sem Value).run P w = .ok r w := by
 unfold ptrB at h ⊢
 rw [z8] at h ⊢
 by_cases h3 : tagOf x = 3
 ·rw [if_pos h3, z8] at h ⊢
  by_cases h4 : y = 3
  ·rw [if_pos h4, zf] at h ⊢
   by_cases h5 : isPtrT P t = true
   ·rw [if_pos h5] at h ⊢
    obtain ⟨e, hu⟩ := zb9 h5
    rcases hy.z1j (by rw [h4]; decide) with ⟨_, rfl⟩ | ⟨b, off, rb, d, sz, _, ho', hw, _⟩
    ·rcases hx.z1j h3 with ⟨rfl, rfl⟩ | ⟨b, off, rb, d, sz, _, ho', rfl, rfl⟩
     ·have hz : Nat.beq (pBlk (payOf 3)) 0 = true := by decide
      cases op <;> simp only [hz, z0b] at h ⊢ <;> try (with_reducible exact absurd z1z h)
      case eql => exact ⟨_, .bool _, by rw [Sem.run_bind, z1O]; exact (z0Y (z3S hu)).1⟩
      case neq => exact ⟨_, .bool _, by rw [Sem.run_bind, z1O]; exact (z0Y (z3S hu)).2⟩
     ·have hz : Nat.beq (pBlk (payOf (wP b off))) 0 = false := by
       rw [(z2p b off ho').2.2]; rfl
      cases op <;> simp only [hz, z0f] at h ⊢ <;> try (with_reducible exact absurd z1z h)
      case eql => exact ⟨_, .bool _, by rw [Sem.run_bind, z1O]; exact (z0Y (z3x hu _)).1⟩
      case neq => exact ⟨_, .bool _, by rw [Sem.run_bind, z1O]; exact (z0Y (z3x hu _)).2⟩
    ·exfalso
     rw [h4] at hw
     have := (z2p b off ho').2.2
     rw [← hw] at this
     exact absurd this (by rw [show pBlk (payOf 3) = 0 from rfl]; omega)
   ·rw [if_neg h5] at h; exact absurd rfl h
  ·rw [if_neg h4] at h; exact absurd rfl h
 ·rw [if_neg h3] at h; exact absurd rfl h
theorem zbb {op : BinOp} {t : TypeId} {x y : Nat} {vx vy : Value} (hx : VR ρ L x vx) (hy : VR ρ L y vy) (h : tagOf (binE P op t x y) ≠ 15) (ox oy : Operand) :
  ∃ r, VR ρ L (binE P op t x y) r ∧ (do eqGuard op t ox oy vx vy; binOp op t vx vy : Sem Value).run P w = .ok r w := by
 unfold binE at h ⊢
 rw [z8] at h ⊢
 by_cases h1 : tagOf x = 1
 ·rw [if_pos h1, z8] at h ⊢
  by_cases h2 : tagOf y = 1
  ·rw [if_pos h2] at h ⊢
   obtain ⟨a, ha, rfl, hpa, rfl⟩ := hx.z0i h1
   obtain ⟨b, hb, rfl, hpb, rfl⟩ := hy.z0i h2
   rw [hpa, hpb] at h ⊢
   obtain ⟨r, hr1, hr2⟩ := z6S (P := P) (ρ := ρ) (L := L) (w := w) op t a b ha hb h
   exact ⟨r, hr1, by simp [z0S, hr2]⟩
  ·rw [if_neg h2, z8] at h ⊢
   by_cases h9 : tagOf y = 12
   ·rw [if_pos h9] at h ⊢
    obtain ⟨a, ha, rfl, hpa, rfl⟩ := hx.z0i h1
    obtain ⟨j, lo, hi, q1, q2, q3, q4, rfl, rfl⟩ := hy.z3V h9
    rw [hpa] at h ⊢
    obtain ⟨c, c0, _, hcs, hnb⟩ := z4o ha h
    rw [hnb] at h ⊢
    have hff := flip_flip h
    obtain ⟨r, hr1, _, hr2⟩ := z2l (P := P) (w := w) (ty := t) q1 q2 q3 q4 c0 h
    rw [hff] at hr2
    rw [hr1]
    exact ⟨_, .bool r, by rw [hcs]; simp [z0S, hr2]⟩
   ·rw [if_neg h9] at h; exact absurd rfl h
 ·rw [if_neg h1, z8] at h ⊢
  by_cases h2 : tagOf x = 2
  ·rw [if_pos h2, z8] at h ⊢
   by_cases h3 : tagOf y = 2
   ·rw [if_pos h3, zf] at h ⊢
    obtain ⟨a, rfl, rfl⟩ := hx.z1J h2
    obtain ⟨b, rfl, rfl⟩ := hy.z1J h3
    by_cases h4 : isBoolT P t = true
    ·rw [if_pos h4] at h ⊢
     have hu := z9F h4
     have key : Nat.beq (wB a) (wB b) = (a == b) := by cases a <;> cases b <;> rfl
     cases op <;> simp only [key, zam] at h ⊢ <;> try (with_reducible exact absurd z1z h)
     case eql => exact ⟨_, .bool _, by rw [Sem.run_bind, z3k]; exact (z0Y (run_equal_bool hu a b)).1⟩
     case neq => exact ⟨_, .bool _, by rw [Sem.run_bind, z3k]; exact (z0Y (run_equal_bool hu a b)).2⟩
    ·rw [if_neg h4] at h; exact absurd rfl h
   ·rw [if_neg h3] at h; exact absurd rfl h
  ·rw [if_neg h2, z8] at h ⊢
   by_cases h3 : tagOf x = 4
   ·rw [if_pos h3, z8] at h ⊢
    by_cases h4 : y = sNil
    ·rw [if_pos h4, zf] at h ⊢
     by_cases h5 : isSliceT P t = true
     ·rw [if_pos h5] at h ⊢
      obtain ⟨e, hu⟩ := z5c h5
      rcases hy.z0E (by rw [h4]; rfl) with ⟨_, rfl⟩ | ⟨b, e', o', n', k', rb, d, sz, cc, a, _, he, hoo, hnn, hkk, _, _, _, _, hw, rfl⟩
      ·rcases hx.z0E h3 with ⟨rfl, rfl⟩ | ⟨b, e', o', n', k', rb, d, sz, cc, a, _, he, hoo, hnn, hkk, _, _, _, _, rfl, rfl⟩
       ·have hz : Nat.beq (sBlk (payOf sNil)) 0 = true := rfl
        cases op <;> simp only [hz, z0b] at h ⊢ <;> try (with_reducible exact absurd z1z h)
        case eql => exact ⟨_, .bool _, by rw [Sem.run_bind, z0O]; exact (z0Y (z4B hu)).1⟩
        case neq => exact ⟨_, .bool _, by rw [Sem.run_bind, z0O]; exact (z0Y (z4B hu)).2⟩
       ·have hz : Nat.beq (sBlk (payOf (wS b e' o' n' k'))) 0 = false := by
         rw [(z1S b e' o' n' k' he hoo hnn hkk).2.2.2.2.2]; rfl
        cases op <;> simp only [hz, z0f] at h ⊢ <;> try (with_reducible exact absurd z1z h)
        case eql => exact ⟨_, .bool _, by rw [Sem.run_bind, z0O]; exact (z0Y (z2e hu _ _ _)).1⟩
        case neq => exact ⟨_, .bool _, by rw [Sem.run_bind, z0O]; exact (z0Y (z2e hu _ _ _)).2⟩
      ·exfalso
       rw [h4] at hw
       have := (z1S b e' o' n' k' he hoo hnn hkk).2.2.2.2.2
       rw [← hw, z6E.2.2.2.2.2] at this
       omega
     ·rw [if_neg h5] at h; exact absurd rfl h
    ·rw [if_neg h4] at h; exact absurd rfl h
   ·rw [if_neg h3, z8] at h ⊢
    by_cases h9 : tagOf x = 12
    ·rw [if_pos h9, z8] at h ⊢
     by_cases h4 : tagOf y = 1
     ·rw [if_pos h4] at h ⊢
      obtain ⟨b, hb, rfl, hpb, rfl⟩ := hy.z0i h4
      obtain ⟨j, lo, hi, q1, q2, q3, q4, rfl, rfl⟩ := hx.z3V h9
      rw [hpb] at h ⊢
      rw [zf] at h ⊢
      by_cases hqu : isQuo op = true
      ·rw [if_pos hqu] at h ⊢
       obtain ⟨r, hr1, hr2⟩ := zb2 (P := P) (ρ := ρ) (L := L) (w := w) (ty := t) hqu hb q1 q2 q3 q4 h
       exact ⟨r, hr1, by simp [z0S, hr2]⟩
      ·rw [if_neg hqu, zf] at h ⊢
       by_cases hre : isRem op = true
       ·rw [if_pos hre] at h ⊢
        obtain ⟨r, hr1, hr2⟩ := zb0 (P := P) (ρ := ρ) (L := L) (w := w) (ty := t) hre q1 q2 h
        exact ⟨r, hr1, by simp [z0S, hr2]⟩
       rw [if_neg hre] at h ⊢
       obtain ⟨c, c0, _, hcs, hnb⟩ := z4o hb h
       rw [hnb] at h ⊢
       obtain ⟨r, hr1, hr2, _⟩ := z2l (P := P) (w := w) (ty := t) q1 q2 q3 q4 c0 h
       rw [hr1]
       exact ⟨_, .bool r, by rw [hcs]; simp [z0S, hr2]⟩
     ·rw [if_neg h4] at h; exact absurd (z1I _) h
    ·rw [if_neg h9, z8] at h ⊢
     by_cases h10 : tagOf x = 9
     ·rw [if_pos h10, z8] at h ⊢
      by_cases h4 : tagOf y = 1
      ·rw [if_pos h4] at h ⊢
       obtain ⟨b, hb, rfl, hpb, rfl⟩ := hy.z0i h4
       obtain ⟨tt, u, z, q1, q2, q3, _, q5, q6, rfl⟩ := hx.zc2 h10
       rw [hpb, zf] at h ⊢
       by_cases hadd : isAdd op = true
       ·rw [if_pos hadd] at h ⊢
        obtain ⟨r, hr1, hr2⟩ := zb1 (P := P) (ρ := ρ) (L := L) (w := w) (ty := t) hadd q5 q6 q2 q3 h
        exact ⟨r, hr1, by simp [z0S, hr2]⟩
       ·rw [if_neg hadd] at h ⊢
        obtain ⟨r, hr1, hr2⟩ := zaZ (P := P) (w := w) (ty := t) q5 q2 h
        rw [hr1]
        exact ⟨_, .bool r, by simp [z0S, hr2]⟩
      ·rw [if_neg h4] at h; exact absurd rfl h
     ·rw [if_neg h10, z8] at h ⊢
      by_cases h14 : x = 14
      ·rw [if_pos h14, z8] at h ⊢
       by_cases h4 : y = sNil
       ·rw [if_pos h4, zf] at h ⊢
        by_cases h5 : isSliceT P t = true
        ·rw [if_pos h5] at h ⊢
         obtain ⟨e, hu⟩ := z5c h5
         obtain ⟨a, rfl⟩ := hx.z5K (by rw [h14]; rfl)
         rcases hy.z0E (by rw [h4]; rfl) with ⟨_, rfl⟩ | ⟨b, e', o', n', k', rb, d, sz, cc, a', _, he, hoo, hnn, hkk, _, _, _, _, hw, rfl⟩
         ·cases op <;> simp only at h ⊢ <;> try (with_reducible exact absurd z1z h)
          case eql => exact ⟨_, .bool false, by rw [Sem.run_bind, z0O]; exact (z0Y (z2e hu _ _ _)).1⟩
          case neq => exact ⟨_, .bool true, by rw [Sem.run_bind, z0O]; exact (z0Y (z2e hu _ _ _)).2⟩
         ·exfalso
          rw [h4] at hw
          have := (z1S b e' o' n' k' he hoo hnn hkk).2.2.2.2.2
          rw [← hw, z6E.2.2.2.2.2] at this
          omega
        ·rw [if_neg h5] at h; exact absurd rfl h
       ·rw [if_neg h4] at h; exact absurd rfl h
      ·rw [if_neg h14] at h ⊢
       exact zba hx hy h ox oy
theorem z8D {op : BinOp} {t : TypeId} {x y : Nat} (h : tagOf (binE P op t x y) ≠ 15) : tagOf x ≠ 15 ∧ tagOf y ≠ 15 := by
 unfold binE at h
 rw [z8] at h
 split at h
 ·rename_i h1
  rw [z8] at h
  split at h
  ·rename_i h2; omega
  ·rw [z8] at h
   split at h
   ·rename_i h2; omega
   ·exact absurd rfl h
 ·rw [z8] at h
  split at h
  ·rename_i h1
   rw [z8] at h
   split at h
   ·rename_i h2; omega
   ·exact absurd rfl h
  ·rw [z8] at h
   split at h
   ·rename_i h1
    rw [z8] at h
    split at h
    ·rename_i h2; exact ⟨by omega, by rw [h2]; decide⟩
    ·exact absurd rfl h
   ·rw [z8] at h
    split at h
    ·rw [z8] at h
     split at h
     ·rename_i h2; exact ⟨by omega, by omega⟩
     ·exact absurd (z1I _) h
    ·rw [z8] at h
     split at h
     ·rw [z8] at h
      split at h
      ·rename_i h2; exact ⟨by omega, by omega⟩
      ·exact absurd rfl h
     ·rw [z8] at h
      split at h
      ·rename_i hx14
       rw [z8] at h
       split at h
       ·rename_i hyn; exact ⟨by rw [hx14]; decide, by rw [hyn]; decide⟩
       ·exact absurd rfl h
      ·unfold ptrB at h
       rw [z8] at h
       split at h
       ·rename_i hx3
        rw [z8] at h
        split at h
        ·rename_i hyn; exact ⟨by rw [hx3]; decide, by rw [hyn]; decide⟩
        ·exact absurd rfl h
       ·exact absurd rfl h
theorem z14 {b : Bool} {r : OR} {q : Nat} (h : sel b r (.bad q) = .ok v H' n') : r = .ok v H' n' := by
 cases b with
 | true => exact h
 | false => cases h
theorem zdL (c : Ctx base H n ρ L w) (ht : TR ρ L nt T tmps) {op : BinOp} {t yt : TypeId} {x y : Operand} (ho : o.op = .binOp op t x y yt) (h : opE P call T H n o.op = .ok v H' n') :
  CalmD ρ L H n w v H' n' (OpDone P tmps o w cfr ccs) := by
 rw [ho] at h
 simp only [z01, opX] at h
 have fin : okv (binE P op t (ev T x) (ev T y)) H n = .ok v H' n' → CalmD ρ L H n w v H' n' (OpDone P tmps o w cfr ccs) := by
  intro h
  obtain ⟨h1, rfl, rfl, rfl⟩ := z0N h
  obtain ⟨hx, hy⟩ := z8D h1
  obtain ⟨r, hr1, hr2⟩ := zbb (w := w) (zC ht x hx) (zC ht y hy) h1 x y
  refine .pure c hr1 (.value ?_)
  simp only [execOp, ho]
  simp only [Sem.run_bind, hr2, Result.andThen_ok, Sem.run_pure]
 rw [zf] at h
 split at h
 ·rename_i hb
  unfold bothI at hb
  rw [z8] at hb
  split at hb
  ·rename_i hx1
   have hy1 := Nat.eq_of_beq_eq_true hb
   refine fin ?_
   unfold binE
   rw [z8, if_pos hx1, z8, if_pos hy1]
   exact h
  ·cases hb
 rw [z8] at h
 split at h
 ·rename_i h6
  by_cases hyb : tagOf (ev T y) = 15
  ·exfalso
   unfold eqA at h
   have := z14 h
   rw [z8, if_neg (by omega)] at this
   cases this
  refine (zdd c (zC ht x (by omega)) (zC ht y hyb) h6 x y h).mono fun r hr => .value ?_
  simp only [execOp, ho]
  simp only [Sem.run_bind] at hr ⊢
  rw [hr]; rfl
 rw [z8] at h
 split at h
 ·rename_i h5
  obtain ⟨h1, rfl, rfl, rfl⟩ := z0N h
  by_cases hyb : tagOf (ev T y) = 15
  ·exfalso
   unfold binU at h1
   simp only at h1
   rw [z8, if_neg (by omega), z8, if_neg (by omega)] at h1
   exact h1 rfl
  have hy := zC ht y hyb
  obtain ⟨p, _, _, hxv⟩ := (zC ht x (by omega)).z3U h5
  obtain ⟨r, hr1, hr2⟩ := zaY (P := P) (w := w) op t (zC ht x (by omega)) h5 hy h1
  refine .pure c hr1 (.value ?_)
  have hgd : (eqGuard op t x y (evT tmps x) (evT tmps y)).run P w = .ok () w := by
   rw [hxv]
   unfold eqGuard
   cases op <;> simp
  simp only [execOp, ho]
  simp only [Sem.run_bind, hgd, hr2, Result.andThen_ok, Sem.run_pure]
 rw [zf] at h
 split at h
 ·obtain ⟨hx, hy⟩ := z3w h
  obtain ⟨zx, zy, e1, e2, hc⟩ := z2G (P := P) c (zC ht x hx) (zC ht y hy) (t := t) h
  refine hc.mono fun r hr => .value ?_
  have hgd : (eqGuard op t x y (evT tmps x) (evT tmps y)).run P w = .ok () w := by
   rw [e1]
   unfold eqGuard
   cases op <;> simp
  simp only [execOp, ho]
  simp only [Sem.run_bind, hgd, hr, Result.andThen_ok, Sem.run_pure]
 rw [zf] at h
 split at h
 ·rename_i hs
  obtain ⟨h1, rfl, rfl, rfl⟩ := z0N h
  have hs1 : tagOf (ev T x) = 7 := by
   rw [z8] at hs
   split at hs
   ·assumption
   ·cases hs
  have hs2 : tagOf (ev T y) = 7 := by
   rw [z8, if_pos hs1] at hs
   exact Nat.eq_of_beq_eq_true hs
  obtain ⟨a, b, r, e1, e2, hr1, hr2⟩ := z7d (P := P) (w := w) (t := t) (zC ht x (by omega)) (zC ht y (by omega)) h1
  refine .pure c hr1 (.value ?_)
  have hgd : (eqGuard op t x y (evT tmps x) (evT tmps y)).run P w = .ok () w := by
   rw [e1]
   unfold eqGuard
   cases op <;> simp
  simp only [execOp, ho]
  simp only [Sem.run_bind, hgd, hr2, Result.andThen_ok, Sem.run_pure]
 ·exact fin h
theorem zej (c : Ctx base H n ρ L w) (ht : TR ρ L nt T tmps) {op : UnOp} {t : TypeId} {x : Operand} (ho : o.op = .unOp op t x) (h : opE P call T H n o.op = .ok v H' n') :
  CalmD ρ L H n w v H' n' (OpDone P tmps o w cfr ccs) := by
 rw [ho] at h
 simp only [z01, opX] at h
 rw [zf] at h
 split at h
 ·unfold negP at h
  split at h
  ·have hx15 := (z3w h).2
   obtain ⟨zx, zy, e1, e2, hc⟩ := z2G (P := P) (t := t) c (.int 0 (by omega)) (zC ht x hx15) h
   refine hc.mono fun r hr => .value ?_
   simp only [binOp, Op.intArith, Sem.run_bind, Sem.run_pure, Result.andThen_ok] at hr
   injection e1 with _ e1
   have e0 : zx = 0 := by rw [← e1]; rfl
   rw [e2] at hr
   simp only [execOp, ho, Op.unary, e2, Op.intArith, Sem.run_bind, Sem.run_pure, Result.andThen_ok]
   have es : sInt 0 - zy = -zy := by show (0 : Int) - zy = _; omega
   simp at hr
   rw [es] at hr
   rw [← hr, Int.zero_sub]
  ·cases h
 obtain ⟨h1, rfl, rfl, rfl⟩ := z0N h
 unfold unE at h1 ⊢
 cases op <;> simp only at h1 ⊢ <;> try (with_reducible exact absurd z1z h1)
 case neg =>
  rw [z8] at h1 ⊢
  by_cases hx : tagOf (ev T x) = 1
  ·rw [if_pos hx]
   obtain ⟨a, ha, _, hpa, hv⟩ := (zC ht x (by omega)).z0i hx
   rw [hpa]
   refine .pure c (.int _ (z2A _)) (.value ?_)
   have : uInt (0 - sInt a) = Nat.mod (Nat.sub 18446744073709551616 a) 18446744073709551616 := by
    show _ = (18446744073709551616 - a) % 18446744073709551616
    unfold uInt sInt; split <;> omega
   simp only [execOp, ho, Op.unary, hv, Op.intArith, Sem.run_bind, Sem.run_pure, Result.andThen_ok, z1f, this]
  ·rw [if_neg hx] at h1; exact absurd rfl h1
 case not =>
  rw [z8] at h1 ⊢
  by_cases hx : ev T x = 18
  ·rw [if_pos hx]
   have hv := zC ht x (by rw [hx]; decide)
   rw [hx] at hv
   exact .pure c (.bool false) (.value (by simp [execOp, ho, Op.unary, hv.z3F]))
  ·rw [if_neg hx, z8] at h1 ⊢
   by_cases hx : ev T x = 2
   ·rw [if_pos hx]
    have hv := zC ht x (by rw [hx]; decide)
    rw [hx] at hv
    exact .pure c (.bool true) (.value (by simp [execOp, ho, Op.unary, hv.z2O]))
   ·rw [if_neg hx] at h1; exact absurd rfl h1
theorem z7e (c : Ctx base H n ρ L w) (ht : TR ρ L nt T tmps) {x : Operand} {i : Nat} (ho : o.op = .extract x i) (h : opE P call T H n o.op = .ok v H' n') :
  CalmD ρ L H n w v H' n' (OpDone P tmps o w cfr ccs) := by
 rw [ho] at h
 simp only [z01, opX] at h
 rw [z8] at h
 split at h
 ·rename_i h6
  obtain ⟨id, kd, m, ch, vs, hw, hp, hL, hk, hsz, hvs⟩ := (zC ht x (by omega)).zdT h6
  split at h
  ·rename_i m' c' hget
   have := c.agree.2 _ _ hget
   rw [hp, hL] at this
   injection this with this; injection this with e1 e2 e3
   subst e1; subst e2; subst e3
   rw [zJ] at h
   split at h
   ·rename_i hi
    obtain ⟨h1, rfl, rfl, rfl⟩ := z0N h
    rcases hk with ⟨hk, _⟩ | ⟨_, hv⟩
    ·cases hk
    ·have hi' : i < vs.size := by rw [hsz]; exact hi
     exact .pure c (hvs i hi') (.value (by simp [execOp, ho, Instr.extract, hv, hi']))
   ·cases h
  ·cases h
 ·cases h
theorem zdM (c : Ctx base H n ρ L w) (ht : TR ρ L nt T tmps) {a : Operand} (ho : o.op = .nilCheck a) (h : opE P call T H n o.op = .ok v H' n') :
  CalmD ρ L H n w v H' n' (OpDone P tmps o w cfr ccs) := by
 rw [ho] at h
 simp only [z01, opX] at h
 rw [z8] at h
 split at h
 ·rename_i h3
  rw [z8] at h
  split at h
  ·cases h
  ·rename_i hnz
   obtain ⟨h1, rfl, rfl, rfl⟩ := z0N h
   rcases (zC ht a (by omega)).z1j h3 with ⟨h4, _⟩ | ⟨b, off, rb, d, sz, hb, ho', hw, hv⟩
   ·rw [h4] at hnz; exact absurd rfl hnz
   ·refine .pure c (zC ht a h1) (.value ?_)
    simp [execOp, ho, hv]
 ·cases h
theorem zcj (c : Ctx base H n ρ L w) (ht : TR ρ L nt T tmps) {a : Operand} {t : TypeId} (ho : o.op = .load t a) (h : opE P call T H n o.op = .ok v H' n') :
  CalmD ρ L H n w v H' n' (OpDone P tmps o w cfr ccs) := by
 rw [ho] at h
 simp only [z01, opX] at h
 rw [zf] at h
 split at h
 ·rename_i hp
  rw [z8] at h
  split at h
  ·rename_i h3
   rw [z8] at h
   split at h
   ·cases h
   ·rename_i hnz
    obtain ⟨h1, rfl, rfl, rfl⟩ := z0N h
    rcases (zC ht a (by omega)).z1j h3 with ⟨h4, _⟩ | ⟨b, off, rb, d, sz, hb, ho', hw, hv⟩
    ·rw [h4] at hnz; exact absurd rfl hnz
    ·obtain ⟨_, p2, p3⟩ := z2p b off ho'
     rw [hw, p2, p3, Nat.pred_succ] at h1 ⊢
     obtain ⟨u, hc, hu⟩ := z7L c hb h1
     refine .pure c hu (.value ?_)
     simp [execOp, ho, Instr.loadAt, hv, Instr.sureAddr, loadVar, run_isAgg_plain hp, hc]
  ·cases h
 ·by_cases hnb : tagOf (ev T a) = 15
  ·exfalso
   unfold loadA at h
   have := z14 h
   rw [z8, if_neg (by omega)] at this
   cases this
  refine (z6W c (zC ht a hnb) h).mono fun r hr => .value ?_
  simp [execOp, ho, hr]
theorem zaC (c : Ctx base H n ρ L w) (ht : TR ρ L nt T tmps) {t : TypeId} {ps : Array (Nat × Operand)} (ho : o.op = .build t ps) (h : opE P call T H n o.op = .ok v H' n') :
  CalmD ρ L H n w v H' n' (OpDone P tmps o w cfr ccs) := by
 rw [ho] at h
 simp only [z01, opX] at h
 refine (z9z c ht h).mono fun r hr => .value ?_
 simp only [execOp, ho, Sem.run_bind]
 rw [hr]; rfl
theorem zaD (c : Ctx base H n ρ L w) (ht : TR ρ L nt T tmps) {t : TypeId} {x : Operand} {i : Nat} (ho : o.op = .field t x i) (h : opE P call T H n o.op = .ok v H' n') :
  CalmD ρ L H n w v H' n' (OpDone P tmps o w cfr ccs) := by
 rw [ho] at h
 simp only [z01, opX] at h
 by_cases hnb : tagOf (ev T x) = 15
 ·exfalso
  unfold fieldA at h
  rw [z8, if_neg (by omega)] at h
  cases h
 refine (z9x c (zC ht x hnb) h).mono fun r hr => .value ?_
 simp [execOp, ho, hr]
theorem zaE (c : Ctx base H n ρ L w) (ht : TR ρ L nt T tmps) {t : TypeId} {x i : Operand} (ho : o.op = .index t x i) (h : opE P call T H n o.op = .ok v H' n') :
  CalmD ρ L H n w v H' n' (OpDone P tmps o w cfr ccs) := by
 rw [ho] at h
 simp only [z01, opX] at h
 by_cases hnb : tagOf (ev T x) = 15
 ·exfalso
  unfold indexA at h
  rw [z8, if_neg (by omega)] at h
  cases h
 by_cases hib : tagOf (ev T i) = 15
 ·exfalso
  unfold indexA at h
  have h := z14 h
  split at h
  ·split at h
   ·have h := z14 h
    rw [z8, if_neg (by omega)] at h
    cases h
   ·cases h
  ·cases h
 refine (z9y c (zC ht x hnb) (zC ht i hib) h).mono fun r hr => .value ?_
 simp [execOp, ho, hr]
theorem z5z {kt : TypeId} {x : Nat} {k : Nat → OR} (hb : tagOf x = 15) (h : keyE P kt H x k = .ok v H' n') : False := by
 unfold keyE at h
 rw [z8, if_neg (by omega)] at h
 cases h
theorem z6b {t : TypeId} {k : TypeId → TypeId → OR} (h : tmap P t k = .ok v H' n') : ∃ kt et, k kt et = .ok v H' n' := by
 obtain ⟨kt, et, _, _, h⟩ := z3I h (by simp)
 exact ⟨kt, et, h⟩
theorem z8E (c : Ctx base H n ρ L w) (ht : TR ρ L nt T tmps) {t : TypeId} {x i : Operand} {ok : Bool} (ho : o.op = .lookup t x i ok) (h : opE P call T H n o.op = .ok v H' n') :
  CalmD ρ L H n w v H' n' (OpDone P tmps o w cfr ccs) := by
 rw [ho] at h
 simp only [z01, opX] at h
 have nb : tagOf (ev T x) ≠ 15 ∧ tagOf (ev T i) ≠ 15 := by
  unfold lookupE at h
  obtain ⟨kt, et, h⟩ := z6b h
  refine ⟨fun hb => ?_, fun hb => z5z hb h⟩
  unfold keyE at h
  have h := z14 h
  split at h
  ·have h := z14 (z14 h)
   dsimp only at h
   rw [z8] at h
   split at h
   ·rename_i h39; rw [h39] at hb; cases hb
   ·unfold isMapW at h
    rw [zf] at h
    split at h
    ·rename_i hm
     rw [z8] at hm
     split at hm
     ·omega
     ·cases hm
    ·cases h
  ·cases h
 refine (z8u c (zC ht x nb.1) (zC ht i nb.2) h).mono fun r hr => .value ?_
 simp [execOp, ho, hr]
theorem z8F (c : Ctx base H n ρ L w) (ht : TR ρ L nt T tmps) {t : TypeId} {x i y : Operand} (ho : o.op = .mapUpdate t x i y) (h : opE P call T H n o.op = .ok v H' n') :
  After base H n ρ L w v H' n' (OpDone P tmps o w cfr ccs) := by
 rw [ho] at h
 simp only [z01, opX] at h
 have nb : tagOf (ev T x) ≠ 15 ∧ tagOf (ev T i) ≠ 15 ∧ tagOf (ev T y) ≠ 15 := by
  unfold mapUpE at h
  obtain ⟨kt, et, h⟩ := z6b h
  refine ⟨fun hb => ?_, fun hb => z5z hb h, fun hb => ?_⟩
  all_goals
   unfold keyE at h
   have h := z14 h
   split at h
   ·have h := z14 (z14 h)
    dsimp only at h
    rw [zf] at h
    split at h
    ·rename_i hst
     have hs3 := ((z0g _).1 hst).2.2.1
     have h := h
     rw [zf] at h
     split at h
     ·rename_i hm
      unfold isMapW at hm
      rw [z8] at hm
      split at hm
      ·first | omega | exact hs3 hb
      ·cases hm
     ·cases h
    ·cases h
   ·cases h
 refine (z8w c (zC ht x nb.1) (zC ht i nb.2.1) (zC ht y nb.2.2) h).mono fun r W hr => .skip ?_ hr.1
 simp [execOp, ho, hr.2]
theorem zbc (c : Ctx base H n ρ L w) (ht : TR ρ L nt T tmps) {t : TypeId} {r : Option Operand} (ho : o.op = .makeMap t r) (h : opE P call T H n o.op = .ok v H' n') :
  After base H n ρ L w v H' n' (OpDone P tmps o w cfr ccs) := by
 rw [ho] at h
 simp only [z01, opX] at h
 obtain ⟨p, hp, h⟩ := z4z h (by simp) ht
 have hr : r.map (evT tmps) = none ∨ ∃ k z, r.map (evT tmps) = some (.int k z) := by
  rcases hp with ⟨rfl, _⟩ | ⟨x, rfl, _, hv⟩
  ·exact .inl rfl
  ·exact .inr ⟨_, _, by simp [hv]; exact ⟨rfl, rfl⟩⟩
 refine (z6M c hr h).mono fun x W hx => .value ?_
 simp [execOp, ho, hx]
theorem z5d (c : Ctx base H n ρ L w) (ht : TR ρ L nt T tmps) {t : TypeId} {x : Operand} {i : Nat} (ho : o.op = .fieldAddr t x i) (h : opE P call T H n o.op = .ok v H' n') :
  CalmD ρ L H n w v H' n' (OpDone P tmps o w cfr ccs) := by
 rw [ho] at h
 simp only [z01, opX] at h
 by_cases hnb : tagOf (ev T x) = 15
 ·exfalso
  unfold fieldAddrA at h
  split at h
  ·split at h
   ·have h := z14 h
    rw [z8] at h
    split at h
    ·cases h
    ·unfold ptrAt at h
     rw [z8, if_neg (by omega)] at h
     cases h
   ·cases h
  ·cases h
 refine (z5S c (zC ht x hnb) h).mono fun r hr => .value ?_
 simp [execOp, ho, hr]
theorem z7f (c : Ctx base H n ρ L w) (ht : TR ρ L nt T tmps) {x : Operand} {s t : TypeId} (ho : o.op = .convert s t x) (h : opE P call T H n o.op = .ok v H' n') :
  CalmD ρ L H n w v H' n' (OpDone P tmps o w cfr ccs) := by
 rw [ho] at h
 simp only [z01, opX] at h
 have ty : ∀ {t : TypeId} {k : IntKind}, isIntT P t k = true → P.underlying t = some (.int k) := by
  intro t k h
  unfold isIntT at h
  split at h
  ·rename_i k' hu
   rw [hu, of_decide_eq_true h]
  ·cases h
 rw [z8] at h
 split at h
 ·rename_i h1
  rw [zf] at h
  split at h
  ·rename_i h2
   rw [zf] at h
   split at h
   ·rename_i h3
    injection h with e1 e2 e3
    subst e1; subst e2; subst e3
    obtain ⟨p, hp, _, hpp, hv⟩ := (zC ht x (by omega)).z0i h1
    have u1 := ty h2
    have u2 := ty h3
    have hw : IntKind.u64.wrap (sInt p) = (p : Int) := by
     simp only [IntKind.wrap, IntKind.bits, IntKind.signed, sInt]
     simp
     split <;> omega
    rw [hpp]
    refine .pure c (.u64 p hp) (.value ?_)
    simp [execOp, ho, convert, run_underlying u1, run_underlying u2, hv, Conv.intToInt, hw]
   ·cases h
  ·cases h
 ·rw [z8] at h
  split at h
  ·rename_i h1
   rw [zf] at h
   split at h
   ·rename_i h2
    have u1 := ty h2
    obtain ⟨p, hp, hpp, hv⟩ := (zC ht x (by omega)).z3U h1
    rw [zf] at h
    split at h
    ·rename_i h3
     injection h with e1 e2 e3
     subst e1; subst e2; subst e3
     have u2 := ty h3
     rw [hpp]
     refine .pure c (.int p hp) (.value ?_)
     have hw : IntKind.i64.wrap (p : Int) = sInt p := by
      rw [z1f]
      congr 1
      unfold uInt; omega
     simp [execOp, ho, convert, run_underlying u1, run_underlying u2, hv, Conv.intToInt, hw]
    ·rw [zf] at h
     split at h
     ·rename_i h3
      injection h with e1 e2 e3
      subst e1; subst e2; subst e3
      have u2 := ty h3
      refine .pure c (zC ht x (by omega)) (.value ?_)
      have hw : IntKind.u64.wrap (p : Int) = (p : Int) := by
       simp only [IntKind.wrap, IntKind.bits, IntKind.signed]
       simp
       omega
      simp [execOp, ho, convert, run_underlying u1, run_underlying u2, hv, Conv.intToInt, hw]
     ·cases h
   ·cases h
  ·cases h
theorem z6c (c : Ctx base H n ρ L w) (ht : TR ρ L nt T tmps) {f : FuncId} {first cap : Array Operand} (ho : o.op = .makeFunc (.func f) first cap) (h : opE P call T H n o.op = .ok v H' n') :
  CalmD ρ L H n w v H' n' (OpDone P tmps o w cfr ccs) := by
 rw [ho] at h
 simp only [z01, opX] at h
 rw [z8] at h
 split at h
 ·rename_i hf
  have hf0 : first = #[] := Array.eq_empty_of_size_eq_zero hf
  subst hf0
  rw [z8] at h
  split at h
  ·rename_i hcp
   have hc0 : cap = #[] := Array.eq_empty_of_size_eq_zero hcp
   subst hc0
   injection h with h1 h2 h3
   subst h1; subst h2; subst h3
   exact .pure c (.fn f) (.value (by simp [execOp, ho, Instr.makeFunc]))
  ·rw [zf] at h
   split at h
   ·rename_i hnb
    rw [zf] at h
    split at h
    ·rename_i hsl
     obtain ⟨hn, e1, e2, e3⟩ := z2R h
     have hs := z1N ht cap.toList hnb
     refine ⟨.func (.func f) #[] (cap.map (evT tmps)), .inr ⟨.box 2 cap.size (listW (f :: evs T cap.toList)), trivial, e2, e3, hn, e1, fun ρ' L' id e hL => ?_⟩, .value (by simp [execOp, ho, Instr.makeFunc])⟩
     refine .clo id _ _ f _ hL ?_ (by simp) fun i hi => ?_
     ·rw [z0X _ hsl]; rfl
     ·rw [z0X _ hsl]
      have hi' : i < (cap.toList.map (evT tmps)).length := by simpa using hi
      have := (hs.get i hi').mono0 e
      simpa using this
    ·cases h
   ·cases h
 ·cases h
theorem z3l (c : Ctx base H n ρ L w) (ht : TR ρ L nt T tmps) {t : TypeId} {x : Operand} (ho : o.op = .makeInterface t x) (h : opE P call T H n o.op = .ok v H' n') :
  CalmD ρ L H n w v H' n' (OpDone P tmps o w cfr ccs) := by
 rw [ho] at h
 simp only [z01, opX, mkIface] at h
 rw [zf] at h
 split at h
 ·rename_i hni
  rw [z8] at h
  split at h
  ·cases h
  ·rename_i h15
   rw [zJ] at h
   split at h
   ·rename_i hlt
    obtain ⟨hn, e1, e2, e3⟩ := z2R h
    have hx := zC ht x h15
    have hrun : (Instr.makeInterface t (evT tmps x)).run P w = .ok (.iface t (evT tmps x)) w := by
     unfold notIface at hni
     unfold Instr.makeInterface
     cases hu : P.underlying t with
     | none => rw [hu] at hni; cases hni
     | some d =>
      rw [hu] at hni
      cases d <;> first | (simp [run_underlying hu]; done) | cases hni
    exact ⟨.iface t (evT tmps x), .inr ⟨.box 3 t (ev T x), trivial, e2, e3, hn, e1, fun ρ' L' id e hL => .iface id t _ _ hL (hx.mono0 e) hlt⟩, .value (by simp only [execOp, ho]; simp only [Sem.run_bind, hrun, Result.andThen_ok, Sem.run_pure])⟩
   ·cases h
 ·cases h
end
end Go.Eng
namespace Go.Eng
open Go Go.RowKit
variable [E : Env] [Pd : Pad]
theorem z0J {p : Nat} (h : p < 9223372036854775808) : sInt p = (p : Int) := by unfold sInt; rw [if_pos h]
section
variable {base : Nat} {H H' : Trie} {n n' nt T v : Nat} {ρ : Rho} {L : Look} {w : World} {P : Program} {tmps : Array Value} {o : Oper} {call : Nat → List Nat → Trie → Nat → OR} {cfr : Frame} {ccs : List Frame}
theorem z2M {x : Nat} {k : Nat → OR} {r : OR} (h : isI x k = r) (hr : ∀ q, r ≠ .bad q) : tagOf x = 1 ∧ k (payOf x) = r := by
 unfold isI at h
 rw [z8] at h
 split at h
 ·exact ⟨by assumption, h⟩
 ·exact absurd h.symm (hr _)
theorem run_sizeOf {t : TypeId} {i : TypeInfo} (hi : P.info? t = some i) : (sizeOf t).run P w = .ok i.size w := by simp [sizeOf, typeInfo, hi]
theorem zaF {t : TypeId} {i : TypeInfo} (hi : P.info? t = some i) : tsz P t = i.size := by simp [tsz, hi]
theorem z5e (c : Ctx base H n ρ L w) (ht : TR ρ L nt T tmps) {t : TypeId} {x i : Operand} (ho : o.op = .indexAddr t x i) (h : opE P call T H n o.op = .ok v H' n'):
  CalmD ρ L H n w v H' n' (OpDone P tmps o w cfr ccs) := by
 rw [ho] at h
 simp only [z01, opX] at h
 rw [z8] at h
 split at h
 ·rename_i h4
  obtain ⟨e, hu, ⟨j, hj⟩, h⟩ := z0M h rfl (by simp)
  obtain ⟨hi1, h⟩ := z2M h (by simp)
  rw [zJ] at h
  split at h
  ·rename_i hlt
   rw [z8] at h
   split at h
   ·cases h
   ·rename_i hnz
    rw [zJ] at h
    split at h
    ·rename_i hsm
     injection h with h1 h2 h3
     subst h1; subst h2; subst h3
     obtain ⟨p, hp, hw, hpp, hv⟩ := (zC ht i (by omega)).z0i hi1
     rw [hpp] at hlt hsm ⊢
     rcases (zC ht x (by omega)).z0E h4 with ⟨h5, _⟩ | ⟨b, es, off, m, k, rb, d, sz, cp, a, hb, he, hof, hm, hk, hmc, hbig, hk1, hcp, hwx, hvx⟩
     ·rw [h5] at hnz; exact absurd rfl hnz
     ·obtain ⟨_, q1, q2, q3, q4, q5⟩ := z1S b es off m k he hof hm hk
      rw [hwx, q3] at hsm ⊢
      rw [hwx, q1] at hlt
      rw [q5, Nat.pred_succ]
      have hc0 : cp ≠ 0 := by omega
      obtain ⟨ha, _⟩ := hcp.resolve_left hc0
      rw [zaF hj] at hsm ⊢
      have hsI : sInt p = (p : Int) := z0J (by omega)
      refine .pure (x := .pointer (some ⟨rb, d + (off + p * j.size), none⟩)) c (.ptr b _ rb d sz hb hsm) (.value ?_)
      have key : (Instr.indexAt t (evT tmps x) (evT tmps i)).run P w = .ok (.pointer (some ⟨rb, d + (off + p * j.size), none⟩)) w := by
       rw [hv, hvx, hsI, ha]
       have had : (⟨rb, d + off, none⟩ : Addr).add (p * j.size) = ⟨rb, d + (off + p * j.size), none⟩ := by rw [addr_add]; simp [Nat.add_assoc]
       simp [Instr.indexAt, asIntOf, run_underlying hu, hlt, run_sizeOf hj, had]
      simp [execOp, ho, key]
    ·cases h
  ·cases h
 ·have nb : tagOf (ev T x) ≠ 15 ∧ tagOf (ev T i) ≠ 15 := by
   unfold indexAddrA at h
   split at h
   ·have h := z14 h
    rw [z8] at h
    split at h
    ·have h := z14 h
     unfold ptrAt at h
     rw [z8] at h
     split at h
     ·exact ⟨by omega, by omega⟩
     ·cases h
    ·cases h
   ·cases h
  refine (z5T c (zC ht x nb.1) (zC ht i nb.2) h).mono fun r hr => .value ?_
  simp [execOp, ho, hr]
theorem z3K {q : Option Operand} {d : Nat} {k : Nat → OR} {r : OR} (h : optI q T d k = r) (hr : ∀ q, r ≠ .bad q) (ht : TR ρ L nt T tmps) :
  ∃ p, ((q = none ∧ p = d) ∨ ∃ x, q = some x ∧ p < 18446744073709551616 ∧ evT tmps x = .int .i64 (sInt p)) ∧ k p = r := by
 cases q with
 | none => exact ⟨d, .inl ⟨rfl, rfl⟩, h⟩
 | some x =>
  obtain ⟨h1, h2⟩ := z2M h hr
  obtain ⟨p, hp, _, hpp, hv⟩ := (zC ht x (by omega)).z0i h1
  rw [hpp] at h2
  exact ⟨p, .inr ⟨x, rfl, hp, hv⟩, h2⟩
theorem z3y {lo hi mx : Option Value} {len cap l h m : Nat} (hm : (mx = none ∧ m = cap) ∨ (mx = some (.int .i64 (m : Int)) ∧ hi ≠ none)) (hh : (hi = none ∧ h = len) ∨ hi = some (.int .i64 (h : Int)))
  (hl : (lo = none ∧ l = 0) ∨ lo = some (.int .i64 (l : Int))) (h1 : m ≤ cap) (h2 : h ≤ m) (h3 : l ≤ h) : (Instr.sliceBounds true len cap lo hi mx).run P w = .ok (l, h, m) w := by
 have h4 : h ≤ cap := Nat.le_trans h2 h1
 rcases hm with ⟨rfl, rfl⟩ | ⟨rfl, hne⟩ <;> rcases hh with ⟨rfl, rfl⟩ | rfl <;> rcases hl with ⟨rfl, rfl⟩ | rfl <;>
  first
  | exact absurd rfl hne
  | simp [Instr.sliceBounds, Instr.sliceBound, asIntOf, h1, h2, h3, h4]
theorem zaG (c : Ctx base H n ρ L w) (ht : TR ρ L nt T tmps) {t : TypeId} {x : Operand} {lo hi mx : Option Operand} (ho : o.op = .slice t x lo hi mx) (h : opE P call T H n o.op = .ok v H' n'):
  CalmD ρ L H n w v H' n' (OpDone P tmps o w cfr ccs) := by
 rw [ho] at h
 simp only [z01, opX] at h
 rw [z8] at h
 split at h
 ·rename_i h3
  refine (z7N c ht (zC ht x (by omega)) h).mono fun r hr => .value ?_
  simp [execOp, ho, hr]
 simp only [sliceE] at h
 rw [z8] at h
 split at h
 ·rename_i h14
  simp only [sliceZ] at h
  rw [zf] at h
  split at h
  ·rename_i hmx
   obtain ⟨e, hu, ⟨j, hj⟩, h⟩ := z0M h rfl (by simp)
   obtain ⟨m, hm, h⟩ := z3K h (by simp) ht
   obtain ⟨hh, hhh, h⟩ := z3K h (by simp) ht
   obtain ⟨l, hl, h⟩ := z3K h (by simp) ht
   rw [z8] at h
   split at h
   ·rename_i hm0
    rw [z8] at h
    split at h
    ·rename_i hh0
     rw [z8] at h
     split at h
     ·rename_i hl0
      have hfin := h
      subst hm0; subst hh0; subst hl0
      injection hfin with h1 h2 h3
      subst h1; subst h2; subst h3
      obtain ⟨a, hv⟩ := (zC ht x (by rw [h14]; decide)).z5K (by rw [h14]; rfl)
      have z0 : sInt 0 = (0 : Int) := rfl
      have b1 : (Instr.sliceBounds true 0 0 (lo.map (evT tmps)) (hi.map (evT tmps)) (mx.map (evT tmps))).run P w = .ok (0, 0, 0) w := by
       refine z3y ?_ ?_ ?_ (by omega) (by omega) (by omega)
       ·rcases hm with ⟨rfl, _⟩ | ⟨y, rfl, _, hy⟩
        ·exact .inl ⟨rfl, rfl⟩
        ·refine .inr ⟨by simp [hy, z0], ?_⟩
         cases hi with
         | none => cases hmx
         | some _ => simp
       ·rcases hhh with ⟨rfl, _⟩ | ⟨y, rfl, _, hy⟩
        ·exact .inl ⟨rfl, rfl⟩
        ·exact .inr (by simp [hy, z0])
       ·rcases hl with ⟨rfl, _⟩ | ⟨y, rfl, _, hy⟩
        ·exact .inl ⟨rfl, rfl⟩
        ·exact .inr (by simp [hy, z0])
      refine .pure c (.sl0 a) (.value ?_)
      simp [execOp, ho, Instr.sliceAt, Instr.slice, run_underlying hu, hv, b1, run_sizeOf hj]
     ·cases h
    ·cases h
   ·cases h
  ·cases h
 simp only [sliceY] at h
 rw [zf] at h
 by_cases hg : sel (Nat.beq (tagOf (ev T x)) 4) (mxOk mx hi) false = true
 ·rw [if_pos hg] at h
  rw [z8] at hg
  by_cases h4 : tagOf (ev T x) = 4
  ·rw [if_pos h4] at hg
   obtain ⟨e, hu, ⟨j, hj⟩, h⟩ := z0M h rfl (by simp)
   rw [zaF hj] at h
   have hx := zC ht x (by omega)
   obtain ⟨m, hm, h⟩ := z3K h (by simp) ht
   obtain ⟨hh, hhh, h⟩ := z3K h (by simp) ht
   obtain ⟨l, hl, h⟩ := z3K h (by simp) ht
   rw [z0k] at h
   split at h
   ·rename_i hmr
    rw [z0k] at h
    split at h
    ·rename_i hhm
     rw [z0k] at h
     split at h
     ·rename_i hlh
      have model : ∀ (a : Option Addr) (len cap mr : Nat), evT tmps x = .slice a len cap → sLen (payOf (ev T x)) = len → (mx = none → mr = cap) → (∀ y, mx = some y → mr = m) → m ≤ mr → mr ≤ cap → cap < 9223372036854775808 →
        (execOp (evT tmps) o).run P w = .ok (.value (.slice (if mr = l then a else a.map (·.add (l * j.size))) (hh - l) (mr - l))) w := by
       intro a len cap mr hv hlen hmn hms hle hcap hbig
       have b1 : (Instr.sliceBounds true len cap (lo.map (evT tmps)) (hi.map (evT tmps)) (mx.map (evT tmps))).run P w = .ok (l, hh, mr) w := by
        refine z3y ?_ ?_ ?_ hcap (by omega) hlh
        ·rcases hm with ⟨rfl, _⟩ | ⟨y, rfl, _, hy⟩
         ·exact .inl ⟨rfl, hmn rfl⟩
         ·have := hms y rfl
          subst this
          refine .inr ⟨by simp [hy, z0J (show mr < 9223372036854775808 by omega)], ?_⟩
          cases hi with
          | none => cases hg
          | some _ => simp
        ·rcases hhh with ⟨rfl, rfl⟩ | ⟨y, rfl, _, hy⟩
         ·exact .inl ⟨rfl, hlen⟩
         ·exact .inr (by simp [hy, z0J (show hh < 9223372036854775808 by omega)])
        ·rcases hl with ⟨rfl, rfl⟩ | ⟨y, rfl, _, hy⟩
         ·exact .inl ⟨rfl, rfl⟩
         ·exact .inr (by simp [hy, z0J (show l < 9223372036854775808 by omega)])
       simp [execOp, ho, Instr.sliceAt, Instr.slice, run_underlying hu, hv, b1, run_sizeOf hj]
      rcases hx.z0E h4 with ⟨h5, h6⟩ | ⟨b, es, off, len, k, rb, d, sz, cp, a, hb, he, hof, hm', hk, hmc, hbig, hk1, hcp, hwx, hvx⟩
      ·obtain ⟨_, q1, q2, q3, q4, q5⟩ := z6E
       rw [h5, q5, z8, if_pos rfl] at h
       injection h with h1 h2 h3
       subst h1; subst h2; subst h3
       have hroom : m = 0 := by rw [h5, q2, q1] at hmr; simpa [z8] using hmr
       have hh0 : hh = 0 := by omega
       have hl0 : l = 0 := by omega
       have := model none 0 0 0 h6 (by rw [h5]; exact q1) (fun _ => rfl) (fun _ _ => hroom.symm) (by omega) (by omega) (by omega)
       refine .pure c .sliceNil (.value ?_)
       rw [this, hh0, hl0]; simp
      ·obtain ⟨_, q1, q2, q3, q4, q5⟩ := z1S b es off len k he hof hm' hk
       have q5' : sBlk (payOf (ev T x)) ≠ 0 := by rw [hwx, q5]; omega
       rw [z8, if_neg q5'] at h
       rw [zf] at h
       split at h
       ·rename_i hsel
        rw [z8] at hsel
        split at hsel
        ·rename_i hes
         ·rw [zJ] at hsel
          have hmsm0 : m.succ < small := by
           split at hsel
           ·assumption
           ·cases hsel
          rw [if_pos hmsm0] at hsel
          have hmsm : m + 1 < 1048576 := hmsm0
          have hsm := (z08 _ _).1 hsel
          injection h with h1 h2 h3
          subst h2; subst h3
          rw [hwx, q4] at hes
          rw [hwx, q3] at hsm
          have hroomc : m ≤ cp := by
           rw [hwx, q2, q1, z8] at hmr
           split at hmr
           ·omega
           ·rcases hk1 with h0 | h0
            ·contradiction
            ·rw [h0, Nat.pred_succ] at hmr; exact hmr
          have hroomb : m < 1048576 := by
           rw [hwx, q2, q1, z8] at hmr
           split at hmr
           ·omega
           ·have : k.pred ≤ k := Nat.pred_le k
            omega
          ·-- the real capacity behind
           cases mx with
           | none =>
            have hms := model (some a) len cp cp hvx (by rw [hwx]; exact q1) (fun _ => rfl) (fun y hy => by cases hy) hroomc (Nat.le_refl _) hbig
            refine .pure (x := .slice (if cp = l then some a else (some a).map (·.add (l * j.size))) (hh - l) (cp - l)) c ?_ (.value hms)
            rw [← h1, hwx, q3, q4, q5, q2]
            rw [show Nat.pred (b + 1) = b from rfl]
            have ha2 : ∃ a', (if cp = l then some a else (some a).map (·.add (l * j.size))) = some a' ∧ (cp - l = 0 ∨ (a' = ⟨rb, d + (off + l * j.size), none⟩ ∧ (off + l * j.size) + (cp - l) * es ≤ sz)) := by
             by_cases hcl : cp = l
             ·exact ⟨a, by rw [if_pos hcl], .inl (by omega)⟩
             ·refine ⟨a.add (l * j.size), by rw [if_neg hcl]; rfl, .inr ?_⟩
              obtain ⟨r1, r2⟩ := hcp.resolve_left (by omega)
              refine ⟨by rw [r1, addr_add, Nat.add_assoc], ?_⟩
              rw [← hes, Nat.add_assoc, ← Nat.add_mul, show l + (cp - l) = cp from by omega]; exact r2
            obtain ⟨a', e1, e2⟩ := ha2
            rw [e1]
            refine .slice b es _ (hh - l) _ rb d sz (cp - l) a' hb he hsm (by omega) ?_ (by omega) (by omega) ?_ e2
            ·show sel (Nat.beq k 0) 0 (k - l) < _
             rw [z8]; split <;> omega
            ·show sel (Nat.beq k 0) 0 (k - l) = 0 ∨ sel (Nat.beq k 0) 0 (k - l) = _
             rw [z8]; split
             ·exact .inl rfl
             ·right; omega
           | some y =>
            have hms := model (some a) len cp m hvx (by rw [hwx]; exact q1) (fun hh => by cases hh) (fun _ _ => rfl) (Nat.le_refl _) hroomc hbig
            refine .pure (x := .slice (if m = l then some a else (some a).map (·.add (l * j.size))) (hh - l) (m - l)) c ?_ (.value hms)
            rw [← h1, hwx, q3, q4, q5]
            rw [show Nat.pred (b + 1) = b from rfl]
            have ha2 : ∃ a', (if m = l then some a else (some a).map (·.add (l * j.size))) = some a' ∧ (m - l = 0 ∨ (a' = ⟨rb, d + (off + l * j.size), none⟩ ∧ (off + l * j.size) + (m - l) * es ≤ sz)) := by
             by_cases hcl : m = l
             ·exact ⟨a, by rw [if_pos hcl], .inl (by omega)⟩
             ·refine ⟨a.add (l * j.size), by rw [if_neg hcl]; rfl, .inr ?_⟩
              obtain ⟨r1, r2⟩ := hcp.resolve_left (by omega)
              refine ⟨by rw [r1, addr_add, Nat.add_assoc], ?_⟩
              rw [← hes, Nat.add_assoc, ← Nat.add_mul, show l + (m - l) = m from by omega]
              have : m * es ≤ cp * es := Nat.mul_le_mul_right _ hroomc
              omega
            obtain ⟨a', e1, e2⟩ := ha2
            rw [e1]
            exact .slice b es _ (hh - l) (m - l + 1) rb d sz (m - l) a' hb he hsm (by omega) (by omega) (by omega) (by omega) (.inr rfl) e2
        ·cases hsel
       ·cases h
     ·cases h
    ·cases h
   ·cases h
  ·rw [if_neg h4] at hg; cases hg
 ·rw [if_neg hg] at h; cases h
end
end Go.Eng
namespace Go.Eng
open Go Go.RowKit
variable [E : Env] [Pd : Pad]
section
variable {base : Nat} {H H' : Trie} {n n' nt T v : Nat} {ρ : Rho} {L : Look} {w : World} {P : Program} {tmps : Array Value} {o : Oper} {call : Nat → List Nat → Trie → Nat → OR} {cfr : Frame} {ccs : List Frame}
theorem z6d (c : Ctx base H n ρ L w) {b g nb cb kb sb mb n1 c1 : Nat} {k : Trie → OR} {r : OR} (hb : tget H b = some (.cells nb cb g kb sb mb)) (hg : g ≠ 0)
  (hl : live L b) (hρ : ∃ q, ρ b = some q) (h : own H n b g n1 c1 k = r) (hr : ∀ q, r ≠ .bad q) :
  ∃ H1 L1, k H1 = r ∧ Agree H1 L1 ∧ Relab L L1 b (g - 1) g n1 c1 b n n1 ∧ Loc H n ρ L ρ L1 := by
 have hb1 := c.agree.lt hb
 have hLb := c.agree.2 _ _ hb
 obtain ⟨q, hq⟩ := hρ
 unfold own at h
 rw [z8] at h
 split at h
 ·rename_i hgb
  have e : g - 1 = b := by omega
  refine ⟨_, upd L b (.cells n1 c1 g b n n1), h, c.agree.hset hb1 _, ⟨⟨_, _, _, upd_same _ _ _⟩, by rw [e]; simp [Eng.info, upd_same], fun j hj => .inl (upd_ne _ _ hj)⟩, ?_⟩
  refine ⟨fun j _ hj => ⟨upd_ne _ _ (fun hh => by subst hh; rw [hq] at hj; cases hj), hj⟩⟩
 ·rename_i hgb
  have hne : g - 1 ≠ b := by intro hh; apply hgb; show g = b + 1; omega
  have ha1 : Agree (hset H b (.cells n1 c1 g 0 0 0)) (upd L b (.cells n1 c1 g 0 0 0)) := c.agree.hset hb1 _
  unfold lead at h
  split at h
  ·rename_i nl cl gl kl sl ml hget
   have hget' := hget
   rw [show Nat.pred g = g - 1 from rfl, z1d c.agree.1 hb1, if_neg hne] at hget'
   have hLl := c.agree.2 _ _ hget'
   have hl1 := c.agree.lt hget'
   refine ⟨_, upd (upd L b (.cells n1 c1 g 0 0 0)) (g - 1) (.cells nl cl gl b n n1), h, ha1.hset hl1 _, ⟨?_, by simp [Eng.info, upd_same], fun j hj => ?_⟩, ?_⟩
   ·exact ⟨0, 0, 0, by rw [upd_ne _ _ (Ne.symm hne), upd_same]⟩
   ·by_cases hjl : j = g - 1
    ·subst hjl
     exact .inr ⟨rfl, _, _, _, _, _, _, _, _, _, hLl, upd_same _ _ _⟩
    ·exact .inl (by rw [upd_ne _ _ hjl, upd_ne _ _ hj])
   ·have hgL : grp L b = g := z0x hLb
    obtain ⟨⟨ql, hql⟩, _⟩ := c.sim.ld b q hq (by rw [hgL]; exact hg)
    rw [hgL] at hql
    refine ⟨fun j _ hj => ⟨?_, hj⟩⟩
    ·rw [upd_ne _ _ (fun hh => by subst hh; rw [hql] at hj; cases hj), upd_ne _ _ (fun hh => by subst hh; rw [hq] at hj; cases hj)]
  ·exact absurd h.symm (hr _)
theorem Relab.fresh {L1 : Look} {b l g n1 c1 K S M nb cb kb sb mb : Nat} (hR : Relab L L1 b l g n1 c1 K S M) (hL : L b = some (.cells nb cb g kb sb mb)) (hf : Fresh n ρ L) : Fresh n ρ L1 :=
 fun j hj => ⟨hR.none hL (hf j hj).1, (hf j hj).2⟩
theorem zdg (c : Ctx base H n ρ L w) {b off rb d sz xw : Nat} {x : Value} {k : Trie → OR} {r : OR} (hb : ρ b = some (rb, d, sz)) (hst : storable xw = true) (hx : VR ρ L xw x)
  (h : wr H n b off xw k = r) (hr : ∀ q, r ≠ .bad q) :
  ∃ H1 L1, k H1 = r ∧ Ctx base H1 n ρ L1 (w.setCell ⟨rb, d + off, none⟩ x) ∧ Ext ρ L ρ L1 ∧ Below base w (w.setCell ⟨rb, d + off, none⟩ x) ∧ Loc H n ρ L ρ L1 ∧
   base ≤ rb ∧ (∃ u, w.cell? ⟨rb, d + off, none⟩ = some u) ∧ w.frozen? ⟨rb, d + off, none⟩ = false := by
 unfold wr at h
 split at h
 ·rename_i nb cb g kb sb mb hget
  rw [z8] at h
  split at h
  ·exact absurd h.symm (hr _)
  ·rename_i hg
   rw [zJ] at h
   split at h
   ·rename_i hlt
    rw [zf] at h
    split at h
    ·rename_i hval
     have hL := c.agree.2 _ _ hget
     have hl := z1E c.agree hL hval
     obtain ⟨H1, L1, hk, hag, hR, hloc⟩ := z6d c hget hg hl ⟨_, hb⟩ h hr
     obtain ⟨hc1, hc2⟩ := hx.cell hst
     have hxlt := ((z0g _).1 hst).2.2.2
     obtain ⟨k, hk2, hbr⟩ := c.sim.blk b _ hb
     rw [hL] at hk2; injection hk2 with hk2; subst hk2
     obtain ⟨cs, ty, fz, q1, q2, q3, q4, q5⟩ := hbr hl
     obtain rfl := q4 hg
     obtain ⟨u, hu, _⟩ := q5 off hlt
     have hgL : grp L b = g := z0x hL
     have hbase : base ≤ rb := c.sim.rw b _ hb (by rw [hgL]; exact hg)
     have hcell : w.cell? ⟨rb, d + off, none⟩ = some u := by rw [cell_of_heap q1]; exact hu
     have hfro : w.frozen? ⟨rb, d + off, none⟩ = false := by simp [World.frozen?, q1]
     have hheap : (w.setCell ⟨rb, d + off, none⟩ x).heap[rb]? = some (.cells (cs.setIfInBounds (d + off) x) ty (0, 0)) := by
      simp only [World.setCell, Array.getElem?_modify, if_true]
      rw [q1]; simp
     have hother : ∀ y, y ≠ rb → (w.setCell ⟨rb, d + off, none⟩ x).heap[y]? = w.heap[y]? := fun y hy => by
      simp only [World.setCell, Array.getElem?_modify]
      rw [if_neg (by omega)]
     have hs' := c.sim.own (w' := w.setCell ⟨rb, d + off, none⟩ x) c.fresh hb hl hL hg hR hother (by simp) hheap (by simpa using q2) q3 (fun i hi => by
      by_cases hio : i = off
      ·subst hio
       rw [z10 _ _ _ hxlt]
       have : d + i < cs.size := (Array.getElem?_eq_some_iff.1 hu).1
       exact ⟨x, by simp [this], hx, hst⟩
      ·rw [z19 _ _ _ _ hxlt hio]
       obtain ⟨u', a1, a2, a3⟩ := q5 i hi
       exact ⟨u', by rw [Array.getElem?_setIfInBounds, if_neg (by simp; omega)]; exact a1, a2, a3⟩)
     exact ⟨H1, L1, hk, ⟨hs', hag, hR.fresh hL c.fresh⟩, hR.ext hL ρ, (Below.refl _ _).setCell hbase _, hloc, hbase, ⟨u, hcell⟩, hfro⟩
    ·exact absurd h.symm (hr _)
   ·exact absurd h.symm (hr _)
 ·exact absurd h.symm (hr _)
theorem z8G (c : Ctx base H n ρ L w) {b off m rb d sz ch : Nat} {vs : Array Value} {k : Trie → OR} {r : OR} (hb : ρ b = some (rb, d, sz)) (hc : CellsR ρ L m ch vs)
  (h : wrR H n b off m ch k = r) (hr : ∀ q, r ≠ .bad q) :
  ∃ H1 L1 cur ty, k H1 = r ∧ w.heap[rb]? = some (.cells cur ty (0, 0)) ∧ d + off + vs.toList.length ≤ cur.size ∧
   Ctx base H1 n ρ L1 (w.setRow rb (cur.toList.take (d + off) ++ vs.toList ++ cur.toList.drop (d + off + vs.toList.length)).toArray) ∧ Ext ρ L ρ L1 ∧
   Below base w (w.setRow rb (cur.toList.take (d + off) ++ vs.toList ++ cur.toList.drop (d + off + vs.toList.length)).toArray) ∧ Loc H n ρ L ρ L1 := by
 unfold wrR at h
 split at h
 ·rename_i nb cb g kb sb mb hget
  rw [z8] at h
  split at h
  ·exact absurd h.symm (hr _)
  ·rename_i hg
   rw [z0k] at h
   split at h
   ·rename_i hle
    have hle' : off + m ≤ nb := hle
    rw [zf] at h
    split at h
    ·rename_i hval
     have hL := c.agree.2 _ _ hget
     have hl := z1E c.agree hL hval
     obtain ⟨H1, L1, hk, hag, hR, hloc⟩ := z6d c hget hg hl ⟨_, hb⟩ h hr
     obtain ⟨k, hk2, hbr⟩ := c.sim.blk b _ hb
     rw [hL] at hk2; injection hk2 with hk2; subst hk2
     obtain ⟨cs, ty, fz, q1, q2, q3, q4, q5⟩ := hbr hl
     obtain rfl := q4 hg
     simp only at q2 q3 q5
     have hgL : grp L b = g := z0x hL
     have hbase : base ≤ rb := c.sim.rw b _ hb (by rw [hgL]; exact hg)
     have hvl : vs.toList.length = m := by rw [Array.length_toList]; exact hc.1
     have hcl : cs.toList.length = cs.size := Array.length_toList
     have hfit : d + off + vs.toList.length ≤ cs.size := by omega
     have hsz : (cs.toList.take (d + off) ++ vs.toList ++ cs.toList.drop (d + off + vs.toList.length)).toArray.size = cs.size := by
      simp only [List.size_toArray, List.length_append, List.length_take, List.length_drop]
      omega
     have hheap := setRow_heap w rb cs ((cs.toList.take (d + off) ++ vs.toList ++ cs.toList.drop (d + off + vs.toList.length)).toArray) ty (0, 0) q1
     have hold : CellsR ρ L nb (Eng.chunk cb 0 nb) (cs.extract d (d + nb)) := by
      refine ⟨by simp; omega, z2h _ _ _, fun i hi => ?_⟩
      rw [z1q _ _ _ _ hi, Nat.zero_add]
      obtain ⟨u, a, b2, e⟩ := q5 i hi
      refine ⟨u, ?_, b2, e⟩
      rw [Array.getElem?_extract]
      simp [show i < min (d + nb) cs.size - d from by omega, a]
     have hs' := c.sim.own (w' := w.setRow rb (cs.toList.take (d + off) ++ vs.toList ++ cs.toList.drop (d + off + vs.toList.length)).toArray) c.fresh hb hl hL hg hR
      (fun x hx => setRow_other w rb x _ hx) (by simp [World.setRow]) hheap (by rw [hsz]; exact q2) q3 (fun i hi => by
       have hgp := get_put cs.toList vs.toList (d + off) (d + i) (by omega)
       simp only
       rw [List.getElem?_toArray, hgp]
       unfold Eng.splice
       have l1 : (Eng.chunk cb 0 off) < 2 ^ (128 * off) := z2h _ _ _
       have l2 : cat (Eng.chunk cb 0 off) off ch < 2 ^ (128 * (off + m)) := z5O _ _ _ _ l1 hc.2.1
       by_cases h1 : i < off
       ·obtain ⟨u, a, b2, e⟩ := q5 i hi
        rw [if_pos (by omega), show Nat.add off m = off + m from rfl, z0G _ _ _ _ (by omega), z0G _ _ _ _ h1, z1q _ _ _ _ h1, Nat.zero_add]
        exact ⟨u, by simpa using a, b2, e⟩
       ·rw [if_neg (by omega)]
        by_cases h2 : i < off + m
        ·obtain ⟨u, a, b2, e⟩ := hc.2.2 (i - off) (by omega)
         have q : getW (cat (Eng.chunk cb 0 off) off ch) i = getW ch (i - off) := by
          have := z11 (Eng.chunk cb 0 off) off ch (i - off) l1
          rwa [show off + (i - off) = i from by omega] at this
         rw [if_pos (by omega), show Nat.add off m = off + m from rfl, z0G _ _ _ _ h2, q, show d + i - (d + off) = i - off from by omega]
         exact ⟨u, by simpa using a, b2, e⟩
        ·obtain ⟨u, a, b2, e⟩ := q5 i hi
         have q : getW (cat (cat (Eng.chunk cb 0 off) off ch) (off + m) (Eng.chunk cb (off + m) (nb - (off + m)))) i = getW cb i := by
          have := z11 (cat (Eng.chunk cb 0 off) off ch) (off + m) (Eng.chunk cb (off + m) (nb - (off + m))) (i - (off + m)) l2
          rw [show off + m + (i - (off + m)) = i from by omega, z1q _ _ _ _ (by omega), show off + m + (i - (off + m)) = i from by omega] at this
          exact this
         rw [if_neg (by omega)]
         show ∃ v, cs.toList[d + i]? = some v ∧ VR ρ L (getW (cat (cat (Eng.chunk cb 0 off) off ch) (off + m) (Eng.chunk cb (off + m) (nb - (off + m)))) i) v ∧ storable (getW (cat (cat (Eng.chunk cb 0 off) off ch) (off + m) (Eng.chunk cb (off + m) (nb - (off + m)))) i) = true
         rw [q]
         exact ⟨u, by simpa using a, b2, e⟩)
     refine ⟨H1, L1, cs, ty, hk, q1, hfit, ⟨hs', hag, hR.fresh hL c.fresh⟩, hR.ext hL ρ, ?_, hloc⟩
     exact ⟨rfl, rfl, rfl, by simp [World.setRow], fun x hx => setRow_other w rb x _ (by omega)⟩
    ·exact absurd h.symm (hr _)
   ·exact absurd h.symm (hr _)
 ·exact absurd h.symm (hr _)
theorem z8H (c : Ctx base H n ρ L w) {t : TypeId} {x y : Nat} {vx vy : Value} (hx : VR ρ L x vx) (hy : VR ρ L y vy) (h : storeA P t x y H n = .ok v H' n') :
  ∃ w', After base H n ρ L w v H' n' (fun r W => r = Go.undef ∧ (Instr.storeAt t vx vy).run P w = .ok () W) ∧ True ∧ w' = w := by
 unfold storeA at h
 rw [zf] at h
 split at h
 ·rename_i hinf
  obtain ⟨i, hi⟩ := z1k hinf
  rw [z1C hi] at h
  split at h
  ·rename_i ch hcn
   have hcr := z3u c hy hcn
   rw [z8] at h
   split at h
   ·rename_i h3
    rw [z8] at h
    split at h
    ·cases h
    ·rename_i hnz
     rcases hx.z1j h3 with ⟨h4, _⟩ | ⟨b, off, rb, d, sz, hb, hof, hw, rfl⟩
     ·rw [h4] at hnz; exact absurd rfl hnz
     ·obtain ⟨_, p2, p3⟩ := z2p b off hof
      rw [hw, p2, p3, Nat.pred_succ] at h
      obtain ⟨H1, L1, cur, ty, hk, hh, hfit, hc', he, hbel, hloc⟩ := z8G c hb hcr h (by simp)
      injection hk with h1 h2 h3
      subst h1; subst h2; subst h3
      have hst := run_storeCells_at P rb (d + off) ty vy.cells.toList 0 cur w hh (by simpa using hfit) hcr.oneCell
      simp only [Nat.add_zero] at hst
      have hsz : vy.cells.size = i.size := hcr.1
      refine ⟨w, ⟨ρ, L1, _, Go.undef, hc', he, hbel, hloc, Nat.le_refl _, .undef, rfl, ?_⟩, trivial, rfl⟩
      simp [Instr.storeAt, Instr.sureAddr, storeVar, hsz, z0L hi, hst]
   ·cases h
  ·cases h
 ·cases h
theorem zdh (c : Ctx base H n ρ L w) (ht : TR ρ L nt T tmps) {t : TypeId} {a x : Operand} (ho : o.op = .store t a x) (h : opE P call T H n o.op = .ok v H' n') :
  After base H n ρ L w v H' n' (OpDone P tmps o w cfr ccs) := by
 rw [ho] at h
 simp only [z01, opX] at h
 rw [zf] at h
 split at h
 ·rename_i hp
  rw [zf] at h
  split at h
  ·rename_i hst
   rw [z8] at h
   split at h
   ·rename_i h3
    rw [z8] at h
    split at h
    ·cases h
    ·rename_i hnz
     rcases (zC ht a (by omega)).z1j h3 with ⟨h4, _⟩ | ⟨b, off, rb, d, sz, hb, hof, hw, hv⟩
     ·rw [h4] at hnz; exact absurd rfl hnz
     ·obtain ⟨_, p2, p3⟩ := z2p b off hof
      rw [hw, p2, p3, Nat.pred_succ] at h
      have hx := zC ht x ((z0g _).1 hst).2.2.1
      obtain ⟨hc1, hc2⟩ := hx.cell hst
      obtain ⟨H1, L1, hk, hc', he, hbel, hloc, hbase, ⟨u, hcell⟩, hfro⟩ := zdg c hb hst hx h (by simp)
      injection hk with h1 h2 h3
      subst h1; subst h2; subst h3
      have hrun : (execOp (evT tmps) o).run P w = .ok .skip (w.setCell ⟨rb, d + off, none⟩ (evT tmps x)) := by
       have hadd : (⟨rb, d + off, none⟩ : Addr).add 0 = ⟨rb, d + off, none⟩ := rfl
       simp [execOp, ho, Instr.storeAt, hv, Instr.sureAddr, storeVar, hc1, z5n hp, storeCells, hadd, run_store P w _ _ _ hc2, hcell, hfro]
      exact ⟨ρ, L1, _, Go.undef, hc', he, hbel, hloc, Nat.le_refl _, .undef, .skip hrun rfl⟩
   ·cases h
  ·cases h
 ·have nb : tagOf (ev T a) ≠ 15 ∧ tagOf (ev T x) ≠ 15 := by
   unfold storeA at h
   have h := z14 h
   split at h
   ·rename_i ch hcn
    rw [z8] at h
    split at h
    ·refine ⟨by omega, fun hb => ?_⟩
     unfold cellsN at hcn
     rw [z8, if_neg (by omega), z8] at hcn
     split at hcn
     ·rw [zf] at hcn
      split at hcn
      ·rename_i hs; exact ((z0g _).1 hs).2.2.1 hb
      ·cases hcn
     ·cases hcn
    ·cases h
   ·cases h
  obtain ⟨_, hA, _, _⟩ := z8H c (zC ht a nb.1) (zC ht x nb.2) h
  refine hA.mono fun r W hr => .skip ?_ hr.1
  simp [execOp, ho, hr.2]
theorem repRow (z : Nat) (x : Value) (hx : VR ρ L z x) (hs : storable z = true) (m : Nat) :
  ∀ i, i < m → ∃ u, (Array.replicate m x)[i]? = some u ∧ VR ρ L (getW (repW z m) i) u ∧ storable (getW (repW z m) i) = true := by
 intro i hi
 rw [z5P z ((z0g _).1 hs).2.2.2 m i hi]
 exact ⟨x, by simp [hi], hx, hs⟩
theorem z1P (x : Value) (m : Nat) : (Array.range m).map ((#[x] : Array Value)[· % (#[x] : Array Value).size]!) = Array.replicate m x := by
 apply Array.ext
 ·simp
 ·intro i h1 h2
  simp [Nat.mod_one]
theorem z4P {e : TypeId} (h : tbytesOk P e = true) : ∃ i, P.info? e = some i ∧ 0 < i.bytes ∧ i.bytes ≤ 1024 := by
 unfold tbytesOk at h
 split at h
 ·rename_i i hi
  rw [z8] at h
  split at h
  ·cases h
  ·rw [nble] at h
   exact ⟨i, hi, by omega, by simpa using h⟩
 ·cases h
theorem z8I (c : Ctx base H n ρ L w) (ht : TR ρ L nt T tmps) {t : TypeId} {l q : Operand} (ho : o.op = .makeSlice t l q) (h : opE P call T H n o.op = .ok v H' n') :
  After base H n ρ L w v H' n' (OpDone P tmps o w cfr ccs) := by
 rw [ho] at h
 simp only [z01, opX] at h
 obtain ⟨e, hu, _, h⟩ := z0M h rfl (by simp)
 rw [zf] at h
 split at h
 ·rename_i hp
  rw [zf] at h
  split at h
  ·rename_i hby
   obtain ⟨hl1, h⟩ := z2M h (by simp)
   obtain ⟨hq1, h⟩ := z2M h (by simp)
   rw [z0k] at h
   split at h
   ·rename_i hle
    rw [zJ] at h
    split at h
    ·rename_i hsm
     rw [zf] at h
     split at h
     ·rename_i hz
      obtain ⟨a, ha, _, hpa, hva⟩ := (zC ht l (by omega)).z0i hl1
      obtain ⟨b, hb, _, hpb, hvb⟩ := (zC ht q (by omega)).z0i hq1
      rw [hpa, hpb] at hle
      rw [hpb] at hsm
      obtain ⟨hn, hk, hmk⟩ := z1B c h (by simp)
      injection hk with h1 h2 h3
      subst h1; subst h2; subst h3
      obtain ⟨i, z, hi, hiz, hzx⟩ := z13 ρ L hz
      obtain ⟨hc1, _⟩ := hzx.cell hz
      obtain ⟨i', hi', hb0, hb1⟩ := z4P hby
      rw [hi] at hi'; injection hi' with hi'; subst hi'
      have hsz1 : i.size = 1 := by
       obtain ⟨j, _, hj, hs, _⟩ := z2t hp
       rw [hi] at hj; injection hj with hj; subst hj; exact hs
      have hsm' : b + 1 < 1048576 := hsm
      have hrun := run_make (P := P) w t e i z hu hi hiz .i64 .i64 (a : Int) (b : Int) (by omega) (by omega) (by
       have : (i.bytes : Int) * (b : Int) ≤ 1024 * 1048576 := Int.mul_le_mul (by omega) (by omega) (by omega) (by omega)
       omega) (by omega)
      have hrow : madeCells z.cells ((b : Int).toNat * i.size) = Array.replicate b z := by
       rw [hc1, hsz1]; simp only [madeCells]; rw [show (b : Int).toNat * 1 = b from by omega]; exact z1P z b
      rw [hrow] at hrun
      obtain ⟨c', e', hb', hl'⟩ := hmk (w.alloc (.cells (Array.replicate b z) e)) (Array.replicate b z) e rfl rfl rfl rfl (by rw [hpb]; simp) (by rw [hpb]; exact repRow _ z hzx hz b)
      rw [hpb] at *
      refine ⟨_, _, _, .slice (some ⟨w.heap.size, 0, none⟩) a b, c', e', hb', hl', Nat.le_succ _, ?_, .value ?_⟩
      ·rw [hpa]
       exact z1a (zU _ _ _) (by omega) (by omega) hsm' hle (by omega) (.inr rfl) (by simp)
      ·have ea : sInt a = (a : Int) := z0J (by omega)
       have eb : sInt b = (b : Int) := z0J (by omega)
       simp only [execOp, ho, hva, hvb, ea, eb, Sem.run_bind, hrun, Result.andThen_ok, Sem.run_pure, Int.toNat_natCast]
     ·cases h
    ·cases h
   ·cases h
  ·cases h
 ·cases h
theorem z4Q (ht : TR ρ L nt T tmps) (len : Nat) : ∀ (ps : List (Nat × Operand)) (c c' : Nat) (cells : Array Value), cells.size = len →
  (∀ i, i < len → ∃ u, cells[i]? = some u ∧ VR ρ L (getW c i) u ∧ storable (getW c i) = true) → fillE T len ps c = .some c' →
  ∃ cells', Instr.fill (fun i => some (i * 1, 1)) cells (ps.map fun p => (p.1, evT tmps p.2)) = some cells' ∧ cells'.size = len ∧
   ∀ i, i < len → ∃ u, cells'[i]? = some u ∧ VR ρ L (getW c' i) u ∧ storable (getW c' i) = true
 | [], c, c', cells, hs, hc, h => by
  have e : fillE T len [] c = .some c := rfl
  rw [e] at h; injection h with h; subst h
  exact ⟨cells, rfl, hs, hc⟩
 | p :: ps, c, c', cells, hs, hc, h => by
  have e : fillE T len (p :: ps) c = sel (ltb p.1 len) (sel (storable (ev T p.2)) (fillE T len ps (setW c p.1 (ev T p.2))) .none) .none := rfl
  rw [e, zJ] at h
  split at h
  ·rename_i hlt
   rw [zf] at h
   split at h
   ·rename_i hst
    have hxlt := ((z0g _).1 hst).2.2.2
    have hx := zC ht p.2 ((z0g _).1 hst).2.2.1
    obtain ⟨hc1, _⟩ := hx.cell hst
    obtain ⟨cells', h1, h2, h3⟩ := z4Q ht len ps _ c' (cells.setIfInBounds p.1 (evT tmps p.2)) (by simpa using hs) (fun i hi => by
     by_cases hip : i = p.1
     ·subst hip
      rw [z10 _ _ _ hxlt]
      exact ⟨_, by simp [hs, hlt], hx, hst⟩
     ·rw [z19 _ _ _ _ hxlt hip]
      obtain ⟨u, a1, a2, a3⟩ := hc i hi
      exact ⟨u, by rw [Array.getElem?_setIfInBounds, if_neg (by omega)]; exact a1, a2, a3⟩) h
    refine ⟨cells', ?_, h2, h3⟩
    have hno : ¬ (cells.size < p.1 + 1) := by omega
    simp only [Nat.mul_one] at h1 ⊢
    simp [Instr.fill, hc1, hno, h1]
   ·cases h
  ·cases h
theorem z7W (c : Ctx base H n ρ L w) (ht : TR ρ L nt T tmps) {t : TypeId} {len : Nat} {ps : Array (Nat × Operand)} (ho : o.op = .buildSlice t len ps) (h : opE P call T H n o.op = .ok v H' n') :
  After base H n ρ L w v H' n' (OpDone P tmps o w cfr ccs) := by
 rw [ho] at h
 simp only [z01, opX] at h
 obtain ⟨e, hu, _, h⟩ := z0M h rfl (by simp)
 rw [zf] at h
 split at h
 ·rename_i hp
  rw [zJ] at h
  split at h
  ·rename_i hsm
   have hsm' : len + 1 < 1048576 := hsm
   rw [zf] at h
   split at h
   ·rename_i hst
    split at h
    ·rename_i ch hfill
     obtain ⟨hn, hk, hmk⟩ := z1B c h (by simp)
     injection hk with h1 h2 h3
     subst h1; subst h2; subst h3
     obtain ⟨i, d, hi, hsz, _⟩ := z2t hp
     obtain ⟨z0, hz0, hz1, hz2⟩ : ∃ z0 : Array Value, ((if len * i.size = 0 then pure #[] else do pure (← zeroValue e).cells : Sem (Array Value)).run P w = .ok z0 w) ∧
       ((Array.range (len * i.size)).map (z0[· % z0.size]!)).size = len ∧
       ∀ j, j < len → ∃ u, ((Array.range (len * i.size)).map (z0[· % z0.size]!))[j]? = some u ∧ VR ρ L (getW (repW (sel (Nat.beq len 0) 1 (tzero P e)) len) j) u ∧
        storable (getW (repW (sel (Nat.beq len 0) 1 (tzero P e)) len) j) = true := by
      by_cases hl : len = 0
      ·subst hl
       exact ⟨#[], by simp, by simp, fun j hj => absurd hj (by omega)⟩
      ·rw [z8, if_neg hl] at hst ⊢
       obtain ⟨i', z, hi', hiz, hzx⟩ := z13 ρ L hst
       rw [hi] at hi'; injection hi' with hi'; subst hi'
       obtain ⟨hc1, _⟩ := hzx.cell hst
       have hzv : (zeroValue e).run P w = .ok z w := by simp [zeroValue, typeInfo, hi, hiz]
       refine ⟨z.cells, by simp [hsz, hl, hzv], by simp [hsz], fun j hj => ?_⟩
       have := repRow (ρ := ρ) (L := L) (tzero P e) z hzx hst len j hj
       rw [hc1, hsz, Nat.mul_one, z1P]
       exact this
     obtain ⟨cells', f1, f2, f3⟩ := z4Q ht len ps.toList _ ch _ hz1 hz2 hfill
     obtain ⟨c', e', hb', hl'⟩ := hmk { w with heap := w.heap.push (.cells cells' e) } cells' e rfl rfl rfl rfl (by omega) f3
     refine ⟨_, _, _, .slice (some ⟨w.heap.size, 0, none⟩) len len, c', e', hb', hl', Nat.le_succ _, ?_, .value ?_⟩
     ·exact z1a (zU _ _ _) (by omega) (by omega) hsm' (Nat.le_refl _) (by omega) (.inr rfl) (by omega)
     ·have hno : ¬ (16777216 < len * i.size) := by rw [hsz]; omega
      have hfn : (fun j => some (j * i.size, i.size)) = (fun j : Nat => some (j * 1, 1)) := by rw [hsz]
      have hrun : (Instr.buildSlice t len (ps.map fun p => (p.1, evT tmps p.2))).run P w = .ok (.slice (some ⟨w.heap.size, 0, none⟩) len len) { w with heap := w.heap.push (.cells cells' e) } := by
       simp only [Nat.mul_one] at f1
       by_cases hl : len = 0
       ·subst hl
        have r0 : ∀ f : Nat → Value, (Array.range 0).map f = #[] := fun f => Array.eq_empty_of_size_eq_zero (by simp)
        simp only [Nat.zero_mul, r0] at f1
        simp [Instr.buildSlice, run_underlying hu, run_sizeOf hi, hsz, f1, r0, newRow]
       ·have hcell := hz0
        simp [hsz, hl] at hz0
        obtain ⟨i', z, hi', hiz, hzx⟩ := z13 ρ L (by rw [z8, if_neg hl] at hst; exact hst)
        rw [hi] at hi'; injection hi' with hi'; subst hi'
        have hzv : (zeroValue e).run P w = .ok z w := by simp [zeroValue, typeInfo, hi, hiz]
        rw [hzv] at hz0
        simp at hz0
        subst hz0
        rw [hsz] at f1
        simp [Instr.buildSlice, run_underlying hu, run_sizeOf hi, hsz, hl, hzv, newRow, show ¬ (16777216 < len) from by omega]
        simp at f1
        rw [f1]
        simp
      simp only [execOp, ho]
      simp only [Sem.run_bind, hrun, Result.andThen_ok, Sem.run_pure]
    ·cases h
   ·cases h
  ·cases h
 ·refine ((z2T (w := w) c ht hu h).after c).mono fun r W hr => .value ?_
  simp only [execOp, ho, Sem.run_bind]
  rw [hr]; rfl
end
end Go.Eng
namespace Go.Eng
open Go Go.RowKit
variable [E : Env] [Pd : Pad]
section
variable {P : Program} {w : World}
def SrcOk (P : Program) (tx : TypeId) (i : TypeInfo) (z : Value) (w : World) (xv : Value) (m : Nat) (news : List Value) : Prop :=
 ((∃ e', P.underlying tx = some (.slice e')) ∧ (Builtin.lenOf xv).run P w = .ok m w ∧ news.length = m * i.size ∧ ∀ w2 : World, w2.heap = w.heap → (Builtin.firstCells i.size m xv).run P w2 = .ok news.toArray w2) ∨
 ((∃ k, P.underlying tx = some (.int k)) ∧ xv = .int .i64 (m : Int) ∧ i.size = 1 ∧ m < 1048576 ∧ i.bytes ≤ 1024 ∧ z.cells = #[z] ∧ news = List.replicate m z)
theorem z3e (z : Value) (m : Nat) : Builtin.zeroCells #[z] m = (List.replicate m z).toArray := by
 unfold Builtin.zeroCells
 have := z1P z m
 simp only [List.size_toArray, List.length_cons, List.length_nil, Nat.zero_add, Nat.mul_one] at this ⊢
 rw [this]; simp
theorem z5A (m : Nat) (h : m < 1048576) : IntKind.i64.wrap (m : Int) = (m : Int) := by rw [z1f, z7H, z0J (by omega)]; omega
theorem z9G {t tx ty e : TypeId} {i : TypeInfo} {z : Value} (ht : P.underlying t = some (.slice e)) (hi : P.info? e = some i) (hz : i.zero = some z) {xv : Value} {m : Nat} {news : List Value}
  (hs : SrcOk P tx i z w xv m news) (h0 : 0 < m) (h63 : m < 1048576) (hb0 : 0 < i.bytes) (hb : i.bytes ≤ 1024) :
  (Builtin.append_ #[t, tx] ty #[.slice none 0 0, xv]).run P w =
   .ok (.slice (some ⟨w.heap.size, 0, none⟩) m (grownCap w m 0 e)) (w.drew.alloc (.cells (news.toArray ++ Builtin.zeroCells z.cells (grownCap w m 0 e - m)) e)) := by
 have hn : m ≠ 0 := by omega
 have h63' : ¬ (9223372036854775807 < (m : Int)) := by omega
 have hmb : m * i.bytes ≤ 1048576 * 1024 := Nat.mul_le_mul (by omega) hb
 have h48' : ¬ (281474976710656 < Builtin.nextslicecap m 0 * i.bytes) := by rw [nextslicecap_zero h0]; omega
 rcases hs with ⟨⟨e', hx⟩, hl, _, hf⟩ | ⟨⟨k, hx⟩, rfl, hsz, _, _, hzc, rfl⟩
 ·have hf1 := hf w.drew rfl
  simp [Builtin.append_, run_underlying ht, run_underlying hx, sizeOf, typeInfo, zeroValue, hi, hz, hl, hn, h63', h48', Question.forced, hf1, newRow, grownCap, run_firstCells_none]
 ·have hm0 : ¬ ((m : Int) < 0) := by omega
  have hm48 : ¬ (281474976710656 < (m : Int) * (i.bytes : Int)) := by rw [← Int.natCast_mul]; omega
  have hb0' : i.bytes ≠ 0 := by omega
  simp [Builtin.append_, run_underlying ht, run_underlying hx, sizeOf, typeInfo, zeroValue, hi, hz, asInt, asIntOf, z5A m h63, hm0, hm48, hn, hsz, h63', h48', hb0', Question.forced, newRow, grownCap, run_firstCells_none, hzc, z3e]
theorem z8J {t tx ty e : TypeId} {i : TypeInfo} {z : Value} (ht : P.underlying t = some (.slice e)) (hi : P.info? e = some i) (hz : i.zero = some z) {xv : Value} {m : Nat} {news : List Value}
  (hs : SrcOk P tx i z w xv m news) {b : Addr} {sLen sCap : Nat} {olds : List Value} (hlo : olds.length = sLen * i.size) (holds : ∀ j v, olds[j]? = some v → w.cell? (b.add j) = some v)
  (h0 : 0 < m) (hg : sCap < sLen + m) (h63 : sLen + m < 1048576) (hb0 : 0 < i.bytes) (hb : i.bytes ≤ 1024) :
  (Builtin.append_ #[t, tx] ty #[.slice (some b) sLen sCap, xv]).run P w =
   .ok (.slice (some ⟨w.heap.size, 0, none⟩) (sLen + m) (grownCap w (sLen + m) sCap e))
    (w.drew.alloc (.cells (olds.toArray ++ (news.toArray ++ Builtin.zeroCells z.cells (grownCap w (sLen + m) sCap e - (sLen + m)))) e)) := by
 have hn : ¬ (sLen + m ≤ sCap) := by omega
 have h63' : ¬ (9223372036854775807 < ((sLen : Int) + (m : Int))) := by omega
 have hmb : (sLen + m) * i.bytes ≤ 1048576 * 1024 := Nat.mul_le_mul (by omega) hb
 have h48' : ¬ (281474976710656 < Builtin.nextslicecap (sLen + m) sCap * i.bytes) := by
  have := growslice_fits hg (show (sLen + m) * i.bytes ≤ 140737488355328 by omega); omega
 have hfo := run_firstCells_some (P := P) w.drew i.size sLen b sLen sCap olds hlo (by simpa using holds)
 rcases hs with ⟨⟨e', hx⟩, hl, _, hf⟩ | ⟨⟨k, hx⟩, rfl, hsz, _, _, hzc, rfl⟩
 ·have hf1 := hf w.drew rfl
  simp [Builtin.append_, run_underlying ht, run_underlying hx, sizeOf, typeInfo, zeroValue, hi, hz, hl, hn, h63', h48', Question.forced, hf1, hfo, newRow, grownCap]
 ·have hm0 : ¬ ((m : Int) < 0) := by omega
  have hmb2 : m * i.bytes ≤ 1048576 * 1024 := Nat.mul_le_mul (by omega) hb
  have hm48 : ¬ (281474976710656 < (m : Int) * (i.bytes : Int)) := by rw [← Int.natCast_mul]; omega
  have hb0' : i.bytes ≠ 0 := by omega
  rw [hsz] at hfo
  have hmz : m ≠ 0 := by omega
  simp [Builtin.append_, run_underlying ht, run_underlying hx, sizeOf, typeInfo, zeroValue, hi, hz, asInt, asIntOf, z5A m (by omega), hm0, hm48, hn, hsz, h63', h48', hb0', hmz, Question.forced, newRow, grownCap, hfo, hzc, z3e]
theorem z5f {t tx ty e : TypeId} {i : TypeInfo} {z : Value} (ht : P.underlying t = some (.slice e)) (hi : P.info? e = some i) (hz : i.zero = some z) {xv : Value} {m : Nat} {news : List Value}
  (hs : SrcOk P tx i z w xv m news) {g off sLen sCap : Nat} {ety : TypeId} {cur : Array Value} (hg : w.heap[g]? = some (.cells cur ety (0, 0))) (h1 : ∀ u ∈ news, u.oneCell' = true)
  (h0 : 0 < m) (hroom : sLen + m ≤ sCap) (hfit : off + sLen * i.size + news.length ≤ cur.size) (hm : m < 1048576) (hb : i.bytes ≤ 1024) :
  (Builtin.append_ #[t, tx] ty #[.slice (some ⟨g, off, none⟩) sLen sCap, xv]).run P w =
   .ok (.slice (some ⟨g, off, none⟩) (sLen + m) sCap) (w.setRow g (cur.toList.take (off + sLen * i.size) ++ news ++ cur.toList.drop (off + sLen * i.size + news.length)).toArray) := by
 have hst := run_storeCells_at P g (off + sLen * i.size) ety news 0 cur w hg (by simpa using hfit) h1
 simp only [Nat.add_zero] at hst
 have hadd : (⟨g, off, none⟩ : Addr).add (sLen * i.size) = ⟨g, off + sLen * i.size, none⟩ := addr_add _ _ _
 rcases hs with ⟨⟨e', hx⟩, hl, _, hf⟩ | ⟨⟨k, hx⟩, rfl, hsz, _, _, hzc, rfl⟩
 ·have hf1 := hf w rfl
  simp [Builtin.append_, run_underlying ht, run_underlying hx, sizeOf, typeInfo, hi, hl, hroom, hf1, hadd, hst]
 ·have hm0 : ¬ ((m : Int) < 0) := by omega
  have hmb2 : m * i.bytes ≤ 1048576 * 1024 := Nat.mul_le_mul (by omega) hb
  have hm48 : ¬ (281474976710656 < (m : Int) * (i.bytes : Int)) := by rw [← Int.natCast_mul]; omega
  rw [hsz, Nat.mul_one] at hst hadd
  have hmz : m ≠ 0 := by omega
  simp [Builtin.append_, run_underlying ht, run_underlying hx, sizeOf, typeInfo, zeroValue, hi, hz, asInt, asIntOf, z5A m hm, hm0, hm48, hsz, hmz, hzc, z3e, hadd, hst, hroom]
end
end Go.Eng
