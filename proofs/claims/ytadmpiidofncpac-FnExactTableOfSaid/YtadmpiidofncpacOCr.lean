/- Part of the evaluator, in company. -/
import Derived.Test.YtadmpiidofncpacOCq
import Derived.Conc.SmallLaws
import Derived.Test.YtadmpiidofncpacOCp
import Derived.Conc.Own2
set_option linter.unusedSectionVars false
set_option linter.unusedSimpArgs false
set_option linter.unusedVariables false
namespace Go.Eng
open Go Go.RowKit
open Go.Conc
@[reducible] def keepK (E : Env) (k : Nat → Option Obj) : Env := { E with kept := k }
structure Ex3 (ρ : Rho) (L : Look) (ρ' : Rho) (L' : Look) : Prop where
 place : ∀ b r, ρ b = some r → ρ' b = some r
 box : ∀ b k m c, L b = some (.box k m c) → L' b = some (.box k m c)
 poly : ∀ b p q s d lo hi, L b = some (.poly p q s d lo hi) → L' b = some (.poly p q s d lo hi)
theorem Ext0.ex3 {ρ ρ' : Rho} {L L' : Look} (h : Ext0 ρ L ρ' L') : Ex3 ρ L ρ' L' := ⟨h.place, h.box, h.poly⟩
theorem Ex3.trans {ρ ρ' ρ'' : Rho} {L L' L'' : Look} (h : Ex3 ρ L ρ' L') (k : Ex3 ρ' L' ρ'' L'') : Ex3 ρ L ρ'' L'' :=
 ⟨fun b r x => k.place b r (h.place b r x), fun b i m c x => k.box b i m c (h.box b i m c x), fun b p q s d lo hi x => k.poly b p q s d lo hi (h.poly b p q s d lo hi x)⟩
theorem Ex3.refl (ρ : Rho) (L : Look) : Ex3 ρ L ρ L := ⟨fun _ _ h => h, fun _ _ _ _ h => h, fun _ _ _ _ _ _ _ h => h⟩
section
variable {E : Env} {k k' : Nat → Option Obj} {ρ ρ' : Rho} {L L' : Look}
theorem PolyZ.re {p q s d lo hi : Nat} {z : Int} (h : @PolyZ (keepK E k) p q s d lo hi z) : @PolyZ (keepK E k') p q s d lo hi z := by
 obtain ⟨a, b, c, d, e⟩ := h
 exact @PolyZ.mk (keepK E k') _ _ _ _ _ _ _ a b c d e
theorem VR.re (e : Ex3 ρ L ρ' L') {w : Nat} {v : Value} (h : @VR (keepK E k) ρ L w v) : @VR (keepK E k') ρ' L' w v := by
 letI : Env := keepK E k'
 induction h with
 | undef => exact .undef
 | int p h => exact .int p h
 | bool b => exact .bool b
 | ptrNil => exact .ptrNil
 | ptr b o rb d sz h h1 => exact .ptr b o rb d sz (e.place _ _ h) h1
 | sliceNil => exact .sliceNil
 | slice b e' o n k rb d sz c a h h1 h2 h3 h4 h5 h55 h6 h7 => exact .slice b e' o n k rb d sz c a (e.place _ _ h) h1 h2 h3 h4 h5 h55 h6 h7
 | agg id m c vs h h1 _ h2 h3 ih => exact .agg id m c vs (e.box _ _ _ _ h) h1 ih h2 h3
 | mapNil => exact .mapNil
 | map b rb d sz h => exact .map b rb d sz (e.place _ _ h)
 | str s => exact .str s
 | ostr j lo hi h1 h2 h3 h4 h5 => exact .ostr j lo hi h1 h2 h3 h4 h5
 | poly id p q s d lo hi z h h1 => exact .poly id p q s d lo hi z (e.poly _ _ _ _ _ _ _ h) h1.re
 | tup id m c vs h h1 _ ih => exact .tup id m c vs (e.box _ _ _ _ h) h1 ih
 | clo id m c f vs h h1 h2 _ ih => exact .clo id m c f vs (e.box _ _ _ _ h) h1 h2 ih
 | iface id t c v h _ h2 ih => exact .iface id t c v (e.box _ _ _ _ h) ih h2
 | chan id b rb d sz h h1 => exact .chan id b rb d sz (e.box _ _ _ _ h) (e.place _ _ h1)
 | fn f => exact .fn f
 | yld l rb d sz h => exact .yld l rb d sz (e.place _ _ h)
 | nilFunc => exact .nilFunc
 | nilIface => exact .nilIface
 | nilChan => exact .nilChan
 | sl0 a => exact .sl0 a
 | var j lo hi h1 h2 h3 h4 => exact .var j lo hi h1 h2 h3 h4
 | anyI z h1 h2 => exact .anyI z h1 h2
 | btw t u z h1 h2 h3 => exact .btw t u z h1 h2 h3
 | u64 p h => exact .u64 p h
 | opq b j lo hi rb d sz c h h1 h2 h3 h4 h5 h6 h7 h8 => exact .opq b j lo hi rb d sz c (e.place _ _ h) h1 h2 h3 h4 h5 h6 h7 h8
theorem TR.re (e : Ex3 ρ L ρ' L') {nt T : Nat} {tmps : Array Value} (h : @TR (keepK E k) ρ L nt T tmps) : @TR (keepK E k') ρ' L' nt T tmps := ⟨h.1, fun t => (h.2 t).re e⟩
theorem AR.re (e : Ex3 ρ L ρ' L') {xs : List Nat} {vs : List Value} (h : @AR (keepK E k) ρ L xs vs) : @AR (keepK E k') ρ' L' xs vs := by
 letI : Env := keepK E k'
 induction h with
 | nil => exact .nil
 | cons x v xs vs hx _ ih => exact .cons _ _ _ _ (hx.re e) ih
theorem CellsR.re (e : Ex3 ρ L ρ' L') {m c : Nat} {vs : Array Value} (h : @CellsR (keepK E k) ρ L m c vs) : @CellsR (keepK E k') ρ' L' m c vs :=
 ⟨h.1, h.2.1, fun i hi => let ⟨u, a, b, d⟩ := h.2.2 i hi; ⟨u, a, b.re e, d⟩⟩
theorem KR.re (e : Ex3 ρ L ρ' L') {ag m c : Nat} {v : Value} (h : @KR (keepK E k) ρ L ag m c v) : @KR (keepK E k') ρ' L' ag m c v := by
 letI : Env := keepK E k'
 rcases h with ⟨h1, h2, h3⟩ | ⟨h1, h0, vs, h2, h3⟩
 ·exact .inl ⟨h1, h2, h3.re e⟩
 ·exact .inr ⟨h1, h0, vs, h2, h3.re e⟩
theorem BR.re (e : Ex3 ρ L ρ' L') (he : ∀ b, IsDf (L b) → IsDf (L' b)) {w w' : World} {r : Nat × Nat × Nat} (hw : w'.heap[r.1]? = w.heap[r.1]?) {K : Blk} (h : @BR (keepK E k) ρ L w r K) : @BR (keepK E k') ρ' L' w' r K := by
 letI : Env := keepK E k'
 cases K with
 | cells n c g keep since maxl =>
  obtain ⟨cs, ty, fz, h1, h2, h3, h4, h5⟩ := h
  exact ⟨cs, ty, fz, hw.trans h1, h2, h3, h4, fun i hi => let ⟨v, a, b, c⟩ := h5 i hi; ⟨v, a, b.re e, c⟩⟩
 | loop T nt ps assign body st pend df =>
  obtain ⟨lp, h1, h2, h3, h4, h5, h6, h7, q, h8, h9, h10⟩ := h
  exact ⟨lp, hw.trans h1, h2, h3, h4, h5, h6, h7.re e, q, e.place _ _ h8, h9, he _ h10⟩
 | defr => exact hw.trans h
 | gone => exact trivial
 | opq j ro =>
  rcases h with h | h
  ·exact .inl h
  obtain ⟨cs, ty, fz, h1, h2, h3, h4, h5⟩ := h
  exact .inr ⟨cs, ty, fz, hw.trans h1, h2, h3, h4, h5⟩
 | box => exact h
 | poly => exact h
 | mp ag m es =>
  obtain ⟨ents, clock, h1, h2, h3⟩ := h
  exact ⟨ents, clock, hw.trans h1, h2, fun h0 i kv hi => let ⟨en, a, b, c, d⟩ := h3 h0 i kv hi; ⟨en, a, b.re e, c.re e, d⟩⟩
 | chn cap es cl =>
  obtain ⟨vs, sn, rc, tm, h1, h2, h4, h3⟩ := h
  exact ⟨vs, sn, rc, tm, hw.trans h1, h2, h4, fun i hi => (h3 i hi).re e⟩
end
noncomputable section
def cutK (H : Trie) (b : Nat) : Blk → Blk
 | .cells n c g keep since m => sel (Nat.beq g 0) (.cells n c g keep since m) (sel (validE H b g keep since) (.cells n c 0 0 0 0) (.opq 0 2))
 | .opq j ro => sel (Nat.beq ro 0) (.opq j 1) (.opq j ro)
 | .box a m c => .box a m c
 | .poly p q s d lo hi => .poly p q s d lo hi
 | _ => .opq 0 2
def cutH (H : Trie) (n : Nat) : Trie := Nat.rec (motive := fun _ => Trie) .nil (fun b ih => match tget H b with | some k => hset ih b (cutK H b k) | none => ih) n
def cutL (H : Trie) (L : Look) : Look := fun b => match tget H b with
 | some k => some (cutK H b k)
 | none => (match L b with | some k => if grp L b = 0 then some k else some (.opq 0 2) | none => none)
end
theorem zaP (E : Env) {H : Trie} (hlt : ∀ b k, tget H b = some k → b < 16384) : ∀ n, Dep 14 (cutH H n) ∧ ∀ b k, tget (cutH H n) b = some k → ∃ k0, tget H b = some k0 ∧ k = cutK H b k0
 | 0 => ⟨trivial, fun b k h => by cases h⟩
 | n + 1 => by
  obtain ⟨h1, h2⟩ := zaP E hlt n
  have e : cutH H (n + 1) = (match tget H n with | some k => hset (cutH H n) n (cutK H n k) | none => cutH H n) := rfl
  rw [e]
  cases hn : tget H n with
  | none => exact ⟨h1, h2⟩
  | some k =>
   simp only
   refine ⟨z5r _ _ _ _ h1, fun b k' hb => ?_⟩
   rw [z1d h1 (hlt n k hn)] at hb
   split at hb
   ·rename_i e; subst e
    injection hb with hb
    exact ⟨k, hn, hb.symm⟩
   ·exact h2 b k' hb
def g0K : Blk → Prop
 | .cells _ _ g _ _ _ => g = 0
 | .opq _ ro => ro ≠ 0
 | .box .. => True
 | .poly .. => True
 | _ => False
theorem z1Z {L : Look} {b : Nat} {k : Blk} (h : L b = some k) : grp L b = 0 ↔ g0K k := by
 unfold grp
 rw [h]
 cases k <;> simp [g0K]
theorem zdz {H : Trie} {L : Look} {b : Nat} {k : Blk} (h : L b = some (cutK H b k)) : grp L b = 0 := by
 rw [z1Z h]
 cases k with
 | cells n c g keep since m =>
  simp only [cutK]
  rw [z8]
  split
  ·assumption
  ·rw [zf]; split <;> simp [g0K]
 | opq j ro =>
  simp only [cutK]
  rw [z8]
  split
  ·simp [g0K]
  ·assumption
 | _ => simp [cutK, g0K]
theorem zdA {H : Trie} {L : Look} (b : Nat) : grp (cutL H L) b = 0 := by
 cases ht : tget H b with
 | some k => exact zdz (H := H) (k := k) (by unfold cutL; rw [ht])
 | none =>
  cases hL : L b with
  | none => unfold grp cutL; rw [ht, hL]
  | some k =>
   by_cases hg : grp L b = 0
   ·have e : cutL H L b = some k := by unfold cutL; rw [ht, hL]; simp [hg]
    rw [z1Z e, ← z1Z hL]; exact hg
   ·have e : cutL H L b = some (.opq 0 2) := by unfold cutL; rw [ht, hL]; simp [hg]
    rw [z1Z e]; simp [g0K]
theorem zaQ {H : Trie} {L : Look} {ρ : Rho} (ha : Agree H L) : Ex3 ρ L ρ (cutL H L) := by
 refine ⟨fun _ _ h => h, fun b k m c h => ?_, fun b p q s d lo hi h => ?_⟩
 ·cases ht : tget H b with
  | some k0 =>
   have := ha.2 _ _ ht
   rw [h] at this; injection this with this; subst this
   unfold cutL; rw [ht]; rfl
  | none => unfold cutL; rw [ht, h]; simp [grp, h]
 ·cases ht : tget H b with
  | some k0 =>
   have := ha.2 _ _ ht
   rw [h] at this; injection this with this; subst this
   unfold cutL; rw [ht]; rfl
  | none => unfold cutL; rw [ht, h]; simp [grp, h]
section
variable {E : Env} {base n : Nat} {H : Trie} {ρ : Rho} {L : Look} {w : World}
theorem Ctx.lt16 (c : @Ctx E base H n ρ L w) {b : Nat} {k : Blk} (h : tget H b = some k) : b < 16384 := by
 letI := pad0
 exact c.agree.lt h
theorem zcS {kp : Nat → Option Obj} {ρ' : Rho} {L' : Look} (e : Ex3 ρ L ρ' L') {b : Nat} {r : Nat × Nat × Nat} {k : Blk} (hk : L b = some k) (hg : grp L b = 0) (hb : @BR E ρ L w r k) : @BR (keepK E kp) ρ' L' w r k := by
 letI : Env := keepK E kp
 have hz := (z1Z hk).1 hg
 cases k with
 | cells n c g keep since maxl => obtain ⟨cs, ty, fz, h1, h2, h3, h4, h5⟩ := hb; exact ⟨cs, ty, fz, h1, h2, h3, h4, fun i hi => let ⟨v, a, b, d⟩ := h5 i hi; ⟨v, a, VR.re (E := E) (k := E.kept) e b, d⟩⟩
 | opq j ro =>
  rcases hb with h | ⟨cs, ty, fz, h1, h2, h3, h4, h5⟩
  ·exact .inl h
  ·exact .inr ⟨cs, ty, fz, h1, h2, h3, h4, h5⟩
 | box => exact hb.elim
 | poly => exact hb.elim
 | _ => exact hz.elim
theorem Ctx.cut (c : @Ctx E base H n ρ L w) : @Ctx (keepK E fun k => w.heap[k]?) base (cutH H n) n ρ (cutL H L) w := by
 have hcut := zaP E (H := H) (fun b k h => c.lt16 h) n
 obtain ⟨hs, hag, hfr⟩ := c
 obtain ⟨hblk, hsep, hsame, hmx, hrw, hro, hbnd, hbs, hld, hkind, hpol, hrk, hkp⟩ := hs
 have ex := zaQ (ρ := ρ) hag
 have hval : ∀ {b n c g k s m : Nat}, L b = some (.cells n c g k s m) → validE H b g k s = true → live L b := fun h1 h2 => z1E hag h1 h2
 letI : Env := keepK E fun k => w.heap[k]?
 have g0 := fun b => zdA (H := H) (L := L) b
 refine ⟨⟨fun b r hb => ?_, fun b b' r r' h1 h2 h3 h4 h5 => absurd (g0 b) h5, fun b b' r r' h1 h2 h3 h4 h5 => absurd (g0 b) h5, fun b r n' c' g k s m h1 h2 h3 h4 => ?_, fun b r h1 h2 => absurd (g0 b) h2, fun b r h1 _ => .inr ⟨w.heap[r.1]'(hbnd b r h1), Array.getElem?_eq_getElem _⟩, hbnd, hbs,
  fun b r h1 h2 => absurd (g0 b) h2, fun b n' c' g k s m h1 h2 => ?_, fun b p q s d lo hi h1 h2 => ?_, fun b r h1 h2 => absurd (g0 b) h2, fun k o h => h⟩, ⟨hcut.1, fun b k hb => ?_⟩, fun b hb => ?_⟩
 ·obtain ⟨k, hk, hbr⟩ := hblk b r hb
  cases ht : tget H b with
  | some k0 =>
   have e0 := hag.2 _ _ ht
   rw [hk] at e0; injection e0 with e0; subst e0
   refine ⟨cutK H b k, by unfold cutL; rw [ht], fun _ => ?_⟩
   cases k with
   | cells m0 c0 g keep since mx =>
    simp only [cutK]
    rw [z8]
    split
    ·rename_i h0
     subst h0
     exact zcS ex hk (by simp [grp, hk]) (hbr (.inl (by simp [grp, hk])))
    ·rw [zf]
     split
     ·rename_i hv
      obtain ⟨cs, ty, fz, h1, h2, h3, h4, h5⟩ := hbr (hval hk hv)
      exact ⟨cs, ty, fz, h1, h2, h3, fun h => absurd rfl h, fun i hi => let ⟨v, a, b, d⟩ := h5 i hi; ⟨v, a, VR.re (E := E) (k := E.kept) ex b, d⟩⟩
     ·exact .inl rfl
   | opq j ro =>
    simp only [cutK]
    rw [z8]
    split
    ·rename_i h0
     subst h0
     have hl : live L b := NoRow.live (k := .opq j 0) rfl hk
     rcases hbr hl with h | ⟨cs, ty, fz, h1, h2, h3, h4, h5⟩
     ·cases h
     ·exact .inr ⟨cs, ty, fz, h1, h2, h3, fun h => (by cases h), h5⟩
    ·rename_i h0
     exact zcS ex hk (by simp [grp, hk, h0]) (hbr (.inl (by simp [grp, hk, h0])))
   | box a m0 c0 => exact (hbr (.inl (by simp [grp, hk]))).elim
   | poly => exact (hbr (.inl (by simp [grp, hk]))).elim
   | _ => exact .inl rfl
  | none =>
   by_cases hg : grp L b = 0
   ·exact ⟨k, by unfold cutL; rw [ht, hk]; simp [hg], fun _ => zcS ex hk hg (hbr (.inl hg))⟩
   ·exact ⟨.opq 0 2, by unfold cutL; rw [ht, hk]; simp [hg], fun _ => .inl rfl⟩
 ·have := g0 b
  rw [z0x h3] at this
  exact absurd this h4
 ·have := g0 b
  rw [z0x h1] at this
  exact absurd this h2
 ·have hL : L b = some (.poly p q s d lo hi) := by
   cases ht : tget H b with
   | some k0 =>
    have e0 := hag.2 _ _ ht
    unfold cutL at h1
    rw [ht] at h1
    injection h1 with h1
    cases k0 with
    | poly => rw [e0]; exact congrArg some h1
    | cells n0 c0 g keep since mx =>
     exfalso
     simp only [cutK] at h1
     rw [z8] at h1
     split at h1
     ·cases h1
     ·rw [zf] at h1; split at h1 <;> cases h1
    | opq j ro =>
     exfalso
     simp only [cutK] at h1
     rw [z8] at h1
     split at h1 <;> cases h1
    | _ => simp [cutK] at h1
   | none =>
    unfold cutL at h1
    rw [ht] at h1
    cases hk : L b with
    | none => rw [hk] at h1; cases h1
    | some k =>
     rw [hk] at h1
     simp only at h1
     split at h1
     ·exact h1
     ·cases h1
  obtain ⟨z, hz⟩ := hpol b p q s d lo hi hL h2
  exact ⟨z, PolyZ.re (E := E) (k := E.kept) hz⟩
 ·obtain ⟨k0, h1, h2⟩ := hcut.2 b k hb
  unfold cutL
  rw [h1, h2]
 ·obtain ⟨h1, h2⟩ := hfr b hb
  refine ⟨?_, h2⟩
  unfold cutL
  cases ht : tget H b with
  | some k0 => have := hag.2 _ _ ht; rw [h1] at this; cases this
  | none => simp [h1]
end
end Go.Eng
namespace Go.Eng
open Go Go.RowKit
open Go.Conc
@[reducible] def noK (E : Env) : Env := keepK E fun _ => none
section
open Classical
noncomputable def frzO (o : Obj) : Obj := if o = junk then junk else match o with | .cells c t _ => .cells c t (0, c.size) | _ => junk
noncomputable def frz (s : Nat) (v : World) : World := { v with heap := v.heap.mapIdx fun i o => if i < s then frzO o else o }
noncomputable def junkIf (B : Nat → Prop) (v : World) : World := { v with heap := v.heap.mapIdx fun i o => if B i then junk else o }
theorem z4f (s : Nat) (v : World) (b : Nat) : (frz s v).heap[b]? = v.heap[b]?.map fun o => if b < s then frzO o else o := by unfold frz; simp
theorem z2W (B : Nat → Prop) (v : World) (b : Nat) : (junkIf B v).heap[b]? = v.heap[b]?.map fun o => if B b then junk else o := by unfold junkIf; simp
theorem zaR (s : Nat) (v : World) : (frz s v).heap.size = v.heap.size := by unfold frz; simp
theorem z2y (B : Nat → Prop) (v : World) : (junkIf B v).heap.size = v.heap.size := by unfold junkIf; simp
theorem zaS {s b : Nat} {v : World} (h : s ≤ b) : (frz s v).heap[b]? = v.heap[b]? := by
 rw [z4f]
 cases v.heap[b]? with
 | none => rfl
 | some o => simp [show ¬ b < s by omega]
theorem z2X {B : Nat → Prop} {b : Nat} {v : World} (h : ¬ B b) : (junkIf B v).heap[b]? = v.heap[b]? := by
 rw [z2W]
 cases v.heap[b]? with
 | none => rfl
 | some o => simp [h]
theorem z9g (o : Obj) : ¬ MineO (frzO o) := by
 unfold frzO
 split
 ·exact z2j
 ·split
  ·exact fun h => h.2 _ _ rfl
  ·exact z2j
theorem zcT {o : Obj} (h : ReadO (frzO o)) : ReadO o := by
 intro e; subst e; exact h (by unfold frzO; simp)
theorem zbB {c : Array Value} {t : TypeId} {fz : Nat × Nat} : ∃ fz', frzO (.cells c t fz) = .cells c t fz' := by
 unfold frzO
 split
 ·rename_i h; rw [← h]; exact ⟨_, rfl⟩
 ·exact ⟨_, rfl⟩
theorem z4g {s b : Nat} {v : World} (h : b < s) : ¬ MineAt (frz s v) b := by
 rintro ⟨o, h1, h2⟩
 rw [z4f] at h1
 obtain ⟨o', _, rfl⟩ := Option.map_eq_some_iff.1 h1
 rw [if_pos h] at h2
 exact z9g _ h2
theorem zdB {s b : Nat} {v : World} (h : MineAt (frz s v) b) : MineAt v b := by
 by_cases hs : b < s
 ·exact absurd h (z4g hs)
 ·obtain ⟨o, h1, h2⟩ := h
  rw [zaS (by omega)] at h1
  exact ⟨o, h1, h2⟩
theorem zaT {s b : Nat} {v : World} (h : ReadAt (frz s v) b) : ReadAt v b := by
 obtain ⟨o, h1, h2⟩ := h
 rw [z4f] at h1
 obtain ⟨o', h3, rfl⟩ := Option.map_eq_some_iff.1 h1
 refine ⟨o', h3, ?_⟩
 split at h2
 ·exact zcT h2
 ·exact h2
theorem z2z {B : Nat → Prop} {b : Nat} {v : World} (h : MineAt (junkIf B v) b) : MineAt v b ∧ ¬ B b := by
 obtain ⟨o, h1, h2⟩ := h
 rw [z2W] at h1
 obtain ⟨o', h3, rfl⟩ := Option.map_eq_some_iff.1 h1
 split at h2
 ·exact absurd h2 z2j
 ·rename_i hb; exact ⟨⟨o', h3, h2⟩, hb⟩
theorem z2a {B : Nat → Prop} {b : Nat} {v : World} (h : ReadAt (junkIf B v) b) : ReadAt v b ∧ ¬ B b := by
 obtain ⟨o, h1, h2⟩ := h
 rw [z2W] at h1
 obtain ⟨o', h3, rfl⟩ := Option.map_eq_some_iff.1 h1
 split at h2
 ·exact absurd h2 z4G
 ·rename_i hb; exact ⟨⟨o', h3, h2⟩, hb⟩
theorem View.frz {v w : World} (h : View v w) (s : Nat) : View (frz s v) w := by
 refine ⟨by rw [zaR]; exact h.size, fun b o O ho hO => ?_, h.os, h.tape, h.output, fun b o ho => ?_⟩
 ·rw [z4f] at ho
  obtain ⟨o', h1, rfl⟩ := Option.map_eq_some_iff.1 ho
  have ha := h.alike b o' O h1 hO
  split
  ·unfold frzO
   split
   ·exact .junk O
   ·rename_i hj
    cases ha with
    | junk => exact absurd rfl hj
    | same =>
     split
     ·exact .thaw _ _ _
     ·exact .junk _
    | thaw c t fz => exact .thaw c t fz
  ·exact ha
 ·rw [z4f] at ho
  obtain ⟨o', h1, rfl⟩ := Option.map_eq_some_iff.1 ho
  have hn := h.views b o' h1
  split
  ·unfold frzO
   split
   ·trivial
   ·split <;> trivial
  ·exact hn
theorem View.junkIf {v w : World} (h : View v w) (B : Nat → Prop) : View (junkIf B v) w := by
 refine ⟨by rw [z2y]; exact h.size, fun b o O ho hO => ?_, h.os, h.tape, h.output, fun b o ho => ?_⟩
 ·rw [z2W] at ho
  obtain ⟨o', h1, rfl⟩ := Option.map_eq_some_iff.1 ho
  split
  ·exact .junk O
  ·exact h.alike b o' O h1 hO
 ·rw [z2W] at ho
  obtain ⟨o', h1, rfl⟩ := Option.map_eq_some_iff.1 ho
  split
  ·trivial
  ·exact h.views b o' h1
noncomputable def phaseV (s Wg : Nat) (v : World) : World := frz s (junkIf (fun b => b = Wg) v)
noncomputable def phaseF (s : Nat) (v : World) : Nat → Option Obj := fun b => if b < s ∧ MineAt v b then v.heap[b]? else none
theorem phase_begin {ty : TypeId} {Wg s : Nat} {v : World} (hs : s ≤ Wg) (hw : v.heap[Wg]? = some (Go.ConcR.wgBlock ty 0 0)) : Begin ty Wg (phaseF s v) v (phaseV s Wg v) := by
 refine ⟨fun w h => (h.junkIf _).frz s, fun b h => (z2z (zdB h)).1, fun b h => (z2a (zaT h)).1, hw, fun h => (z2a (zaT h)).2 rfl, fun b o h => ?_⟩
 have h' : (if b < s ∧ MineAt v b then v.heap[b]? else none) = some o := h
 split at h'
 ·rename_i hc
  obtain ⟨o', h1, h2⟩ := hc.2
  rw [h1] at h'; injection h' with h'; subst h'
  exact ⟨h1, h2, by omega, fun hm => z4g hc.1 hm⟩
 ·cases h'
theorem zdC (B : Nat → Prop) (v : World) : Split v (junkIf B v) (junkIf (fun x => MineAt v x ∧ ¬ B x) v) := by
 refine ⟨fun w h => ⟨h.junkIf _, h.junkIf _⟩, fun b h => (z2z h).1, fun b h => (z2a h).1, fun b h => (z2z h).1, fun b h => (z2a h).1, ⟨fun b h hr => ?_, fun b h hr => ?_⟩⟩
 ·obtain ⟨h1, h2⟩ := z2z h
  exact (z2a hr).2 ⟨h1, h2⟩
 ·obtain ⟨h1, h2⟩ := z2z h
  obtain ⟨_, h3⟩ := z2a hr
  exact h2 ⟨h1, h3⟩
end
section
variable {E : Env} {base n : Nat} {H : Trie} {ρ : Rho} {L : Look} {w w' v : World}
theorem Ctx.reworld (c : @Ctx (noK E) base H n ρ L w) (hsz : w'.heap.size = w.heap.size) (h : ∀ j r k, ρ j = some r → live L j → L j = some k → k ≠ .gone → w'.heap[r.1]? = w.heap[r.1]?) : @Ctx (noK E) base H n ρ L w' := by
 letI : Env := noK E
 obtain ⟨hs, hag, hfr⟩ := c
 refine ⟨⟨fun b r hb => ?_, hs.sep, hs.same, hs.mx, hs.rw, hs.ro, fun b r hb => by rw [hsz]; exact hs.bnd b r hb, by rw [hsz]; exact hs.bs, hs.ld, hs.kind, hs.pol, hs.rk, fun k o hk => by cases hk⟩, hag, hfr⟩
 obtain ⟨k, hk, hbr⟩ := hs.blk b r hb
 refine ⟨k, hk, fun hl => ?_⟩
 by_cases hg : k = .gone
 ·subst hg; trivial
 ·exact (hbr hl).mono0 (.refl _ _) (h b r k hb hl hk hg)
theorem Ctx.phase {kp : Nat → Option Obj} {s Wg bw sz : Nat} (c : @Ctx (keepK E kp) base H n ρ L v) (hkp : ∀ k, kp k = none ↔ s ≤ k) (hbs : base ≤ s) (hs : s ≤ v.heap.size) (hb : ρ bw = some (Wg, 0, sz)) (hget : tget H bw = some .gone) :
  @Ctx (noK E) s H n ρ L (phaseV s Wg v) := by
 obtain ⟨hS, hag, hfr⟩ := c
 have hL := hag.2 _ _ hget
 have hWs : s ≤ Wg := by
  letI : Env := keepK E kp
  have h1 := hS.rk bw _ hb (by simp [grp, hL])
  exact (hkp Wg).1 h1
 have hap : ∀ j r k, ρ j = some r → live L j → L j = some k → k ≠ .gone → r.1 ≠ Wg := by
  letI : Env := keepK E kp
  intro j r k hj hl hk hne he
  have hlw : live L bw := NoRow.live (k := .gone) trivial hL
  have hgw : grp L bw = bw + 1 := by simp [grp, hL]
  by_cases h0 : grp L j = 0
  ·exact hS.apart hj h0 hb (by rw [hgw]; omega) he
  ·refine hS.sep j bw r _ hj hb hl hlw h0 (by rw [hgw]; omega) ?_ he
   rw [hgw]
   intro hg
   have hjb : j ≠ bw := fun e => by subst e; rw [hL] at hk; injection hk with hk; exact hne hk.symm
   cases k with
   | cells nj cj gj kj sj mj =>
    rw [z0x hk] at hg h0
    obtain ⟨_, _, _, _, _, hk2⟩ := hS.kind j _ _ _ _ _ _ hk h0
    rw [hg, Nat.add_sub_cancel, hL] at hk2
    cases hk2
   | box => simp [grp, hk] at h0
   | poly => simp [grp, hk] at h0
   | opq =>
    simp only [grp, hk] at hg
    split at hg
    ·exact hjb (by omega)
    ·omega
   | _ => simp [grp, hk] at hg; exact hjb hg
 obtain ⟨hblk, hsep, hsame, hmx, hrw, hro, hbnd, hbs', hld, hkind, hpol, hrk, hkp'⟩ := hS
 have hhi : ∀ b r, ρ b = some r → grp L b ≠ 0 → s ≤ r.1 := fun b r h1 h2 => (hkp r.1).1 (hrk b r h1 h2)
 have hlo : ∀ b r, ρ b = some r → grp L b = 0 → r.1 < s := fun b r h1 h2 => by
  rcases hro b r h1 h2 with h3 | ⟨o, h3⟩
  ·omega
  ·rcases Nat.lt_or_ge r.1 s with h4 | h4
   ·exact h4
   ·have h5 := (hkp r.1).2 h4; have h6 : kp r.1 = some o := h3; rw [h5] at h6; cases h6
 have hsize : (phaseV s Wg v).heap.size = v.heap.size := by unfold phaseV; rw [zaR, z2y]
 letI : Env := noK E
 refine ⟨⟨fun b r h1 => ?_, hsep, hsame, hmx, hhi, fun b r h1 h2 => .inl (hlo b r h1 h2), fun b r h1 => by rw [hsize]; exact hbnd b r h1, by rw [hsize]; exact hs, hld, hkind, fun b p q s d lo hi h1 h2 => ?_, fun b r h1 h2 => rfl, fun k o h => by cases h⟩, hag, hfr⟩
 ·obtain ⟨k, hk, hbr⟩ := hblk b r h1
  refine ⟨k, hk, fun hl => ?_⟩
  by_cases hgn : k = .gone
  ·subst hgn; trivial
  have hne := hap b r k h1 hl hk hgn
  by_cases h0 : grp L b = 0
  ·have hlt := hlo b r h1 h0
   have hz := (z1Z hk).1 h0
   have hB := hbr hl
   have get : ∀ cs ty fz, v.heap[r.1]? = some (.cells cs ty fz) → ∃ fz', (phaseV s Wg v).heap[r.1]? = some (.cells cs ty fz') := fun cs ty fz he => by
    unfold phaseV
    rw [z4f, z2X (B := fun b => b = Wg) (v := v) hne, he]
    obtain ⟨fz', hf⟩ := zbB (c := cs) (t := ty) (fz := fz)
    exact ⟨fz', by simp [hlt, hf]⟩
   cases k with
   | cells n' c' g keep since maxl =>
    obtain ⟨cs, ty, fz, q1, q2, q3, q4, q5⟩ := hB
    obtain ⟨fz', hf⟩ := get cs ty fz q1
    exact ⟨cs, ty, fz', hf, q2, q3, fun h => absurd hz h, fun i hi => let ⟨x, a, b, d⟩ := q5 i hi; ⟨x, a, VR.re (E := E) (Ex3.refl ρ L) b, d⟩⟩
   | opq j ro =>
    rcases hB with h | ⟨cs, ty, fz, q1, q2, q3, q4, q5⟩
    ·exact .inl h
    ·obtain ⟨fz', hf⟩ := get cs ty fz q1
     exact .inr ⟨cs, ty, fz', hf, q2, q3, fun h => absurd h hz, q5⟩
   | box => exact hB.elim
   | poly => exact hB.elim
   | _ => exact hz.elim
  ·have hge := hhi b r h1 h0
   refine BR.re (E := E) (Ex3.refl ρ L) (fun _ h => h) ?_ (hbr hl)
   unfold phaseV
   rw [zaS hge, z2X (B := fun b => b = Wg) (v := v) hne]
 ·obtain ⟨z, hz⟩ := hpol b p q s d lo hi h1 h2
  exact ⟨z, PolyZ.re (E := E) hz⟩
end
end Go.Eng
namespace Go.Eng
open Go Go.RowKit
open Go.Conc
noncomputable section
inductive OB where
 | some (k : Blk)
 | none
inductive OH where
 | ok (H : Trie)
 | no (q : Nat)
def killK (b nx : Nat) : Blk → OB
 | .cells m c g _ _ mx => sel (Nat.beq g (Nat.succ b)) (.some (.cells m c g nx nx mx)) .none
 | .chn .. => .some .gone
 | .gone => .some .gone
 | .box a m c => .some (.box a m c)
 | .poly p q s d lo hi => .some (.poly p q s d lo hi)
 | _ => .none
def killH (nx a m : Nat) (H : Trie) : OH :=
 Nat.rec (motive := fun _ => OH) (.ok H) (fun i ih => match ih with
  | .ok H' => (match tget H' (Nat.add a i) with
   | some k => (match killK (Nat.add a i) nx k with | .some k' => .ok (hset H' (Nat.add a i) k') | .none => .no 401)
   | none => .no 402)
  | .no q => .no q) m
end
section
variable [E : Env]
variable {base n : Nat} {H : Trie} {ρ : Rho} {L : Look} {w : World}
theorem Sim.turn {b : Nat} {k0 k1 : Blk} (hs : Sim base ρ L w) (h0 : L b = some k0) (e : Ext0 ρ L ρ (upd L b k1)) (hg : ∀ j, grp (upd L b k1) j = grp L j) (hl : ∀ j, live (upd L b k1) j → live L j) (hi : ∀ j, (info (upd L b k1) j).2.2 = (info L j).2.2)
  (hbr : ∀ r, ρ b = some r → live (upd L b k1) b → BR ρ (upd L b k1) w r k1) (hc : ∀ m c g ks s mx, k1 = .cells m c g ks s mx → ∃ m' c' ks' s' mx', k0 = .cells m' c' g ks' s' mx' ∧ m' = m)
  (hc' : ∀ m c g ks s mx, k0 = .cells m c g ks s mx → ∃ m' c' ks' s' mx', k1 = .cells m' c' g ks' s' mx') (hp : ∀ p q s d lo hi, k1 ≠ .poly p q s d lo hi) : Sim base ρ (upd L b k1) w := by
 refine ⟨fun j r hj => ?_, fun j j' q q' hj hj' a1 a2 a3 a4 a5 => ?_, fun j j' q q' hj hj' a1 a2 a3 a4 a5 => ?_, fun j q m c g k s mm hj a1 a2 a3 => ?_, fun j q hj h => ?_, fun j q hj h => ?_, hs.bnd, hs.bs, fun j q hj h => ?_, fun j m c g k s mm a1 a2 => ?_, fun j p q s d lo hi a1 a2 => ?_, fun j q hj h => ?_, hs.kp⟩
 ·by_cases hjb : j = b
  ·subst hjb; exact ⟨k1, upd_same _ _ _, hbr r hj⟩
  ·obtain ⟨k, hk, hb⟩ := hs.blk j r hj
   exact ⟨k, by rw [upd_ne _ _ hjb]; exact hk, fun h => (hb (hl j h)).mono0 e rfl⟩
 ·rw [hg] at a3 a4 a5; rw [hg] at a5; exact hs.sep j j' q q' hj hj' (hl j a1) (hl j' a2) a3 a4 a5
 ·rw [hg] at a3 a4; rw [hg] at a4; exact hs.same j j' q q' hj hj' (hl j a1) (hl j' a2) a3 a4 a5
 ·rw [hi]
  by_cases hjb : j = b
  ·subst hjb
   rw [upd_same] at a2; injection a2 with a2
   obtain ⟨m', c', ks', s', mx', hk, e1⟩ := hc _ _ _ _ _ _ a2
   subst e1
   exact hs.mx j q m' c' g ks' s' mx' hj (hl j a1) (by rw [h0, hk]) a3
  ·rw [upd_ne _ _ hjb] at a2; exact hs.mx j q m c g k s mm hj (hl j a1) a2 a3
 ·rw [hg] at h; exact hs.rw j q hj h
 ·rw [hg] at h; exact hs.ro j q hj h
 ·rw [hg] at h ⊢; rw [hg]; exact hs.ld j q hj h
 ·have key : ∃ n' c' k' s' m', L (g - 1) = some (.cells n' c' g k' s' m') := by
   by_cases hjb : j = b
   ·subst hjb
    rw [upd_same] at a1; injection a1 with a1
    obtain ⟨m', c', ks', s', mx', hk, _⟩ := hc _ _ _ _ _ _ a1
    exact hs.kind j _ _ _ _ _ _ (by rw [h0, hk]) a2
   ·rw [upd_ne _ _ hjb] at a1; exact hs.kind j _ _ _ _ _ _ a1 a2
  obtain ⟨n', c', k', s', m', hk⟩ := key
  by_cases hgb : g - 1 = b
  ·rw [hgb] at hk ⊢
   rw [h0] at hk; injection hk with hk
   obtain ⟨m'', c'', ks', s'', mx', hk1⟩ := hc' _ _ _ _ _ _ hk
   exact ⟨_, _, _, _, _, by rw [upd_same, hk1]⟩
  ·exact ⟨n', c', k', s', m', by rw [upd_ne _ _ hgb]; exact hk⟩
 ·by_cases hjb : j = b
  ·subst hjb; rw [upd_same] at a1; injection a1 with a1; exact absurd a1 (hp _ _ _ _ _ _)
  ·rw [upd_ne _ _ hjb] at a1; exact hs.pol j p q s d lo hi a1 a2
 ·rw [hg] at h; exact hs.rk j q hj h
structure Killed (n a m : Nat) (ρ : Rho) (L L' : Look) : Prop where
 ext : Ext ρ L ρ L'
 out : ∀ b, ¬ (a ≤ b ∧ b < a + m) → L' b = L b
 grp : ∀ b, grp L' b = grp L b
 live : ∀ b, live L' b → live L b
 dead : ∀ b, a ≤ b → b < a + m → ∀ m c g ks s mx, L b = some (.cells m c g ks s mx) → g = b + 1 ∧ (info L' b).1 = n ∧ (info L' b).2.1 = n
 gone : ∀ b r, a ≤ b → b < a + m → ρ b = some r → L' b = some .gone ∨ ¬ Eng.live L' b
 kinds : ∀ b, a ≤ b → b < a + m → ∃ k, L b = some k ∧ (Eng.grp L b = b + 1 ∨ Eng.grp L b = 0 ∧ ((∃ x y z, k = .box x y z) ∨ ∃ p q s d lo hi, k = .poly p q s d lo hi))
theorem z4h (c : Ctx base H n ρ L w) {a : Nat} : ∀ (m : Nat) {H' : Trie}, killH n a m H = .ok H' → ∃ L', Ctx base H' n ρ L' w ∧ Killed n a m ρ L L'
 | 0, H', h => by
  have e : killH n a 0 H = .ok H := rfl
  rw [e] at h; injection h with h; subst h
  exact ⟨L, c, ⟨.refl _ _, fun _ _ => rfl, fun _ => rfl, fun _ h => h, fun b h1 h2 => by omega, fun b r h1 h2 => by omega, fun b h1 h2 => by omega⟩⟩
 | m + 1, H', h => by
  have e : killH n a (m + 1) H = (match killH n a m H with
   | .ok H' => (match tget H' (Nat.add a m) with
    | some k => (match killK (Nat.add a m) n k with | .some k' => .ok (hset H' (Nat.add a m) k') | .none => .no 401)
    | none => .no 402)
   | .no q => .no q) := rfl
  rw [e] at h
  split at h
  ·rename_i H1 h1
   obtain ⟨L1, c1, K⟩ := z4h c m h1
   split at h
   ·rename_i k hget
    have eb : Nat.add a m = a + m := rfl
    rw [eb] at h hget
    have hL1 := c1.agree.2 _ _ hget
    have hL : L (a + m) = some k := by rw [← K.out (a + m) (by omega)]; exact hL1
    have hlt : a + m < n := c1.fresh.ltL hL1
    have h16 : a + m < 16384 := by letI := pad0; exact c1.agree.lt hget
    have keep : ∀ {k' : Blk}, Ctx base (hset H1 (a + m) k') n ρ (upd L1 (a + m) k') w → Ext ρ L1 ρ (upd L1 (a + m) k') → (∀ b, grp (upd L1 (a + m) k') b = grp L1 b) → (∀ b, live (upd L1 (a + m) k') b → live L1 b) → (∀ b, b ≠ a + m → info (upd L1 (a + m) k') b = info L1 b) →
      (∀ x c g ks s mx, k = .cells x c g ks s mx → g = a + m + 1 ∧ (info (upd L1 (a + m) k') (a + m)).1 = n ∧ (info (upd L1 (a + m) k') (a + m)).2.1 = n) → (∀ r, ρ (a + m) = some r → k' = .gone ∨ ¬ live (upd L1 (a + m) k') (a + m)) →
      (grp L (a + m) = a + m + 1 ∨ grp L (a + m) = 0 ∧ ((∃ x y z, k = .box x y z) ∨ ∃ p q s d lo hi, k = .poly p q s d lo hi)) → ∃ L', Ctx base (hset H1 (a + m) k') n ρ L' w ∧ Killed n a (m + 1) ρ L L' := by
     intro k' c' e' g' l' i' d' gn kd
     refine ⟨_, c', ⟨K.ext.trans e', fun b hb => ?_, fun b => (g' b).trans (K.grp b), fun b hb => K.live b (l' b hb), fun b b1 b2 x c g ks s mx hb => ?_, fun b r b1 b2 hb => ?_, fun b b1 b2 => ?_⟩⟩
     ·rw [upd_ne _ _ (by omega)]; exact K.out b (by omega)
     ·by_cases hbm : b = a + m
      ·subst hbm
       rw [hL] at hb; injection hb with hb
       exact d' _ _ _ _ _ _ hb
      ·obtain ⟨q1, q2, q3⟩ := K.dead b b1 (by omega) _ _ _ _ _ _ hb
       exact ⟨q1, by rw [i' b hbm]; exact q2, by rw [i' b hbm]; exact q3⟩
     ·by_cases hbm : b = a + m
      ·subst hbm
       rcases gn r hb with h1 | h1
       ·exact .inl (by rw [upd_same, h1])
       ·exact .inr h1
      ·rcases K.gone b r b1 (by omega) hb with h1 | h1
       ·exact .inl (by rw [upd_ne _ _ hbm]; exact h1)
       ·exact .inr fun h2 => h1 (l' b h2)
     ·by_cases hbm : b = a + m
      ·subst hbm; exact ⟨k, hL, kd⟩
      ·exact K.kinds b b1 (by omega)
    have fr : ∀ {k' : Blk}, Fresh n ρ (upd L1 (a + m) k') := fun j hj => ⟨by rw [upd_ne _ _ (by omega)]; exact (c1.fresh j hj).1, (c1.fresh j hj).2⟩
    have same : upd L1 (a + m) k = L1 := by
     funext j
     by_cases hj : j = a + m
     ·subst hj; rw [upd_same, hL1]
     ·rw [upd_ne _ _ hj]
    have gone : ∀ (hnr : NoRow k), (∀ a b, k ≠ .opq a b) → k ≠ .defr → OH.ok (hset H1 (a + m) .gone) = .ok H' → ∃ L', Ctx base H' n ρ L' w ∧ Killed n a (m + 1) ρ L L' := by
     intro hnr hno hnd h
     injection h with h; subst h
     have gg : ∀ j, grp (upd L1 (a + m) .gone) j = grp L1 j := fun j => by
      by_cases hj : j = a + m
      ·subst hj; rw [NoRow.grp (k := .gone) trivial (upd_same _ _ _), hnr.grp hL1]
      ·exact z1n hj
     have ii : ∀ j, info (upd L1 (a + m) .gone) j = info L1 j := fun j => by
      by_cases hj : j = a + m
      ·subst hj; rw [NoRow.info (k := .gone) trivial (upd_same _ _ _), hnr.info hL1]
      ·exact z0K hj
     have ll : ∀ j, live (upd L1 (a + m) .gone) j → live L1 j := fun j hj => by unfold live at hj ⊢; rw [gg, ii] at hj; exact hj
     have e1 : Ext ρ L1 ρ (upd L1 (a + m) .gone) := by
      have ne : ∀ j (q : Blk), L1 j = some q → q ≠ k → j ≠ a + m := fun j q hj hq hjb => by
       subst hjb; rw [hL1] at hj; injection hj with hj; exact hq hj.symm
      refine ⟨⟨fun _ _ h => h, fun j kd q c hj => ?_, fun j p q s d lo hi hj => ?_, fun j hj => ?_⟩, fun j hj => ?_⟩
      ·rw [upd_ne _ _ (ne j _ hj (fun h => by rw [← h] at hnr; exact hnr))]; exact hj
      ·rw [upd_ne _ _ (ne j _ hj (fun h => by rw [← h] at hnr; exact hnr))]; exact hj
      ·by_cases hjb : j = a + m
       ·subst hjb; right; exact upd_same _ _ _
       ·unfold IsDf; rw [upd_ne _ _ hjb]; exact hj
      ·rw [upd_ne _ _ (ne j _ hj (fun h => hnd h.symm))]; exact hj
     refine keep ⟨c1.sim.turn hL1 e1.toExt0 gg ll (fun j => by rw [ii]) (fun _ _ _ => trivial) (fun _ _ _ _ _ _ h => by cases h) (fun _ _ _ _ _ _ h => by rw [h] at hnr; exact hnr.elim) (fun _ _ _ _ _ _ h => by cases h), c1.agree.hset h16 _, fr⟩ e1 gg ll (fun j _ => ii j)
      (fun _ _ _ _ _ _ h => by rw [h] at hnr; exact hnr.elim) (fun _ _ => .inl rfl) (.inl (hnr.grp hL))
    cases k with
    | cells x c0 g ks s mx =>
     simp only [killK] at h
     rw [z8] at h
     split at h
     ·rename_i k' hk'
      split at hk'
      ·rename_i hg
       have hg : g = a + m + 1 := hg
       subst hg
       injection hk' with hk'
       subst hk'
       injection h with h
       subst h
       have gg : ∀ j, grp (upd L1 (a + m) (.cells x c0 (a + m + 1) n n mx)) j = grp L1 j := fun j => by
        by_cases hj : j = a + m
        ·subst hj; rw [z0x (upd_same _ _ _), z0x hL1]
        ·exact z1n hj
       have i1 : info (upd L1 (a + m) (.cells x c0 (a + m + 1) n n mx)) (a + m) = (n, n, mx) := by simp [info, upd_same]
       have ll : ∀ j, live (upd L1 (a + m) (.cells x c0 (a + m + 1) n n mx)) j → live L1 j := fun j hj => by
        unfold live at hj
        rw [gg] at hj
        by_cases h0 : grp L1 j = 0
        ·exact .inl h0
        by_cases hgj : grp L1 j - 1 = a + m
        ·rw [hgj, i1] at hj
         have hjn : j < n := by
          cases hLj : L1 j with
          | none => exact absurd (by simp [grp, hLj]) h0
          | some q => exact c1.fresh.ltL hLj
         rcases hj with hj | hj | hj
         ·exact .inl hj
         ·have : n = j := hj; omega
         ·have : n ≤ j := hj; omega
        ·rw [z0K hgj] at hj; exact hj
       have e1 : Ext ρ L1 ρ (upd L1 (a + m) (.cells x c0 (a + m + 1) n n mx)) := by
        have ne : ∀ j (q : Blk), L1 j = some q → (∀ a b c d e f, q ≠ .cells a b c d e f) → j ≠ a + m := fun j q hj hq hjb => by
         subst hjb; rw [hL1] at hj; injection hj with hj; exact hq _ _ _ _ _ _ hj.symm
        refine ⟨⟨fun _ _ h => h, fun j kd q c hj => ?_, fun j p q s d lo hi hj => ?_, fun j hj => ?_⟩, fun j hj => ?_⟩
        ·rw [upd_ne _ _ (ne j _ hj (by intros; simp))]; exact hj
        ·rw [upd_ne _ _ (ne j _ hj (by intros; simp))]; exact hj
        ·rcases hj with hj | hj
         ·left; rw [upd_ne _ _ (ne j _ hj (by intros; simp))]; exact hj
         ·right; rw [upd_ne _ _ (ne j _ hj (by intros; simp))]; exact hj
        ·rw [upd_ne _ _ (ne j _ hj (by intros; simp))]; exact hj
       have nl : ¬ live (upd L1 (a + m) (.cells x c0 (a + m + 1) n n mx)) (a + m) := by
        unfold live
        rw [z0x (upd_same _ _ _), Nat.add_sub_cancel, i1]
        rintro (h1 | h1 | h1)
        ·omega
        ·have : n = a + m := h1; omega
        ·have : n ≤ a + m := h1; omega
       refine keep ⟨c1.sim.turn hL1 e1.toExt0 gg ll (fun j => ?_) (fun _ _ h => absurd h nl) (fun _ _ _ _ _ _ h => by injection h with h1 h2 h3; subst h1; subst h3; exact ⟨_, _, _, _, _, rfl, rfl⟩) (fun _ _ _ _ _ _ h => by injection h with h1 h2 h3; subst h3; exact ⟨_, _, _, _, _, rfl⟩) (fun _ _ _ _ _ _ h => by cases h), c1.agree.hset h16 _, fr⟩ e1 gg ll (fun j hj => z0K hj)
        (fun _ _ _ _ _ _ h => by injection h with h1 h2 h3; exact ⟨h3.symm, by rw [i1], by rw [i1]⟩) (fun _ _ => .inr nl) (.inl (z0x hL))
       by_cases hj : j = a + m
       ·subst hj; rw [i1]; simp [info, hL1]
       ·rw [z0K hj]
      ·cases hk'
     ·cases h
    | chn cap es cl => exact gone trivial (by intros; simp) (by simp) h
    | gone => exact gone trivial (by intros; simp) (by simp) h
    | box a' m' c' =>
     simp only [killK] at h
     injection h with h; subst h
     have hg0 : grp L (a + m) = 0 := by simp [grp, hL]
     refine keep ⟨by rw [same]; exact c1.sim, c1.agree.hset h16 _, fr⟩ (by rw [same]; exact .refl _ _) (fun _ => by rw [same]) (fun _ h => by rw [same] at h; exact h) (fun _ _ => by rw [same]) (fun _ _ _ _ _ _ h => by cases h) (fun r hr => ?_) (.inr ⟨hg0, .inl ⟨_, _, _, rfl⟩⟩)
     obtain ⟨k2, hk2, hb2⟩ := c1.sim.blk _ r hr
     rw [hL1] at hk2; injection hk2 with hk2; subst hk2
     exact (hb2 (.inl (by simp [grp, hL1]))).elim
    | poly p q s d lo hi =>
     simp only [killK] at h
     injection h with h; subst h
     have hg0 : grp L (a + m) = 0 := by simp [grp, hL]
     refine keep ⟨by rw [same]; exact c1.sim, c1.agree.hset h16 _, fr⟩ (by rw [same]; exact .refl _ _) (fun _ => by rw [same]) (fun _ h => by rw [same] at h; exact h) (fun _ _ => by rw [same]) (fun _ _ _ _ _ _ h => by cases h) (fun r hr => ?_) (.inr ⟨hg0, .inr ⟨_, _, _, _, _, _, rfl⟩⟩)
     obtain ⟨k2, hk2, hb2⟩ := c1.sim.blk _ r hr
     rw [hL1] at hk2; injection hk2 with hk2; subst hk2
     exact (hb2 (.inl (by simp [grp, hL1]))).elim
    | _ => cases h
   ·cases h
  ·cases h
end
end Go.Eng
namespace Go.Eng
open Go Go.RowKit
open Go.Conc
def Bof (ni : Nat) (ρ : Rho) (L : Look) : Nat → Prop := fun x => ∃ j r, ni ≤ j ∧ ρ j = some r ∧ live L j ∧ grp L j ≠ 0 ∧ r.1 = x
section
variable {E : Env} {base n : Nat} {H H' : Trie} {ρ : Rho} {L : Look} {v : World}
theorem za1 (c : @Ctx (noK E) base H n ρ L v) {ni : Nat} (hni : ni ≤ n) (h : killH n ni (n - ni) H = .ok H') : ∃ L', @Ctx (noK E) base H' n ρ L' (junkIf (Bof ni ρ L) v) ∧ Killed n ni (n - ni) ρ L L' := by
 letI : Env := noK E
 obtain ⟨L', c', K⟩ := z4h c (n - ni) h
 refine ⟨L', Ctx.reworld (E := E) c' (z2y _ _) (fun j r k hj hl hk hne => z2X ?_), K⟩
 rintro ⟨j2, r2, h1, h2, h3, h4, h5⟩
 have hjn : j < n := c.fresh.lt hj
 have hj2n : j2 < n := c.fresh.lt h2
 have hji : j < ni := by
  rcases Nat.lt_or_ge j ni with h6 | h6
  ·exact h6
  ·rcases K.gone j r h6 (by omega) hj with h7 | h7
   ·rw [h7] at hk; injection hk with hk; exact absurd hk.symm hne
   ·exact absurd hl h7
 have hkL : L j = some k := by rw [← K.out j (by omega)]; exact hk
 have hlL := K.live j hl
 by_cases h0 : grp L j = 0
 ·exact c.sim.apart hj h0 h2 h4 h5.symm
 ·obtain ⟨k2, hk2, hg2⟩ := K.kinds j2 h1 (by omega)
  have hg2' : grp L j2 = j2 + 1 := hg2.elim id fun h => absurd h.1 h4
  by_cases hgg : grp L j = grp L j2
  ·rw [hg2'] at hgg
   cases k with
   | cells m0 c0 g0 ks s0 mx =>
    have hg0 : g0 = j2 + 1 := by rw [← z0x hkL]; exact hgg
    obtain ⟨_, _, _, _, _, hk3⟩ := c.sim.kind j _ _ _ _ _ _ hkL (by omega)
    rw [hg0, Nat.add_sub_cancel] at hk3
    obtain ⟨_, d1, d2⟩ := K.dead j2 h1 (by omega) _ _ _ _ _ _ hk3
    unfold live at hl
    rw [K.grp, hgg, Nat.add_sub_cancel, d1, d2] at hl
    omega
   | box => simp [grp, hkL] at h0
   | poly => simp [grp, hkL] at h0
   | opq a b =>
    simp only [grp, hkL] at hgg
    split at hgg <;> omega
   | loop => simp [grp, hkL] at hgg; omega
   | defr => simp [grp, hkL] at hgg; omega
   | gone => simp [grp, hkL] at hgg; omega
   | mp => simp [grp, hkL] at hgg; omega
   | chn => simp [grp, hkL] at hgg; omega
  ·exact c.sim.sep j j2 r r2 hj h2 hlL h3 h0 h4 hgg h5.symm
theorem zbC (c : @Ctx (noK E) base H n ρ L v) {n0 ni : Nat} (hni : n0 ≤ ni) (h : killH n n0 (ni - n0) H = .ok H') (hlow : ∀ j r, j < n0 → ρ j = some r → r.1 < base) (hfrz : ∀ x, x < base → ¬ MineAt v x) :
  ∃ L', @Ctx (noK E) base H' n ρ L' (junkIf (fun x => MineAt v x ∧ ¬ Bof ni ρ L x) v) ∧ Killed n n0 (ni - n0) ρ L L' := by
 letI : Env := noK E
 obtain ⟨L', c', K⟩ := z4h c (ni - n0) h
 refine ⟨L', Ctx.reworld (E := E) c' (z2y _ _) (fun j r k hj hl hk hne => z2X ?_), K⟩
 rintro ⟨h1, h2⟩
 have hlo : ¬ r.1 < base := fun h => hfrz _ h h1
 rcases Nat.lt_or_ge j n0 with h3 | h3
 ·exact hlo (hlow j r h3 hj)
 rcases Nat.lt_or_ge j ni with h4 | h4
 ·rcases K.gone j r h3 (by omega) hj with h7 | h7
  ·rw [h7] at hk; injection hk with hk; exact absurd hk.symm hne
  ·exact absurd hl h7
 ·by_cases h0 : grp L j = 0
  ·rcases c.sim.ro j r hj h0 with h5 | ⟨o, h5⟩
   ·exact hlo h5
   ·cases h5
  ·exact h2 ⟨j, r, h4, hj, K.live j hl, h0, rfl⟩
end
noncomputable section
def okJ (j : Nat) : Blk → Bool
 | .cells _ _ g _ _ _ => Nat.beq g (Nat.succ j)
 | .gone => true
 | .box .. => true
 | .poly .. => true
 | _ => false
def joinH (H2 : Trie) (a m : Nat) (H : Trie) : OH :=
 Nat.rec (motive := fun _ => OH) (.ok H) (fun i ih => match ih with
  | .ok H' => (match tget H2 (Nat.add a i) with | some k => sel (okJ (Nat.add a i) k) (.ok (hset H' (Nat.add a i) k)) (.no 411) | none => .no 412)
  | .no q => .no q) m
def joinL (n0 : Nat) (LA L2 : Look) (K : Nat → Option Blk) : Look := fun b => if b < n0 then LA b else (match K b with | some k => some k | none => L2 b)
def chansH (acc : List (Nat × Nat × List Nat)) (H : Trie) : Trie := List.rec (motive := fun _ => Trie → Trie) (fun H => H) (fun a _ ih H => ih (hset H a.1 (.chn a.2.1 a.2.2 1))) acc H
end
theorem z9h (E : Env) {H2 HA : Trie} {a : Nat} (hd : Dep 14 HA) (h16 : ∀ b k, tget H2 b = some k → b < 16384) (hlo : ∀ b k, tget HA b = some k → b < a) : ∀ (m : Nat) {H : Trie}, joinH H2 a m HA = .ok H →
  Dep 14 H ∧ (∀ b k, tget H b = some k → (b < a ∧ tget HA b = some k) ∨ (a ≤ b ∧ b < a + m ∧ tget H2 b = some k)) ∧ ∀ b, a ≤ b → b < a + m → ∃ k, tget H2 b = some k ∧ okJ b k = true
 | 0, H, h => by
  have e : joinH H2 a 0 HA = .ok HA := rfl
  rw [e] at h; injection h with h; subst h
  exact ⟨hd, fun b k hb => .inl ⟨hlo b k hb, hb⟩, fun b h1 h2 => by omega⟩
 | m + 1, H, h => by
  have e : joinH H2 a (m + 1) HA = (match joinH H2 a m HA with
   | .ok H' => (match tget H2 (Nat.add a m) with | some k => sel (okJ (Nat.add a m) k) (.ok (hset H' (Nat.add a m) k)) (.no 411) | none => .no 412)
   | .no q => .no q) := rfl
  rw [e] at h
  split at h
  ·rename_i H1 h1
   obtain ⟨d1, g1, k1⟩ := z9h E hd h16 hlo m h1
   split at h
   ·rename_i k hget
    rw [zf] at h
    split at h
    ·rename_i hok
     injection h with h; subst h
     have eb : Nat.add a m = a + m := rfl
     rw [eb] at hget hok ⊢
     refine ⟨z5r _ _ _ _ d1, fun b k' hb => ?_, fun b b1 b2 => ?_⟩
     ·rw [z1d d1 (h16 _ _ hget)] at hb
      split at hb
      ·rename_i e; subst e
       injection hb with hb; subst hb
       exact .inr ⟨by omega, by omega, hget⟩
      ·rcases g1 b k' hb with h2 | ⟨h2, h3, h4⟩
       ·exact .inl h2
       ·exact .inr ⟨h2, by omega, h4⟩
     ·by_cases hb : b = a + m
      ·subst hb; exact ⟨k, hget, hok⟩
      ·exact k1 b b1 (by omega)
    ·cases h
   ·cases h
  ·cases h
theorem zdD {H : Trie} {L : Look} {b : Nat} (ha : ∀ k, tget H b = some k → L b = some k) {q : Blk} (hq : (∃ a m c, q = .box a m c) ∨ ∃ p x s d lo hi, q = .poly p x s d lo hi) (h : cutL H L b = some q) : L b = some q := by
 have nc : ∀ n c g k s m, q ≠ .cells n c g k s m := by
  intro n c g k s m e
  rcases hq with ⟨_, _, _, rfl⟩ | ⟨_, _, _, _, _, _, rfl⟩ <;> cases e
 have no : ∀ j r, q ≠ .opq j r := by
  intro j r e
  rcases hq with ⟨_, _, _, rfl⟩ | ⟨_, _, _, _, _, _, rfl⟩ <;> cases e
 unfold cutL at h
 cases ht : tget H b with
 | some k0 =>
  have e0 := ha _ ht
  rw [ht] at h
  injection h with h
  rw [e0]
  cases k0 with
  | cells n0 c0 g keep since mx =>
   exfalso
   simp only [cutK] at h
   rw [z8] at h
   split at h
   ·exact nc _ _ _ _ _ _ h.symm
   ·rw [zf] at h
    split at h
    ·exact nc _ _ _ _ _ _ h.symm
    ·exact no _ _ h.symm
  | opq j ro =>
   exfalso
   simp only [cutK] at h
   rw [z8] at h
   split at h <;> exact no _ _ h.symm
  | box => exact congrArg some h
  | poly => exact congrArg some h
  | _ => exact absurd h.symm (no _ _)
 | none =>
  rw [ht] at h
  cases hk : L b with
  | none => rw [hk] at h; cases h
  | some k =>
   rw [hk] at h
   simp only at h
   split at h
   ·exact h
   ·injection h with h; exact absurd h.symm (no _ _)
section
variable {E : Env}
theorem Ctx.restore {base s n0 n2 : Nat} {HA H2 Hf : Trie} {ρA ρ2 : Rho} {LA L2 : Look} {w v2 v : World} (cA : @Ctx E base HA n0 ρA LA w) (c2 : @Ctx (noK E) s H2 n2 ρ2 L2 v2) (hs : s = w.heap.size) (ex : Ex3 ρA (cutL HA LA) ρ2 L2)
  (bare : ∀ b, b < n0 → ρA b = none → L2 b = cutL HA LA b ∧ ρ2 b = none) (hn : n0 ≤ n2) (hj : joinH H2 n0 (n2 - n0) HA = .ok Hf) (hsz : v2.heap.size ≤ v.heap.size) (hlo : ∀ b, b < s → v.heap[b]? = w.heap[b]?)
  (hhi : ∀ j r k, ρ2 j = some r → live L2 j → L2 j = some k → k ≠ .gone → s ≤ r.1 → v.heap[r.1]? = v2.heap[r.1]?)
  {K : Nat → Option Blk} {Hg : Trie} (hK : ∀ b k, K b = some k → n0 ≤ b ∧ L2 b = some .gone ∧ (∃ cap es cl, k = .chn cap es cl) ∧ ∀ r, ρ2 b = some r → ∀ L', @BR E ρ2 L' v r k)
  (hg : Dep 14 Hf → Dep 14 Hg ∧ ∀ b k, tget Hg b = some k → K b = some k ∨ (K b = none ∧ tget Hf b = some k)) : @Ctx E base Hg n2 ρ2 (joinL n0 LA L2 K) v ∧ Ex3 ρ2 L2 ρ2 (joinL n0 LA L2 K) := by
 have hJ := z9h E (hd := cA.agree.1) (fun b k h => Ctx.lt16 (E := noK E) c2 h) (fun b k h => cA.fresh.ltL (cA.agree.2 _ _ h)) (n2 - n0) hj
 obtain ⟨sA, agA, frA⟩ := cA
 obtain ⟨s2, ag2, fr2⟩ := c2
 have lA : ∀ b r, ρA b = some r → b < n0 := fun b r h => frA.lt h
 have l2 : ∀ b r, ρ2 b = some r → b < n2 := fun b r h => fr2.lt h
 obtain ⟨blkA, sepA, sameA, mxA, rwA, roA, bndA, bsA, ldA, kindA, polA, rkA, kpA⟩ := sA
 obtain ⟨blk2, sep2, same2, mx2, rw2, ro2, bnd2, bs2, ld2, kind2, pol2, rk2, kp2⟩ := s2
 subst hs
 have backA : ∀ b r, b < n0 → ρ2 b = some r → ρA b = some r := fun b r hb h => by
  cases hA : ρA b with
  | none => rw [(bare b hb hA).2] at h; cases h
  | some q => rw [ex.place b q hA] at h; exact h
 have jlo : ∀ b, b < n0 → joinL n0 LA L2 K b = LA b := fun b h => by unfold joinL; rw [if_pos h]
 have jhi : ∀ b, n0 ≤ b → K b = none → joinL n0 LA L2 K b = L2 b := fun b h hk => by unfold joinL; rw [if_neg (by omega), hk]
 have jk : ∀ b k, K b = some k → joinL n0 LA L2 K b = some k := fun b k hk => by unfold joinL; rw [if_neg (by have := (hK b k hk).1; omega), hk]
 have kno : ∀ b q, L2 b = some q → q ≠ .gone → K b = none := fun b q h1 h2 => by
  cases hk : K b with
  | none => rfl
  | some k => rw [(hK b k hk).2.1] at h1; injection h1 with h1; exact absurd h1.symm h2
 have jnk : ∀ b q, n0 ≤ b → joinL n0 LA L2 K b = some q → (∀ x y z, q ≠ .chn x y z) → L2 b = some q ∧ K b = none := fun b q h1 h2 h3 => by
  cases hk : K b with
  | none => rw [jhi b h1 hk] at h2; exact ⟨h2, rfl⟩
  | some k =>
   obtain ⟨_, _, ⟨x, y, z, e⟩, _⟩ := hK b k hk
   rw [jk b k hk] at h2; injection h2 with h2
   exact absurd (h2.symm.trans e) (h3 x y z)
 have glo : ∀ b, b < n0 → grp (joinL n0 LA L2 K) b = grp LA b := fun b h => by unfold grp; rw [jlo b h]
 have ghi : ∀ b, n0 ≤ b → grp (joinL n0 LA L2 K) b = grp L2 b := fun b h => by
  cases hk : K b with
  | none => unfold grp; rw [jhi b h hk]
  | some k =>
   obtain ⟨_, h2, ⟨x, y, z, e⟩, _⟩ := hK b k hk
   unfold grp; rw [jk b k hk, h2, e]
 have ilo : ∀ b, b < n0 → info (joinL n0 LA L2 K) b = info LA b := fun b h => by unfold info; rw [jlo b h]
 have ihi : ∀ b, n0 ≤ b → info (joinL n0 LA L2 K) b = info L2 b := fun b h => by
  cases hk : K b with
  | none => unfold info; rw [jhi b h hk]
  | some k =>
   obtain ⟨_, h2, ⟨x, y, z, e⟩, _⟩ := hK b k hk
   unfold info; rw [jk b k hk, h2, e]
 have kin : ∀ b, n0 ≤ b → b < n2 → ∃ k, L2 b = some k ∧ okJ b k = true := fun b h1 h2 => by
  obtain ⟨k, h3, h4⟩ := hJ.2.2 b h1 (by omega)
  exact ⟨k, ag2.2 _ _ h3, h4⟩
 have gnew : ∀ b r, n0 ≤ b → ρ2 b = some r → grp L2 b = b + 1 := fun b r h1 h2 => by
  obtain ⟨k, h3, h4⟩ := kin b h1 (l2 b r h2)
  cases k with
  | cells m c g ks si mx => rw [z0x h3]; simpa [okJ] using h4
  | gone => simp [grp, h3]
  | box =>
   obtain ⟨k', hk', hb⟩ := blk2 b r h2
   rw [h3] at hk'; injection hk' with hk'; subst hk'
   exact (hb (.inl (by simp [grp, h3]))).elim
  | poly =>
   obtain ⟨k', hk', hb⟩ := blk2 b r h2
   rw [h3] at hk'; injection hk' with hk'; subst hk'
   exact (hb (.inl (by simp [grp, h3]))).elim
  | _ => cases h4
 have live_lo : ∀ b r, b < n0 → ρA b = some r → (live (joinL n0 LA L2 K) b → live LA b) := fun b r h1 h2 hl => by
  unfold live at hl ⊢
  rw [glo b h1] at hl
  by_cases h0 : grp LA b = 0
  ·exact .inl h0
  ·obtain ⟨⟨q, hq⟩, _⟩ := ldA b r h2 h0
   rw [ilo _ (lA _ _ hq)] at hl; exact hl
 have live_hi : ∀ b r, n0 ≤ b → ρ2 b = some r → (live (joinL n0 LA L2 K) b → live L2 b) := fun b r h1 h2 hl => by
  unfold live at hl ⊢
  rw [ghi b h1, gnew b r h1 h2, Nat.add_sub_cancel, ihi b h1] at hl
  rw [gnew b r h1 h2, Nat.add_sub_cancel]; exact hl
 have plc : ∀ b r, n0 ≤ b → ρ2 b = some r → w.heap.size ≤ r.1 := fun b r h1 h2 => rw2 b r h2 (by rw [gnew b r h1 h2]; omega)
 have ex2 : Ex3 ρ2 L2 ρ2 (joinL n0 LA L2 K) := by
  have one : ∀ b q, L2 b = some q → ((∃ a m c, q = .box a m c) ∨ ∃ p x s d lo hi, q = .poly p x s d lo hi) → joinL n0 LA L2 K b = some q := by
   intro b q hb hq
   rcases Nat.lt_or_ge b n0 with h1 | h1
   ·rw [jlo b h1]
    cases hA : ρA b with
    | none =>
     rw [(bare b h1 hA).1] at hb
     exact zdD (fun k h => agA.2 _ _ h) hq hb
    | some r =>
     obtain ⟨k', hk', hbr⟩ := blk2 b r (ex.place _ _ hA)
     rw [hb] at hk'; injection hk' with hk'; subst hk'
     rcases hq with ⟨_, _, _, rfl⟩ | ⟨_, _, _, _, _, _, rfl⟩ <;> exact (hbr (.inl (by simp [grp, hb]))).elim
   ·rw [jhi b h1 (kno b q hb (by rcases hq with ⟨_, _, _, rfl⟩ | ⟨_, _, _, _, _, _, rfl⟩ <;> simp))]; exact hb
  exact ⟨fun _ _ h => h, fun b k m c h => one b _ h (.inl ⟨_, _, _, rfl⟩), fun b p q s d lo hi h => one b _ h (.inr ⟨_, _, _, _, _, _, rfl⟩)⟩
 have eA : Ext0 ρA LA ρ2 (joinL n0 LA L2 K) := by
  have one : ∀ b q, LA b = some q → joinL n0 LA L2 K b = some q := fun b q hb => by rw [jlo b (frA.ltL hb)]; exact hb
  refine ⟨ex.place, fun b k m c h => one b _ h, fun b p q s d lo hi h => one b _ h, fun b h => ?_⟩
  rcases h with h | h
  ·exact .inl (one b _ h)
  ·exact .inr (one b _ h)
 refine ⟨⟨⟨fun b r hb => ?_, fun b b' r r' h1 h2 h3 h4 h5 h6 h7 => ?_, fun b b' r r' h1 h2 h3 h4 h5 h6 h7 => ?_, fun b r m c g k s' mx h1 h2 h3 h4 => ?_, fun b r h1 h2 => ?_, fun b r h1 h2 => ?_, fun b r h1 => ?_, Nat.le_trans bsA (Nat.le_trans bs2 hsz), fun b r h1 h2 => ?_, fun b m c g k s' mx h1 h2 => ?_,
  fun b p q s' d lo hi h1 h2 => ?_, fun b r h1 h2 => ?_, fun k o h => ?_⟩, ⟨(hg hJ.1).1, fun b k hb => ?_⟩, fun b hb => ?_⟩, ex2⟩
 ·rcases Nat.lt_or_ge b n0 with h1 | h1
  ·have hA := backA b r h1 hb
   obtain ⟨k, hk, hbr⟩ := blkA b r hA
   exact ⟨k, by rw [jlo b h1]; exact hk, fun hl => (hbr (live_lo b r h1 hA hl)).mono0 eA (hlo _ (bndA b r hA))⟩
  ·cases hkk : K b with
   | some k0 => exact ⟨k0, jk b k0 hkk, fun _ => (hK b k0 hkk).2.2.2 r hb _⟩
   | none =>
   obtain ⟨k, hk, hbr⟩ := blk2 b r hb
   refine ⟨k, by rw [jhi b h1 hkk]; exact hk, fun hl => ?_⟩
   have hl2 := live_hi b r h1 hb hl
   have hB := hbr hl2
   obtain ⟨k', hk', hok⟩ := kin b h1 (l2 b r hb)
   rw [hk] at hk'; injection hk' with hk'; subst hk'
   cases k with
   | cells m c g ks si mx =>
    obtain ⟨cs, ty, fz, q1, q2, q3, q4, q5⟩ := hB
    exact ⟨cs, ty, fz, (hhi b r _ hb hl2 hk (by simp) (plc b r h1 hb)).trans q1, q2, q3, q4, fun i hi => let ⟨x, a, y, d⟩ := q5 i hi; ⟨x, a, VR.re (E := E) (k' := E.kept) ex2 y, d⟩⟩
   | gone => trivial
   | box => exact hB.elim
   | poly => exact hB.elim
   | _ => cases hok
 ·rcases Nat.lt_or_ge b n0 with b1 | b1 <;> rcases Nat.lt_or_ge b' n0 with b2 | b2
  ·rw [glo b b1, glo b' b2] at h7; rw [glo b b1] at h5; rw [glo b' b2] at h6
   exact sepA b b' r r' (backA b r b1 h1) (backA b' r' b2 h2) (live_lo b r b1 (backA b r b1 h1) h3) (live_lo b' r' b2 (backA b' r' b2 h2) h4) h5 h6 h7
  ·have := bndA b r (backA b r b1 h1); have := plc b' r' b2 h2; omega
  ·have := bndA b' r' (backA b' r' b2 h2); have := plc b r b1 h1; omega
  ·rw [ghi b b1, ghi b' b2] at h7; rw [ghi b b1] at h5; rw [ghi b' b2] at h6
   exact sep2 b b' r r' h1 h2 (live_hi b r b1 h1 h3) (live_hi b' r' b2 h2 h4) h5 h6 h7
 ·rcases Nat.lt_or_ge b n0 with b1 | b1 <;> rcases Nat.lt_or_ge b' n0 with b2 | b2
  ·rw [glo b b1, glo b' b2] at h6; rw [glo b b1] at h5
   exact sameA b b' r r' (backA b r b1 h1) (backA b' r' b2 h2) (live_lo b r b1 (backA b r b1 h1) h3) (live_lo b' r' b2 (backA b' r' b2 h2) h4) h5 h6 h7
  ·have := bndA b r (backA b r b1 h1); have := plc b' r' b2 h2; omega
  ·have := bndA b' r' (backA b' r' b2 h2); have := plc b r b1 h1; omega
  ·rw [ghi b b1, ghi b' b2] at h6; rw [ghi b b1] at h5
   exact same2 b b' r r' h1 h2 (live_hi b r b1 h1 h3) (live_hi b' r' b2 h2 h4) h5 h6 h7
 ·rcases Nat.lt_or_ge b n0 with b1 | b1
  ·have hA := backA b r b1 h1
   rw [jlo b b1] at h3
   obtain ⟨_, _, _, _, _, hk⟩ := kindA b _ _ _ _ _ _ h3 h4
   rw [ilo _ (frA.ltL hk)]
   exact mxA b r m c g k s' mx hA (live_lo b r b1 hA h2) h3 h4
  ·have h3 := (jnk b _ b1 h3 (by intros; simp)).1
   have hg : g = b + 1 := by rw [← z0x h3]; exact gnew b r b1 h1
   subst hg
   have := mx2 b r m c _ k s' mx h1 (live_hi b r b1 h1 h2) h3 h4
   rw [Nat.add_sub_cancel] at this ⊢
   rw [ihi b b1]; exact this
 ·rcases Nat.lt_or_ge b n0 with b1 | b1
  ·rw [glo b b1] at h2; exact rwA b r (backA b r b1 h1) h2
  ·exact Nat.le_trans bsA (plc b r b1 h1)
 ·rcases Nat.lt_or_ge b n0 with b1 | b1
  ·rw [glo b b1] at h2; exact roA b r (backA b r b1 h1) h2
  ·rw [ghi b b1, gnew b r b1 h1] at h2; omega
 ·exact Nat.lt_of_lt_of_le (bnd2 b r h1) hsz
 ·rcases Nat.lt_or_ge b n0 with b1 | b1
  ·rw [glo b b1] at h2 ⊢
   obtain ⟨⟨q, hq⟩, hg⟩ := ldA b r (backA b r b1 h1) h2
   exact ⟨⟨q, ex.place _ _ hq⟩, by rw [glo _ (lA _ _ hq)]; exact hg⟩
  ·rw [ghi b b1] at h2 ⊢
   rw [gnew b r b1 h1, Nat.add_sub_cancel]
   exact ⟨⟨r, h1⟩, by rw [ghi b b1]; exact gnew b r b1 h1⟩
 ·rcases Nat.lt_or_ge b n0 with b1 | b1
  ·rw [jlo b b1] at h1
   obtain ⟨a1, a2, a3, a4, a5, hk⟩ := kindA b _ _ _ _ _ _ h1 h2
   exact ⟨a1, a2, a3, a4, a5, by rw [jlo _ (frA.ltL hk)]; exact hk⟩
  ·obtain ⟨h1, hkn⟩ := jnk b _ b1 h1 (by intros; simp)
   obtain ⟨k', hk', hok⟩ := kin b b1 (fr2.ltL h1)
   rw [h1] at hk'; injection hk' with hk'; subst hk'
   have hg : g = b + 1 := by simpa [okJ] using hok
   subst hg
   exact ⟨_, _, _, _, _, by rw [Nat.add_sub_cancel, jhi b b1 hkn]; exact h1⟩
 ·rcases Nat.lt_or_ge b n0 with b1 | b1
  ·rw [jlo b b1] at h1; exact polA b p q s' d lo hi h1 h2
  ·have h1 := (jnk b _ b1 h1 (by intros; simp)).1
   obtain ⟨z, hz⟩ := pol2 b p q s' d lo hi h1 h2
   exact ⟨z, PolyZ.re (E := E) (k' := E.kept) hz⟩
 ·rcases Nat.lt_or_ge b n0 with b1 | b1
  ·rw [glo b b1] at h2; exact rkA b r (backA b r b1 h1) h2
  ·have := plc b r b1 h1
   cases hk : E.kept r.1 with
   | none => rfl
   | some o =>
    have := (Array.getElem?_eq_some_iff.1 (kpA _ _ hk)).1
    omega
 ·have h1 := kpA k o h
  rw [hlo k (Array.getElem?_eq_some_iff.1 h1).1]; exact h1
 ·rcases (hg hJ.1).2 b k hb with hk | ⟨hkn, hb⟩
  ·exact jk b k hk
  rcases hJ.2.1 b k hb with ⟨b1, h1⟩ | ⟨b1, _, h1⟩
  ·rw [jlo b b1]; exact agA.2 _ _ h1
  ·rw [jhi b b1 hkn]; exact ag2.2 _ _ h1
 ·have hkn : K b = none := by
   cases hk : K b with
   | none => rfl
   | some k => have := (hK b k hk).2.1; rw [(fr2 b hb).1] at this; cases this
  exact ⟨by rw [jhi b (by omega) hkn]; exact (fr2 b hb).1, (fr2 b hb).2⟩
end
end Go.Eng
namespace Go.Eng
open Go Go.RowKit
open Go.Conc
noncomputable section
def opAt (s : DS) (k : Oper → List Item → SL) : SL :=
 match s.k with
 | .inRegion ops (i :: rest) :: k' => (match ops[i]? with
  | some o => sel (wantedE ops s.T o) (k o (.inRegion ops rest :: k')) (.no 420)
  | none => .no 421)
 | _ => .no 422
def wgAt (tW nt : Nat) (s : DS) (k : Nat → DS → SL) : SL :=
 opAt s fun o k' => match o.op, o.dst with
  | .alloc t, some d => sel (sel (Nat.beq t tW) (sel (ltb d nt) (ltb s.n maxBlk) false) false) (k s.n ⟨k', setW s.T d (wP s.n 0), hset s.H s.n .gone, Nat.succ s.n⟩) (.no 423)
  | _, _ => .no 424
def mkcAt (tC nt : Nat) (s : DS) (k : Nat → DS → SL) : SL :=
 opAt s fun o k' => match o.op, o.dst with
  | .makeChan t x, some d => sel (sel (Nat.beq t tC) (sel (ltb d nt) (sel (ltb (Nat.succ s.n) maxBlk) (sel (Nat.beq (tagOf (ev s.T x)) 1) (ltb (payOf (ev s.T x)) 1000) false) false) false) false)
    (k s.n ⟨k', setW s.T d (mk 10 (Nat.succ s.n)), hset (hset s.H s.n (.chn (payOf (ev s.T x)) [] 0)) (Nat.succ s.n) (.box 4 s.n 0), Nat.succ (Nat.succ s.n)⟩) (.no 425)
  | _, _ => .no 426
end
theorem z3P {s s' : DS} {k : Oper → List Item → SL} (h : opAt s k = .fin s') : ∃ ops i rest k' o, s.k = .inRegion ops (i :: rest) :: k' ∧ ops[i]? = some o ∧ wantedE ops s.T o = true ∧ k o (.inRegion ops rest :: k') = .fin s' := by
 unfold opAt at h
 split at h
 ·rename_i ops i rest k' hk
  split at h
  ·rename_i o ho
   rw [zf] at h
   split at h
   ·rename_i hw; exact ⟨ops, i, rest, k', o, hk, ho, hw, h⟩
   ·cases h
  ·cases h
 ·cases h
theorem z6R {P : Program} (t : TypeId) (x : Value) : Plain P (Instr.makeChan t x) := by
 unfold Instr.makeChan
 refine Plain.bind (zZ _) fun n => Plain.bind (za _) fun d => ?_
 split
 ·refine Plain.bind (zg _) fun i => ?_
  split
  ·exact Plain.bind (ze _) fun _ => Plain.bind (zM _ trivial) fun _ => zb _
  ·exact Plain.bind (zM _ trivial) fun _ => zb _
 ·exact zk _
variable [E : Env] [Pd : Pad]
section
variable {P : Program} {base nt : Nat} {ρ : Rho} {L : Look} {w : World} {f : FFix} {tmps : Array Value} {ds : List Deferred} {cs : List Frame} {s s' : DS}
theorem zbD {tW : Nat} {i : TypeInfo} {z : Value} (hi : P.info? tW = some i) (hz : i.zero = some z) (hzc : z.cells = #[.int .u64 0, .int .u32 0]) {kk : Nat → DS → SL} (h : wgAt tW nt s kk = .fin s') (c : Ctx base s.H s.n ρ L w) (ht : TR ρ L nt s.T tmps) :
  ∃ s1, kk s.n s1 = .fin s' ∧ ∃ ρ' L' w' tmps' Wg, Ctx base s1.H s1.n ρ' L' w' ∧ TR ρ' L' nt s1.T tmps' ∧ Ext ρ L ρ' L' ∧ Loc s.H s.n ρ L ρ' L' ∧ s.n ≤ s1.n ∧ Below base w w' ∧ ρ' s.n = some (Wg, 0, 0) ∧ tget s1.H s.n = some .gone ∧
   w'.heap[Wg]? = some (Go.ConcR.wgBlock tW 0 0) ∧ w.heap.size ≤ Wg ∧ Steps P (lone (mkF f tmps ds s.k) cs w) (lone (mkF f tmps' ds s1.k) cs w') := by
 obtain ⟨k0, T, H, n⟩ := s
 obtain ⟨ops, i', rest, k', o, hk, ho, hw, hm0⟩ := z3P h
 simp only at hk hw hm0 c ht
 clear h
 subst hk
 split at hm0
 ·rename_i t d hop hd
  rw [zf] at hm0
  split at hm0
  ·rename_i hc
   obtain ⟨h1, h2⟩ := selA hc
   obtain ⟨h3, h4⟩ := selA h2
   have e1 : t = tW := by simpa using h1
   subst e1
   have h3 := (z08 _ _).1 h3
   have h4 : n < 16384 := (z08 _ _).1 h4
   refine ⟨_, hm0, ?_⟩
   obtain ⟨wp, hwp⟩ : ∃ wp, wp = padded (mkF f tmps ds (.inRegion ops (i' :: rest) :: k')) cs w := ⟨_, rfl⟩
   have cp : Ctx base H n ρ L wp := hwp ▸ c.padded _ _
   have bp : Below base w wp := hwp ▸ z0l c _ _
   have zv : (zeroValue t).run P wp = .ok z wp := by simp [zeroValue, typeInfo, hi, hz]
   have hrun : (execOp (evT tmps) o).run P wp = .ok (.value (.pointer (some ⟨wp.heap.size, 0, none⟩))) { wp with heap := wp.heap.push (Go.ConcR.wgBlock t 0 0) } := by
    simp [execOp, hop, Instr.alloc, zv, newVar, newRow, hzc, Go.ConcR.wgBlock]
   obtain ⟨w', hw'⟩ : ∃ w' : World, w' = { wp with heap := wp.heap.push (Go.ConcR.wgBlock t 0 0) } := ⟨_, rfl⟩
   rw [← hw'] at hrun
   have heap' : w'.heap = wp.heap.push (Go.ConcR.wgBlock t 0 0) := by rw [hw']
   have sim' := cp.sim.fresh (w' := w') cp.fresh heap' (k := .gone) trivial (sz := 0) trivial
   have e : Ext ρ L (updR ρ n (wp.heap.size, 0, 0)) (upd L n .gone) := .fresh c.fresh _ _
   have hst := z8R (P := P) (f := f) (ds := ds) (k := k') (cs := cs) (rest := rest) (x := .pointer (some ⟨wp.heap.size, 0, none⟩)) (w' := w') ho (by rw [← z0q ht o]; exact hw) (by rw [hop]; rfl)
    (by rw [← hwp]; exact (z1b ((z0c t true (.tuple #[])).tame wp)).of_run (by simp only [execOp, hop])) (by rw [← hwp]; exact .value hrun)
   have ht' := (ht.mono e).set (d := d) (v := wP n 0) (x := .pointer (some ⟨wp.heap.size, 0, none⟩)) h3 (by rw [zd1]; omega) (z1V (zU _ _ _))
   refine ⟨_, _, w', tmps.setIfInBounds d (.pointer (some ⟨wp.heap.size, 0, none⟩)), wp.heap.size, ⟨sim', cp.agree.hset h4 _, cp.fresh.upd _ _⟩, ht', e, .fresh _ _, Nat.le_succ _, ?_, zU _ _ _, by simp only; rw [z1d cp.agree.1 h4, if_pos rfl], by rw [heap']; simp, ?_, ?_⟩
   ·refine bp.trans ⟨by rw [hw'], by rw [hw'], by rw [hw'], by rw [heap']; simp, fun j hj => ?_⟩
    have := cp.sim.bs
    rw [heap', Array.getElem?_push, if_neg (by omega)]
   ·exact bp.size
   ·rw [hd] at hst; exact hst
  ·cases hm0
 ·cases hm0
theorem za2 {tC e : Nat} {dir : ChanDir} {i : TypeInfo} (hu : P.underlying tC = some (.chan dir e)) (hi : P.info? e = some i) (hib : i.bytes ≤ 1024) {kk : Nat → DS → SL} (h : mkcAt tC nt s kk = .fin s') (c : Ctx base s.H s.n ρ L w) (ht : TR ρ L nt s.T tmps) :
  ∃ s1, kk s.n s1 = .fin s' ∧ ∃ ρ' L' w' tmps' rb, Ctx base s1.H s1.n ρ' L' w' ∧ TR ρ' L' nt s1.T tmps' ∧ Ext ρ L ρ' L' ∧ Loc s.H s.n ρ L ρ' L' ∧ s.n ≤ s1.n ∧ Below base w w' ∧ ρ' s.n = some (rb, 0, 0) ∧
   Steps P (lone (mkF f tmps ds s.k) cs w) (lone (mkF f tmps' ds s1.k) cs w') := by
 obtain ⟨k0, T, H, n⟩ := s
 obtain ⟨ops, i', rest, k', o, hk, ho, hw, hm0⟩ := z3P h
 simp only at hk hw hm0 c ht
 clear h
 subst hk
 split at hm0
 ·rename_i t x d hop hd
  rw [zf] at hm0
  split at hm0
  ·rename_i hc
   obtain ⟨h1, h2⟩ := selA hc
   obtain ⟨h3, h4⟩ := selA h2
   obtain ⟨h5, h6⟩ := selA h4
   obtain ⟨h7, h8⟩ := selA h6
   have e1 : t = tC := by simpa using h1
   subst e1
   have h3 := (z08 _ _).1 h3
   have h5 : n + 1 < 16384 := (z08 _ _).1 h5
   have h7 : tagOf (ev T x) = 1 := by simpa using h7
   have h8 := (z08 _ _).1 h8
   refine ⟨_, hm0, ?_⟩
   generalize hm : payOf (ev T x) = m at h8 ⊢
   obtain ⟨p, hp, p1, p2, p3⟩ := (zC ht x (by rw [h7]; decide)).z0i h7
   have hpm : p = m := by rw [← hm, p1]; show p = payOf (mk 1 p); rw [z05 1 p (by omega)]
   subst hpm
   have hx : evT tmps x = .int .i64 (p : Int) := by rw [p3]; unfold sInt; rw [if_pos (by omega)]
   obtain ⟨wp, hwp⟩ : ∃ wp, wp = padded (mkF f tmps ds (.inRegion ops (i' :: rest) :: k')) cs w := ⟨_, rfl⟩
   have cp : Ctx base H n ρ L wp := hwp ▸ c.padded _ _
   have bp : Below base w wp := hwp ▸ z0l c _ _
   have hrun : (execOp (evT tmps) o).run P wp = .ok (.value (.chan (some wp.heap.size))) (wp.alloc (.chan p #[] false 0 0 false)) := by
    have hmk := run_makeChan (w := wp) hu hi .i64 p (by omega) (by
     have h9 : i.bytes * p ≤ 1024 * 1000 := Nat.mul_le_mul hib (show p ≤ 1000 by omega)
     have h10 : ((i.bytes * p : Nat) : Int) = (i.bytes : Int) * p := Int.natCast_mul _ _
     omega)
    have he : execOp (evT tmps) o = (do pure (.value (← Instr.makeChan t (evT tmps x))) : Sem Next) := by simp only [execOp, hop]
    rw [he, hx, Sem.run_bind, hmk]
    rfl
   obtain ⟨w', hw'⟩ : ∃ w' : World, w' = wp.alloc (.chan p #[] false 0 0 false) := ⟨_, rfl⟩
   rw [← hw'] at hrun
   have heap' : w'.heap = wp.heap.push (.chan p #[] false 0 0 false) := by rw [hw']; rfl
   have e : Ext ρ L (updR ρ n (wp.heap.size, 0, 0)) (upd L n (.chn p [] 0)) := .fresh c.fresh _ _
   have sim' := cp.sim.fresh (w' := w') cp.fresh heap' (k := .chn p [] 0) trivial (sz := 0) ⟨#[], 0, 0, false, by rw [heap', Array.getElem?_push_size]; rfl, rfl, fun _ => ⟨rfl, rfl, rfl⟩, fun i hi => by simp at hi⟩
   have c1 : Ctx base (hset H n (.chn p [] 0)) (n + 1) (updR ρ n (wp.heap.size, 0, 0)) (upd L n (.chn p [] 0)) w' := ⟨sim', cp.agree.hset (by omega) _, cp.fresh.upd _ _⟩
   have e2 : Ext (updR ρ n (wp.heap.size, 0, 0)) (upd L n (.chn p [] 0)) (updR ρ n (wp.heap.size, 0, 0)) (upd (upd L n (.chn p [] 0)) (n + 1) (.box 4 n 0)) := .freshL c1.fresh _
   have hst := z8R (P := P) (f := f) (ds := ds) (k := k') (cs := cs) (rest := rest) (x := .chan (some wp.heap.size)) (w' := w') ho (by rw [← z0q ht o]; exact hw) (by rw [hop]; rfl)
    (by rw [← hwp]; exact (z1b ((z6R t (evT tmps x)).tame wp)).of_run (by simp only [execOp, hop])) (by rw [← hwp]; exact .value hrun)
   have ht' := (ht.mono (e.trans e2)).set (d := d) (v := mk 10 (n + 1)) (x := .chan (some wp.heap.size)) h3 (by rw [mk_eq]; omega) (.chan (n + 1) n wp.heap.size 0 0 (upd_same _ _ _) (zU _ _ _))
   refine ⟨_, _, w', tmps.setIfInBounds d (.chan (some wp.heap.size)), wp.heap.size, ⟨c1.sim.box c1.fresh 4 n 0, c1.agree.hset h5 _, c1.fresh.updL _⟩, ht', e.trans e2, (Loc.fresh (H := H) _ _).trans (Nat.le_succ _) (.freshL (H := H) _), by simp only; omega, ?_, zU _ _ _, ?_⟩
   ·refine bp.trans ⟨by rw [hw']; rfl, by rw [hw']; rfl, by rw [hw']; rfl, by rw [heap']; simp, fun j hj => ?_⟩
    have := cp.sim.bs
    rw [heap', Array.getElem?_push, if_neg (by omega)]
   ·rw [hd] at hst; exact hst
  ·cases hm0
 ·cases hm0
end
end Go.Eng
namespace Go.Eng
open Go Go.RowKit
open Go.Conc
open Go.Conc.Lib
open Go.ConcN (WgLive)
open Go.Eng.Wg
def bornF (P : Program) : Frame := { (default : Frame) with fn := P.funcs.size, defers := [], mode := .panicking [goexitEntry] }
section
variable {P : Program} {f : FFix} {tmps : Array Value} {ds : List Deferred} {k : List Item} {cs : List Frame} {ops : Array Oper} {o : Oper} {i : Nat} {rest : List Nat} {main : Bool} {w : World}
theorem zbE (ho : ops[i]? = some o) (hw : Region.wanted o (yielded ops tmps) = true) (hro : f.ro = none) (hk : f.kind ≠ .early) {d : Deferred} (he : execOp (evT tmps) o = pure (.spawn d)) {g : Fn} {c : Array Value} (hd : d.target = .fn g c) (W : World) :
  stepG P main (G (mkF f tmps ds (.inRegion ops (i :: rest) :: k)) cs) W = .spawn (G (mkF f (putT tmps o.dst Go.undef) ds (.inRegion ops rest :: k)) cs) (G (born P d).frame []) W #[] := by
 have hk' : (f.kind == CallKind.early) = false := by simpa using hk
 rw [z3C ho hw hro, he]
 have e1 : (pure (Next.spawn d) : Sem Next).runT P W #[] = (.ok (.spawn d) W, #[]) := rfl
 unfold stepG.apply
 simp only [e1]
 simp [mkF, hk', G, GStep.after, seen_none, Frame.finish, ho, putT, born, hd]
 cases o.dst <;> rfl
theorem zbF {d : Deferred} {wf : Nat} {vs : Array Value} {fn : Func} {body : Code} (hd : d.target = .fn (.func wf) vs) (ha : d.args = #[]) (hfn : P.funcs[wf]? = some fn) (hb : fn.body = some body) (hn : fn.name ≠ "runtime.NumGoroutine") (W : World) :
  stepG P false (G (born P d).frame []) W = .go (G (mkF ⟨wf, .deferred, none⟩ (vs ++ Array.replicate (fn.ntmps - vs.size) Go.undef) [] [.code body]) [bornF P]) W := by
 have henter : Frame.enter P wf vs .deferred = mkF ⟨wf, .deferred, none⟩ (vs ++ Array.replicate (fn.ntmps - vs.size) Go.undef) [] [.code body] := by simp [Frame.enter, hfn, hb, mkF]
 obtain ⟨tg, ar⟩ := d
 simp only at hd ha
 subst hd; subst ha
 have e1 : (invoke (.fn (.func wf) vs) #[] : Sem Next).runT P W #[] = (.ok (.enter wf vs) W, #[]) := by simp [invoke, callFunc, hfn, hb, hn]
 simp only [stepG, unwind, born, G, callDeferred]
 rw [e1]
 simp [GStep.after, seen_none, henter, bornF]
theorem zbG {wf : Nat} {fn : Func} (hfn : P.funcs[wf]? = some fn) (hres : fn.results = #[]) (tmps : Array Value) : QuitsD P 2 0 (G (mkR ⟨wf, .deferred, none⟩ tmps [] []) [bornF P]) := by
 refine .inr ⟨rfl, G (bornF P) [], #[], by simp, fun w => by simp [stepG, unwind, mkR, G, hfn, results, hres, doReturn, GStep.after, seen_none, bornF, goexitEntry], ?_⟩
 refine .inr ⟨rfl, { frame := bornF P, callers := [], status := .finished, dying := none }, #[], by simp, fun w => ?_, ⟨rfl, rfl⟩⟩
 have hc : (bornF P).catches P = false := by simp [Frame.catches, bornF]; rfl
 simp only [stepG, unwind, G]
 simp only [bornF] at hc ⊢
 simp [goexitEntry] at hc ⊢
 exact hc
end
section
variable {P : Program} {ty : TypeId} {Wg : Nat} {Fz : Nat → Option Obj} {Post : Sta → Prop} {pend : Bool} {prs : List (Nat × Obj)} {pr : Nat × Obj}
abbrev PhE (P : Program) (ty : TypeId) (Wg : Nat) (Fz : Nat → Option Obj) (Post : Sta → Prop) (pend : Bool) (prs : List (Nat × Obj)) (s : Sta) : Prop := ∃ τ, PhT P ty Wg Fz Post τ pend prs s
theorem zer {fr fr' : Frame} {cs : List Frame} {v : World} (h : AddAt P ty Wg fr cs fr') (hk : PhE P ty Wg Fz Post true prs (fr', cs, v)) : PhE P ty Wg Fz Post false prs (fr, cs, v) := by
 obtain ⟨τ, hτ⟩ := hk
 exact ⟨.node fun _ _ => τ, .inr (.inr (.inl ⟨rfl, fr', h, hτ⟩))⟩
theorem zes {fr fr' cfr : Frame} {cs ccs : List Frame} {v v' u : World} (hl : prs.length < 1000000) (h : ∀ W, stepG P true (G fr cs) W = .spawn (G fr' cs) (G cfr ccs) W #[]) (hw : WkE P ty Wg pr (cfr, ccs, u)) (hs : Split v v' u)
  (hk : PhE P ty Wg Fz Post false (prs ++ [pr]) (fr', cs, v')) : PhE P ty Wg Fz Post true prs (fr, cs, v) := by
 obtain ⟨τ, hτ⟩ := hk
 obtain ⟨τw, hw⟩ := hw
 exact ⟨.node fun _ _ => τ, .inr (.inr (.inr (.inl ⟨rfl, hl, fr', cfr, ccs, v', u, τw, pr, h, hw, hs, hτ⟩)))⟩
theorem ze9 {fr fr' : Frame} {cs : List Frame} {v : World} (h : WaitAt P ty Wg fr cs fr') (he : ∃ v'', Back Fz prs v v'') (hk : ∀ v'', Back Fz prs v v'' → Post (fr', cs, v'')) : PhE P ty Wg Fz Post false prs (fr, cs, v) :=
 ⟨.node fun _ _ => .leaf, .inr (.inr (.inr (.inr ⟨rfl, fr', h, he, hk⟩)))⟩
theorem PhT.ne : ∀ (τ : Tre) {pend : Bool} {prs : List (Nat × Obj)} {s : Sta}, PhT P ty Wg Fz Post τ pend prs s → ∃ s', Post s'
 | .leaf, _, _, _, h => h.elim
 | .node f, _, _, _, h => by
  rcases h with ⟨_, _, _, hk⟩ | hk | ⟨_, _, _, hk⟩ | ⟨_, _, _, _, _, _, _, _, _, _, _, _, hk⟩ | ⟨_, fr', _, ⟨v'', hb⟩, hk⟩
  ·exact PhT.ne _ hk
  ·obtain ⟨_, _, _, _, hk⟩ := hk (0, 0)
   exact PhT.ne _ hk
  ·exact PhT.ne _ hk
  ·exact PhT.ne _ hk
  ·exact ⟨_, hk v'' hb⟩
end
section
open Go.ConcR.Gen Go.ConcN.Gen
open Go.ConcR (stA smA KK WgAt DC0 Payload)
variable [Payload] {L : WgLink} {P : Program} {Wg : Nat} {f : FFix} {tmps : Array Value} {ds : List Deferred} {k : List Item} {cs : List Frame} {ops : Array Oper} {o : Oper} {i : Nat} {rest : List Nat}
theorem zaU (f : FFix) (hro : f.ro = none) (tmps : Array Value) (ds : List Deferred) (todo : List Item) : (mkF f #[] [] []).at ⟨tmps, ds⟩ todo = mkF f tmps ds todo := by simp [Frame.at, mkF, hro]
theorem addAtF (H : WgLib P L) (ho : ops[i]? = some o) (hw : Region.wanted o (yielded ops tmps) = true) (hro : f.ro = none) (he : execOp (evT tmps) o = callFunc L.add #[.pointer (some ⟨Wg, 0, none⟩), .int .i64 1]) :
  AddAt P L.tWg Wg (mkF f tmps ds (.inRegion ops (i :: rest) :: k)) cs (mkF f (putT tmps o.dst (.tuple #[])) ds (.inRegion ops rest :: k)) := by
 have h := addAt (cs := cs) (b₀ := mkF f #[] [] []) (a₀ := ⟨tmps, ds⟩) (ops₀ := ops) (i₀ := i) (rest₀ := rest) (k₀ := k) (Wg := Wg) H (fun W => by
  rw [zaU f hro]
  have hb : (addFn L).body = some (body_add L) := by simp [body_add, addFn]
  rw [z3E ho hw hro H.f_add hb (by simpa using nm_add L) he W]
  simp [Frame.at, mkF, base])
 rw [zaU f hro] at h
 have e2 : (mkF f #[] [] []).at ((⟨tmps, ds⟩ : Act).put ((ops[i]?).bind (·.dst)) (.tuple #[])) (.inRegion ops rest :: k) = mkF f (putT tmps o.dst (.tuple #[])) ds (.inRegion ops rest :: k) := by
  rw [ho]
  simp only [Option.bind_some, Act.put, putT]
  cases o.dst <;> simp [Frame.at, mkF, hro]
 rw [e2] at h
 exact h
theorem waitAtF (H : WgLib P L) (ho : ops[i]? = some o) (hw : Region.wanted o (yielded ops tmps) = true) (hro : f.ro = none) (he : execOp (evT tmps) o = callFunc L.wait #[.pointer (some ⟨Wg, 0, none⟩)]) :
  WaitAt P L.tWg Wg (mkF f tmps ds (.inRegion ops (i :: rest) :: k)) cs (mkF f (putT tmps o.dst (.tuple #[])) ds (.inRegion ops rest :: k)) := by
 have h := waitAt (cs := cs) (b₀ := mkF f #[] [] []) (a₀ := ⟨tmps, ds⟩) (ops₀ := ops) (i₀ := i) (rest₀ := rest) (k₀ := k) (Wg := Wg) H (fun W => by
  rw [zaU f hro]
  have hb : (waitFn L).body = some (body_wait L) := by simp [body_wait, waitFn]
  rw [z3E ho hw hro H.f_wait hb (by simpa using nm_wait L) he W]
  simp [Frame.at, mkF, base])
 rw [zaU f hro] at h
 have e2 : (mkF f #[] [] []).at ((⟨tmps, ds⟩ : Act).put ((ops[i]?).bind (·.dst)) (.tuple #[])) (.inRegion ops rest :: k) = mkF f (putT tmps o.dst (.tuple #[])) ds (.inRegion ops rest :: k) := by
  rw [ho]
  simp only [Option.bind_some, Act.put, putT]
  cases o.dst <;> simp [Frame.at, mkF, hro]
 rw [e2] at h
 exact h
end
end Go.Eng
