/- Part of the evaluator, in company. -/
import Derived.Test.YtadmpiidofncpacOCa
import Derived.Below
set_option linter.unusedSectionVars false
set_option linter.unusedSimpArgs false
set_option linter.unusedVariables false
namespace Go.Eng
open Go Go.RowKit
theorem zf {α : Type} (b : Bool) (t e : α) : sel b t e = if b = true then t else e := by cases b <;> rfl
theorem nbeq (a b : Nat) : Nat.beq a b = decide (a = b) := by
 by_cases h : a = b
 ·subst h; simp
 ·have : Nat.beq a b ≠ true := fun hh => h (Nat.eq_of_beq_eq_true hh)
  rw [Bool.eq_false_iff.2 this]; simp [h]
theorem nble (a b : Nat) : Nat.ble a b = decide (a ≤ b) := by
 by_cases h : a ≤ b
 ·simp [h, Nat.ble_eq]
 ·have : Nat.ble a b ≠ true := fun hh => h (Nat.le_of_ble_eq_true hh)
  rw [Bool.eq_false_iff.2 this]; simp [h]
theorem z8 {α : Type} (a b : Nat) (t e : α) : sel (Nat.beq a b) t e = if a = b then t else e := by rw [zf, nbeq]; simp
theorem z0k {α : Type} (a b : Nat) (t e : α) : sel (Nat.ble a b) t e = if a ≤ b then t else e := by rw [zf, nble]; simp
theorem zJ {α : Type} (a b : Nat) (t e : α) : sel (ltb a b) t e = if a < b then t else e := by unfold ltb; rw [z0k]; rfl
theorem z1m (t p : Nat) (h : t < 16) : tagOf (mk t p) = t := by
 show (16 * p + t) % 16 = t; omega
theorem z05 (t p : Nat) (h : t < 16) : payOf (mk t p) = p := by
 show (16 * p + t) / 16 = p; omega
theorem mk_eq (t p : Nat) : mk t p = 16 * p + t := rfl
theorem z7D (w : Nat) : tagOf w = w % 16 := rfl
theorem z5s (w : Nat) : payOf w = w / 16 := rfl
theorem zd1 (b o : Nat) : wP b o = 16 * (1048576 * (b + 1) + o) + 3 := rfl
theorem zeg (b e o n k : Nat) : wS b e o n k = 16 * (1048576 * (1048576 * (1048576 * (256 * (b + 1) + e) + o) + k) + n) + 4 := rfl
theorem z1S (b e o n k : Nat) (he : e < 256) (ho : o < 1048576) (hn : n < 1048576) (hk : k < 1048576) :
  tagOf (wS b e o n k) = 4 ∧ sLen (payOf (wS b e o n k)) = n ∧ sCap (payOf (wS b e o n k)) = k ∧ sOff (payOf (wS b e o n k)) = o ∧
  sEs (payOf (wS b e o n k)) = e ∧ sBlk (payOf (wS b e o n k)) = b + 1 := by
 have hp : payOf (wS b e o n k) = 1048576 * (1048576 * (1048576 * (256 * (b + 1) + e) + o) + k) + n := by rw [z5s, zeg]; omega
 refine ⟨by rw [z7D, zeg]; omega, ?_, ?_, ?_, ?_, ?_⟩ <;> rw [hp]
 ·show _ % 1048576 = _; omega
 ·show _ / 1048576 % 1048576 = _; omega
 ·show _ / 1099511627776 % 1048576 = _; omega
 ·show _ / 1152921504606846976 % 256 = _; omega
 ·show _ / 295147905179352825856 = _; omega
theorem z6E : tagOf sNil = 4 ∧ sLen (payOf sNil) = 0 ∧ sCap (payOf sNil) = 1 ∧ sOff (payOf sNil) = 0 ∧ sEs (payOf sNil) = 0 ∧ sBlk (payOf sNil) = 0 := by
 refine ⟨rfl, rfl, rfl, rfl, rfl, rfl⟩
theorem z2p (b o : Nat) (ho : o < 1048576) : tagOf (wP b o) = 3 ∧ pOff (payOf (wP b o)) = o ∧ pBlk (payOf (wP b o)) = b + 1 := by
 have hp : payOf (wP b o) = 1048576 * (b + 1) + o := by rw [z5s, zd1]; omega
 refine ⟨by rw [z7D, zd1]; omega, ?_, ?_⟩ <;> rw [hp]
 ·show _ % 1048576 = _; omega
 ·show _ / 1048576 = _; omega
abbrev Rho := Nat → Option (Nat × Nat × Nat)
abbrev Look := Nat → Option Blk
class Env where
 int : Nat → Int
 lst : Nat → List Value
 wf : ∀ j, -9223372036854775808 ≤ int j ∧ int j < 9223372036854775808
 len : ∀ j, j < 1048576 → int (lenIx j) = ((lst j).length : Int)
 byThree : (lst 1000).length % 3 = 0
 notThree : (lst 1001).length % 3 ≠ 0
 txt : Nat → ByteArray
 txtNe : ∀ j, j < 1000 → inT knownT (strW (txt j)) = false
 kept : Nat → Option Obj := fun _ => none
variable [E : Env]
structure PolyZ (p q s d lo hi : Nat) (z : Int) : Prop where
 lo_lt : lo < 18446744073709551616
 hi_lt : hi < 18446744073709551616
 low : (lo : Int) - 9223372036854775808 ≤ z
 high : z ≤ (hi : Int) - 9223372036854775808
 ex : ∃ u, PolyR (fun i => E.int (pvIx i)) p q s d u ∧ (z - u) % 18446744073709551616 = 0
inductive VR (ρ : Rho) (L : Look) : Nat → Value → Prop
 | undef : VR ρ L 0 (.tuple #[])
 | int (p : Nat) : p < 18446744073709551616 → VR ρ L (wI p) (.int .i64 (sInt p))
 | bool (b : Bool) : VR ρ L (wB b) (.bool b)
 | ptrNil : VR ρ L 3 (.pointer none)
 | ptr (b o rb d sz : Nat) : ρ b = some (rb, d, sz) → o < 1048576 → VR ρ L (wP b o) (.pointer (some ⟨rb, d + o, none⟩))
 | sliceNil : VR ρ L sNil (.slice none 0 0)
 | slice (b e o n k rb d sz c : Nat) (a : Addr) : ρ b = some (rb, d, sz) → e < 256 → o < 1048576 → n < 1048576 → k < 1048576 → n ≤ c → c < 9223372036854775808 → (k = 0 ∨ k = c + 1) →
   (c = 0 ∨ (a = ⟨rb, d + o, none⟩ ∧ o + c * e ≤ sz)) → VR ρ L (wS b e o n k) (.slice (some a) n c)
 | agg (id m c : Nat) (vs : Array Value) : L id = some (.box 0 m c) → vs.size = m → (∀ i (h : i < vs.size), VR ρ L (getW c i) vs[i]) → c < 2 ^ (128 * m) → (∀ i, i < m → storable (getW c i) = true) → VR ρ L (mk 6 id) (.agg vs)
 | mapNil : VR ρ L 39 (.map none)
 | map (b rb d sz : Nat) : ρ b = some (rb, d, sz) → VR ρ L (mapW b) (.map (some rb))
 | str (s : ByteArray) : VR ρ L (strW s) (.string s)
 | ostr (j lo hi : Nat) : lo < 4194304 → hi < 4194304 → lo ≤ (E.txt j).size → (hi = 0 ∨ (E.txt j).size ≤ hi) → E.int (txtIx j) = ((E.txt j).size : Int) → VR ρ L (ostrW j lo hi) (.string (E.txt j))
 | poly (id p q s d lo hi : Nat) (z : Int) : L id = some (.poly p q s d lo hi) → PolyZ p q s d lo hi z → VR ρ L (polyW id) (.int .i64 z)
 | tup (id m c : Nat) (vs : Array Value) : L id = some (.box 1 m c) → vs.size = m → (∀ i (h : i < vs.size), VR ρ L (getW c i) vs[i]) → VR ρ L (mk 6 id) (.tuple vs)
 | clo (id m c f : Nat) (vs : Array Value) : L id = some (.box 2 m c) → getW c 0 = f → vs.size = m → (∀ i (h : i < vs.size), VR ρ L (getW c (i + 1)) vs[i]) →
   VR ρ L (mk 10 id) (.func (.func f) #[] vs)
 | iface (id t c : Nat) (v : Value) : L id = some (.box 3 t c) → VR ρ L c v → c < 340282366920938463463374607431768211456 → VR ρ L (mk 10 id) (.iface t v)
 | chan (id b rb d sz : Nat) : L id = some (.box 4 b 0) → ρ b = some (rb, d, sz) → VR ρ L (mk 10 id) (.chan (some rb))
 | fn (f : Nat) : VR ρ L (mk 8 f) (.func (.func f) #[] #[])
 | yld (l rb d sz : Nat) : ρ l = some (rb, d, sz) → VR ρ L (mk 13 l) (.func (.yield rb) #[] #[])
 | nilFunc : VR ρ L 7 .nilFunc
 | nilIface : VR ρ L 23 .nilIface
 | nilChan : VR ρ L 71 (.chan none)
 | sl0 (a : Addr) : VR ρ L 14 (.slice (some a) 0 0)
 | var (j lo hi : Nat) : lo < 1099511627776 → hi < 1099511627776 → (lo = 0 ∨ (lo : Int) - 549755813888 ≤ E.int j) → (hi = 0 ∨ E.int j ≤ (hi : Int) - 549755813888) →
   VR ρ L (wV j lo hi) (.int .i64 (E.int j))
 | u64 (p : Nat) : p < 18446744073709551616 → VR ρ L (mk 5 p) (.int .u64 (p : Int))
 | anyI (z : Int) : -9223372036854775808 ≤ z → z < 9223372036854775808 → VR ρ L 55 (.int .i64 z)
 | btw (t u : Nat) (z : Int) : u < 1152921504606846976 → (t : Int) ≤ z → z ≤ (u : Int) → VR ρ L (wG t u) (.int .i64 z)
 | opq (b j lo hi rb d sz c : Nat) : ρ b = some (rb, d, sz) → j < 1048576 → lo < 4194304 → hi < 4194304 → lo ≤ (E.lst j).length → (hi = 0 ∨ (E.lst j).length ≤ hi) → (E.lst j).length ≤ c → c ≤ sz → c < 9223372036854775808 →
   VR ρ L (wO b j lo hi) (.slice (some ⟨rb, d, none⟩) (E.lst j).length c)
def IsDf (o : Option Blk) : Prop := o = some .defr ∨ o = some .gone
structure Ext0 (ρ : Rho) (L : Look) (ρ' : Rho) (L' : Look) : Prop where
 place : ∀ b r, ρ b = some r → ρ' b = some r
 box : ∀ b k m c, L b = some (.box k m c) → L' b = some (.box k m c)
 poly : ∀ b p q s d lo hi, L b = some (.poly p q s d lo hi) → L' b = some (.poly p q s d lo hi)
 isdf : ∀ b, IsDf (L b) → IsDf (L' b)
structure Ext (ρ : Rho) (L : Look) (ρ' : Rho) (L' : Look) : Prop extends Ext0 ρ L ρ' L' where
 defr : ∀ b, L b = some .defr → L' b = some .defr
theorem Ext0.refl (ρ : Rho) (L : Look) : Ext0 ρ L ρ L := ⟨fun _ _ h => h, fun _ _ _ _ h => h, fun _ _ _ _ _ _ _ h => h, fun _ h => h⟩
theorem Ext0.trans {ρ ρ' ρ'' : Rho} {L L' L'' : Look} (h : Ext0 ρ L ρ' L') (k : Ext0 ρ' L' ρ'' L'') : Ext0 ρ L ρ'' L'' :=
 ⟨fun b r x => k.place b r (h.place b r x), fun b i m c x => k.box b i m c (h.box b i m c x), fun b p q s d lo hi x => k.poly b p q s d lo hi (h.poly b p q s d lo hi x), fun b x => k.isdf b (h.isdf b x)⟩
theorem Ext.refl (ρ : Rho) (L : Look) : Ext ρ L ρ L := ⟨.refl _ _, fun _ h => h⟩
theorem Ext.trans {ρ ρ' ρ'' : Rho} {L L' L'' : Look} (h : Ext ρ L ρ' L') (k : Ext ρ' L' ρ'' L'') : Ext ρ L ρ'' L'' :=
 ⟨h.toExt0.trans k.toExt0, fun b x => k.defr b (h.defr b x)⟩
theorem VR.mono0 {ρ ρ' : Rho} {L L' : Look} (e : Ext0 ρ L ρ' L') {w : Nat} {v : Value} (h : VR ρ L w v) : VR ρ' L' w v := by
 induction h with
 | undef => exact .undef
 | int p h => exact .int p h
 | bool b => exact .bool b
 | ptrNil => exact .ptrNil
 | ptr b o rb d sz h h1 => exact .ptr b o rb d sz (e.place _ _ h) h1
 | sliceNil => exact .sliceNil
 | slice b e' o n k rb d sz c a h h1 h2 h3 h4 h5 h55 h6 h7 => exact .slice b e' o n k rb d sz c a (e.place _ _ h) h1 h2 h3 h4 h5 h55 h6 h7
 | agg id m c vs h h1 _ h2 h3 ih => exact .agg id m c vs (e.box _ _ _ _ h) h1 ih h2 h3
 | mapNil => exact .mapNil
 | map b rb d sz h => exact .map b rb d sz (e.place _ _ h)
 | str s => exact .str s
 | ostr j lo hi h1 h2 h3 h4 h5 => exact .ostr j lo hi h1 h2 h3 h4 h5
 | poly id p q s d lo hi z h h1 => exact .poly id p q s d lo hi z (e.poly _ _ _ _ _ _ _ h) h1
 | tup id m c vs h h1 _ ih => exact .tup id m c vs (e.box _ _ _ _ h) h1 ih
 | clo id m c f vs h h1 h2 _ ih => exact .clo id m c f vs (e.box _ _ _ _ h) h1 h2 ih
 | iface id t c v h _ h2 ih => exact .iface id t c v (e.box _ _ _ _ h) ih h2
 | chan id b rb d sz h h1 => exact .chan id b rb d sz (e.box _ _ _ _ h) (e.place _ _ h1)
 | fn f => exact .fn f
 | yld l rb d sz h => exact .yld l rb d sz (e.place _ _ h)
 | nilFunc => exact .nilFunc
 | nilIface => exact .nilIface
 | nilChan => exact .nilChan
 | sl0 a => exact .sl0 a
 | var j lo hi h1 h2 h3 h4 => exact .var j lo hi h1 h2 h3 h4
 | anyI z h1 h2 => exact .anyI z h1 h2
 | btw t u z h1 h2 h3 => exact .btw t u z h1 h2 h3
 | u64 p h => exact .u64 p h
 | opq b j lo hi rb d sz c h h1 h2 h3 h4 h5 h6 h7 h8 => exact .opq b j lo hi rb d sz c (e.place _ _ h) h1 h2 h3 h4 h5 h6 h7 h8
theorem VR.mono {ρ ρ' : Rho} {L L' : Look} (e : Ext ρ L ρ' L') {w : Nat} {v : Value} (h : VR ρ L w v) : VR ρ' L' w v := h.mono0 e.toExt0
def TR (ρ : Rho) (L : Look) (nt T : Nat) (tmps : Array Value) : Prop := tmps.size = nt ∧ ∀ t, VR ρ L (getW T t) (tmps.getD t Go.undef)
theorem TR.mono0 {ρ ρ' : Rho} {L L' : Look} (e : Ext0 ρ L ρ' L') {nt T : Nat} {tmps : Array Value} (h : TR ρ L nt T tmps) : TR ρ' L' nt T tmps :=
 ⟨h.1, fun t => (h.2 t).mono0 e⟩
theorem TR.mono {ρ ρ' : Rho} {L L' : Look} (e : Ext ρ L ρ' L') {nt T : Nat} {tmps : Array Value} (h : TR ρ L nt T tmps) : TR ρ' L' nt T tmps := h.mono0 e.toExt0
theorem TR.set {ρ : Rho} {L : Look} {nt T : Nat} {tmps : Array Value} (h : TR ρ L nt T tmps) {d v : Nat} {x : Value} (hd : d < nt) (hv : v < 2 ^ 128) (hx : VR ρ L v x) :
  TR ρ L nt (setW T d v) (tmps.setIfInBounds d x) := by
 refine ⟨by simp [h.1], fun t => ?_⟩
 by_cases ht : t = d
 ·subst ht
  rw [z10 _ _ _ hv]
  have hs : t < tmps.size := by rw [h.1]; exact hd
  simp [Array.getD_eq_getD_getElem?, hs]; exact hx
 ·rw [z19 _ _ _ _ hv ht]
  have := h.2 t
  simp only [Array.getD_eq_getD_getElem?, Array.getElem?_setIfInBounds] at this ⊢
  rw [if_neg (by omega)]; exact this
def stOf : Nat → LoopState
 | 0 => .ready
 | 1 => .busy
 | 2 => .done
 | _ => .exhausted
def pendOf : Nat → Option Code
 | 0 => none
 | 1 => some .ret
 | i + 2 => some (.exit i)
def grp (L : Look) (b : Nat) : Nat :=
 match L b with
 | some (.cells _ _ g _ _ _) => g
 | some (.loop ..) => b + 1
 | some .defr => b + 1
 | some .gone => b + 1
 | some (.opq _ ro) => if ro = 0 then b + 1 else 0
 | some (.mp ..) => b + 1
 | some (.chn ..) => b + 1
 | _ => 0
def info (L : Look) (l : Nat) : Nat × Nat × Nat :=
 match L l with
 | some (.cells _ _ _ keep since maxl) => (keep, since, maxl)
 | _ => (l, 0, 0)
def live (L : Look) (b : Nat) : Prop := grp L b = 0 ∨ (info L (grp L b - 1)).1 = b ∨ (info L (grp L b - 1)).2.1 ≤ b
def CellsR (ρ : Rho) (L : Look) (m c : Nat) (vs : Array Value) : Prop :=
 vs.size = m ∧ c < 2 ^ (128 * m) ∧ ∀ i, i < m → ∃ u, vs[i]? = some u ∧ VR ρ L (getW c i) u ∧ storable (getW c i) = true
theorem CellsR.mono0 {ρ ρ' : Rho} {L L' : Look} (e : Ext0 ρ L ρ' L') {m c : Nat} {vs : Array Value} (h : CellsR ρ L m c vs) : CellsR ρ' L' m c vs :=
 ⟨h.1, h.2.1, fun i hi => let ⟨u, a, b, d⟩ := h.2.2 i hi; ⟨u, a, b.mono0 e, d⟩⟩
theorem CellsR.agg {ρ : Rho} {L : Look} {id m c : Nat} {vs : Array Value} (h : CellsR ρ L m c vs) (hL : L id = some (.box 0 m c)) : VR ρ L (mk 6 id) (.agg vs) :=
 .agg id m c vs hL h.1 (fun i hi => by
  obtain ⟨u, a, b, _⟩ := h.2.2 i (by rw [← h.1]; exact hi)
  rw [Array.getElem?_eq_getElem hi] at a; injection a with a; subst a; exact b) h.2.1 (fun i hi => by obtain ⟨u, _, _, d⟩ := h.2.2 i hi; exact d)
def KR (ρ : Rho) (L : Look) (ag m c : Nat) (v : Value) : Prop :=
 (ag = 0 ∧ storable c = true ∧ VR ρ L c v) ∨ (ag = 1 ∧ allInt m c = true ∧ ∃ vs, v = .agg vs ∧ CellsR ρ L m c vs)
theorem KR.mono0 {ρ ρ' : Rho} {L L' : Look} (e : Ext0 ρ L ρ' L') {ag m c : Nat} {v : Value} (h : KR ρ L ag m c v) : KR ρ' L' ag m c v := by
 rcases h with ⟨h1, h2, h3⟩ | ⟨h1, h0, vs, h2, h3⟩
 ·exact .inl ⟨h1, h2, h3.mono0 e⟩
 ·exact .inr ⟨h1, h0, vs, h2, h3.mono0 e⟩
def BR (ρ : Rho) (L : Look) (w : World) (r : Nat × Nat × Nat) : Blk → Prop
 | .cells n c g _ _ _ => ∃ cs ty fz, w.heap[r.1]? = some (.cells cs ty fz) ∧ r.2.1 + r.2.2 ≤ cs.size ∧ n ≤ r.2.2 ∧ (g ≠ 0 → fz = (0, 0)) ∧
   ∀ i, i < n → ∃ v, cs[r.2.1 + i]? = some v ∧ VR ρ L (getW c i) v ∧ storable (getW c i) = true
 | .loop T nt ps assign body st pend df => ∃ lp : Loop, w.heap[r.1]? = some (.loop lp) ∧ lp.state = stOf st ∧ lp.pending = pendOf pend ∧ lp.params.toList = ps ∧
   lp.assign = assign ∧ lp.body = body ∧ TR ρ L nt T lp.tmps ∧ ∃ q, ρ df = some q ∧ lp.defers = q.1 ∧ IsDf (L df)
 | .defr => w.heap[r.1]? = some (.deferred (some []))
 | .gone => True
 | .opq j ro => ro = 2 ∨ ∃ cs ty fz, w.heap[r.1]? = some (.cells cs ty fz) ∧ r.2.1 + r.2.2 ≤ cs.size ∧ (E.lst j).length ≤ r.2.2 ∧ (ro = 0 → fz = (0, 0)) ∧
   ∀ i, i < (E.lst j).length → cs[r.2.1 + i]? = (E.lst j)[i]?
 | .box .. => False
 | .poly .. => False
 | .mp ag m es => ∃ ents clock, w.heap[r.1]? = some (.map ents clock) ∧ (ag ≠ 3 → ents.size = es.length) ∧ (ag ≠ 3 →
   ∀ (i : Nat) (kv : Nat × Nat), es[i]? = some kv → ∃ e : MapEntry, ents[i]? = some e ∧ KR ρ L ag m kv.1 e.key ∧ VR ρ L kv.2 e.val ∧ storable kv.2 = true)
 | .chn cap es cl => ∃ vs sn rc tm, w.heap[r.1]? = some (.chan cap vs (Nat.beq (Nat.mod cl 2) 1) sn rc tm) ∧ vs.size = es.length ∧ (cl < 2 → sn = es.length ∧ rc = 0 ∧ tm = false) ∧ ∀ i (h : i < vs.size), VR ρ L (es.getD i 0) vs[i]
structure Sim (base : Nat) (ρ : Rho) (L : Look) (w : World) : Prop where
 blk : ∀ b r, ρ b = some r → ∃ k, L b = some k ∧ (live L b → BR ρ L w r k)
 sep : ∀ b b' r r', ρ b = some r → ρ b' = some r' → live L b → live L b' → grp L b ≠ 0 → grp L b' ≠ 0 → grp L b ≠ grp L b' → r.1 ≠ r'.1
 same : ∀ b b' r r', ρ b = some r → ρ b' = some r' → live L b → live L b' → grp L b ≠ 0 → grp L b = grp L b' → r.1 = r'.1 → r.2.1 = r'.2.1
 mx : ∀ b r n c g k s m, ρ b = some r → live L b → L b = some (.cells n c g k s m) → g ≠ 0 → n ≤ (info L (g - 1)).2.2
 rw : ∀ b r, ρ b = some r → grp L b ≠ 0 → base ≤ r.1
 ro : ∀ b r, ρ b = some r → grp L b = 0 → r.1 < base ∨ ∃ o, E.kept r.1 = some o
 bnd : ∀ b r, ρ b = some r → r.1 < w.heap.size
 bs : base ≤ w.heap.size
 ld : ∀ b r, ρ b = some r → grp L b ≠ 0 → (∃ q, ρ (grp L b - 1) = some q) ∧ grp L (grp L b - 1) = grp L b
 kind : ∀ b n c g k s m, L b = some (.cells n c g k s m) → g ≠ 0 → ∃ n' c' k' s' m', L (g - 1) = some (.cells n' c' g k' s' m')
 pol : ∀ b p q s d lo hi, L b = some (.poly p q s d lo hi) → 64 ≤ d → ∃ z, PolyZ p q s d lo hi z
 rk : ∀ b r, ρ b = some r → grp L b ≠ 0 → E.kept r.1 = none
 kp : ∀ k o, E.kept k = some o → w.heap[k]? = some o
theorem Sim.apart {base : Nat} {ρ : Rho} {L : Look} {w : World} (hs : Sim base ρ L w) {j l : Nat} {q r : Nat × Nat × Nat} (hj : ρ j = some q) (h0 : grp L j = 0) (hl : ρ l = some r) (h1 : grp L l ≠ 0) : q.1 ≠ r.1 := by
 have a2 := hs.rw l r hl h1
 rcases hs.ro j q hj h0 with a1 | ⟨o, a1⟩
 ·omega
 ·intro h
  have a3 := hs.rk l r hl h1
  rw [h] at a1; rw [a1] at a3; cases a3
def Low (base s : Nat) : Prop := base ≤ s ∧ ∀ k, s ≤ k → E.kept k = none
theorem Sim.kptNone {base : Nat} {ρ : Rho} {L : Look} {w : World} (hs : Sim base ρ L w) {k : Nat} (h : w.heap.size ≤ k) : E.kept k = none := by
 cases h1 : E.kept k with
 | none => rfl
 | some o =>
  have := (Array.getElem?_eq_some_iff.1 (hs.kp k o h1)).1
  omega
theorem Sim.low {base : Nat} {ρ : Rho} {L : Look} {w : World} (hs : Sim base ρ L w) : Low base w.heap.size := ⟨hs.bs, fun _ h => hs.kptNone h⟩
def Fresh (n : Nat) (ρ : Rho) (L : Look) : Prop := ∀ b, n ≤ b → L b = none ∧ ρ b = none
def Agree (H : Trie) (L : Look) : Prop := Dep 14 H ∧ ∀ b k, tget H b = some k → L b = some k
structure Loc (_H : Trie) (n : Nat) (ρ : Rho) (L : Look) (ρ' : Rho) (L' : Look) : Prop where
 bare : ∀ b, b < n → ρ b = none → L' b = L b ∧ ρ' b = none
theorem Loc.refl (H : Trie) (n : Nat) (ρ : Rho) (L : Look) : Loc H n ρ L ρ L := ⟨fun _ _ h => ⟨rfl, h⟩⟩
theorem Loc.any {H H' : Trie} {n : Nat} {ρ ρ' : Rho} {L L' : Look} (h : Loc H n ρ L ρ' L') : Loc H' n ρ L ρ' L' := ⟨h.bare⟩
theorem Loc.trans {H H1 : Trie} {n n1 : Nat} {ρ ρ' ρ'' : Rho} {L L' L'' : Look} (h : Loc H n ρ L ρ' L') (hn : n ≤ n1) (k : Loc H1 n1 ρ' L' ρ'' L'') : Loc H n ρ L ρ'' L'' := by
 refine ⟨fun b hb hb2 => ?_⟩
 obtain ⟨a1, a2⟩ := h.bare b hb hb2
 obtain ⟨b1, b2⟩ := k.bare b (Nat.lt_of_lt_of_le hb hn) a2
 exact ⟨b1.trans a1, b2⟩
def upd (L : Look) (b : Nat) (k : Blk) : Look := fun j => if j = b then some k else L j
theorem upd_same (L : Look) (b : Nat) (k : Blk) : upd L b k b = some k := by simp [upd]
theorem upd_ne (L : Look) {b j : Nat} (k : Blk) (h : j ≠ b) : upd L b k j = L j := by simp [upd, h]
theorem Agree.hset {H : Trie} {L : Look} (h : Agree H L) {i : Nat} (hi : i < 16384) (k : Blk) : Agree (hset H i k) (upd L i k) := by
 refine ⟨z5r _ _ _ _ h.1, fun b k' hb => ?_⟩
 unfold Eng.hset at hb
 rw [z8j 14 _ _ _ _ h.1 (by simpa using hi)] at hb
 by_cases hbi : b = i
 ·subst hbi; rw [if_pos rfl] at hb; rw [upd_same]; exact hb
 ·rw [if_neg hbi] at hb; rw [upd_ne _ _ hbi]; exact h.2 _ _ hb
theorem z1d {H : Trie} (h : Dep 14 H) {i : Nat} (hi : i < 16384) (k : Blk) (j : Nat) : tget (hset H i k) j = if j = i then some k else tget H j := by
 unfold Eng.hset; exact z8j 14 _ _ _ _ h (by simpa using hi)
theorem z0x {L : Look} {b n c g k s m : Nat} (h : L b = some (.cells n c g k s m)) : grp L b = g := by simp [grp, h]
theorem zaj (b k s : Nat) : vchk b k s = true ↔ k = b ∨ s ≤ b := by
 unfold vchk; rw [zf]
 by_cases h : k = b
 ·simp [h]
 ·have : Nat.beq k b = false := by simp [nbeq, h]
  simp [this, h]
theorem z1E {H : Trie} {L : Look} (ha : Agree H L) {b n c g k s m : Nat} (hb : L b = some (.cells n c g k s m)) (hv : validE H b g k s = true) : live L b := by
 have hg := z0x hb
 unfold live
 rw [hg]
 by_cases h0 : g = 0
 ·exact .inl h0
 right
 unfold validE at hv
 have h0' : Nat.beq g 0 = false := by simp [nbeq, h0]
 rw [h0', z0f] at hv
 by_cases h1 : g = b + 1
 ·have h1' : Nat.beq g (Nat.succ b) = true := by simp [h1]
  rw [h1', z0b, zaj] at hv
  have : g - 1 = b := by omega
  rw [this]; simp only [info, hb]; exact hv
 ·have h1' : Nat.beq g (Nat.succ b) = false := by simp [nbeq, h1]
  rw [h1', z0f] at hv
  cases ht : tget H (Nat.pred g) with
  | none => rw [ht] at hv; cases hv
  | some kk =>
   rw [ht] at hv
   cases kk with
   | cells n' c' g' k' s' m' =>
    have hl := ha.2 _ _ ht
    have hp : Nat.pred g = g - 1 := rfl
    rw [hp] at hl
    simp only [info, hl]
    exact (zaj _ _ _).1 hv
   | box => cases hv
   | loop => cases hv
   | defr => cases hv
   | gone => cases hv
   | opq => cases hv
   | mp => cases hv
   | chn => cases hv
   | poly => cases hv
end Go.Eng
namespace Go.Eng
open Go Go.RowKit
variable [E : Env]
theorem BR.mono0 {ρ ρ' : Rho} {L L' : Look} (e : Ext0 ρ L ρ' L') {w w' : World} {r : Nat × Nat × Nat} (hw : w'.heap[r.1]? = w.heap[r.1]?) {k : Blk} (h : BR ρ L w r k) : BR ρ' L' w' r k := by
 cases k with
 | cells n c g keep since maxl =>
  obtain ⟨cs, ty, fz, h1, h2, h3, h4, h5⟩ := h
  exact ⟨cs, ty, fz, hw.trans h1, h2, h3, h4, fun i hi => let ⟨v, a, b, c⟩ := h5 i hi; ⟨v, a, b.mono0 e, c⟩⟩
 | loop T nt ps assign body st pend df =>
  obtain ⟨lp, h1, h2, h3, h4, h5, h6, h7, q, h8, h9, h10⟩ := h
  exact ⟨lp, hw.trans h1, h2, h3, h4, h5, h6, h7.mono0 e, q, e.place _ _ h8, h9, e.isdf _ h10⟩
 | defr => exact hw.trans h
 | gone => exact trivial
 | opq j ro =>
  rcases h with h | h
  ·exact .inl h
  obtain ⟨cs, ty, fz, h1, h2, h3, h4, h5⟩ := h
  exact .inr ⟨cs, ty, fz, hw.trans h1, h2, h3, h4, h5⟩
 | box => exact h
 | poly => exact h
 | mp ag m es =>
  obtain ⟨ents, clock, h1, h2, h3⟩ := h
  exact ⟨ents, clock, hw.trans h1, h2, fun h0 i kv hi => let ⟨en, a, b, c, d⟩ := h3 h0 i kv hi; ⟨en, a, b.mono0 e, c.mono0 e, d⟩⟩
 | chn cap es cl =>
  obtain ⟨vs, sn, rc, tm, h1, h2, h4, h3⟩ := h
  exact ⟨vs, sn, rc, tm, hw.trans h1, h2, h4, fun i hi => (h3 i hi).mono0 e⟩
theorem BR.mono {ρ ρ' : Rho} {L L' : Look} (e : Ext ρ L ρ' L') {w w' : World} {r : Nat × Nat × Nat} (hw : w'.heap[r.1]? = w.heap[r.1]?) {k : Blk} (h : BR ρ L w r k) : BR ρ' L' w' r k := h.mono0 e.toExt0 hw
theorem Fresh.lt {n : Nat} {ρ : Rho} {L : Look} (h : Fresh n ρ L) {b : Nat} {r : Nat × Nat × Nat} (hb : ρ b = some r) : b < n := by
 rcases Nat.lt_or_ge b n with h1 | h1
 ·exact h1
 ·rw [(h b h1).2] at hb; cases hb
theorem Fresh.ltL {n : Nat} {ρ : Rho} {L : Look} (h : Fresh n ρ L) {b : Nat} {k : Blk} (hb : L b = some k) : b < n := by
 rcases Nat.lt_or_ge b n with h1 | h1
 ·exact h1
 ·rw [(h b h1).1] at hb; cases hb
theorem Fresh.mono {n n' : Nat} {ρ : Rho} {L : Look} (h : Fresh n ρ L) (hn : n ≤ n') : Fresh n' ρ L := fun b hb => h b (Nat.le_trans hn hb)
def updR (ρ : Rho) (b : Nat) (r : Nat × Nat × Nat) : Rho := fun j => if j = b then some r else ρ j
theorem zU (ρ : Rho) (b : Nat) (r : Nat × Nat × Nat) : updR ρ b r b = some r := by simp [updR]
theorem z1T (ρ : Rho) {b j : Nat} (r : Nat × Nat × Nat) (h : j ≠ b) : updR ρ b r j = ρ j := by simp [updR, h]
theorem z1n {L : Look} {b j : Nat} {k : Blk} (h : j ≠ b) : grp (upd L b k) j = grp L j := by simp [grp, upd_ne _ _ h]
theorem z0K {L : Look} {b j : Nat} {k : Blk} (h : j ≠ b) : info (upd L b k) j = info L j := by simp [info, upd_ne _ _ h]
theorem z2Y {L : Look} {b j : Nat} {k : Blk} (h : j ≠ b) (hl : grp L j = 0 ∨ grp L j - 1 ≠ b) : live (upd L b k) j ↔ live L j := by
 unfold live
 rw [z1n h]
 rcases hl with h0 | h0
 ·simp [h0]
 ·rw [z0K h0]
theorem IsDf.some {o : Option Blk} (h : IsDf o) : ∃ k, o = some k := by rcases h with h | h <;> exact ⟨_, h⟩
theorem Ext.fresh {n : Nat} {ρ : Rho} {L : Look} (hf : Fresh n ρ L) (r : Nat × Nat × Nat) (k : Blk) : Ext ρ L (updR ρ n r) (upd L n k) := by
 refine ⟨⟨fun b q h => ?_, fun b i m c h => ?_, fun b p q s d lo hi h => ?_, fun b h => ?_⟩, fun b h => ?_⟩
 ·rw [z1T _ _ (by have := hf.lt h; omega)]; exact h
 ·rw [upd_ne _ _ (by have := hf.ltL h; omega)]; exact h
 ·rw [upd_ne _ _ (by have := hf.ltL h; omega)]; exact h
 ·obtain ⟨k', hk⟩ := h.some
  rw [upd_ne _ _ (by have := hf.ltL hk; omega)]; exact h
 ·rw [upd_ne _ _ (by have := hf.ltL h; omega)]; exact h
theorem Ext.freshL {n : Nat} {ρ : Rho} {L : Look} (hf : Fresh n ρ L) (k : Blk) : Ext ρ L ρ (upd L n k) := by
 refine ⟨⟨fun b q h => h, fun b i m c h => ?_, fun b p q s d lo hi h => ?_, fun b h => ?_⟩, fun b h => ?_⟩
 ·rw [upd_ne _ _ (by have := hf.ltL h; omega)]; exact h
 ·rw [upd_ne _ _ (by have := hf.ltL h; omega)]; exact h
 ·obtain ⟨k', hk⟩ := h.some
  rw [upd_ne _ _ (by have := hf.ltL hk; omega)]; exact h
 ·rw [upd_ne _ _ (by have := hf.ltL h; omega)]; exact h
theorem Fresh.upd {n : Nat} {ρ : Rho} {L : Look} (hf : Fresh n ρ L) (r : Nat × Nat × Nat) (k : Blk) : Fresh (n + 1) (updR ρ n r) (upd L n k) := fun b hb => by
 rw [z1T _ _ (by omega), upd_ne _ _ (by omega)]; exact hf b (by omega)
theorem Fresh.updL {n : Nat} {ρ : Rho} {L : Look} (hf : Fresh n ρ L) (k : Blk) : Fresh (n + 1) ρ (Eng.upd L n k) := fun b hb => by
 rw [upd_ne _ _ (by omega)]; exact hf b (by omega)
theorem Loc.fresh {H : Trie} {n : Nat} {ρ : Rho} {L : Look} (r : Nat × Nat × Nat) (k : Blk) : Loc H n ρ L (updR ρ n r) (upd L n k) :=
 ⟨fun b hb h => ⟨upd_ne _ _ (by omega), by rw [z1T _ _ (by omega)]; exact h⟩⟩
theorem Loc.freshL {H : Trie} {n : Nat} {ρ : Rho} {L : Look} (k : Blk) : Loc H n ρ L ρ (upd L n k) :=
 ⟨fun b hb h => ⟨upd_ne _ _ (by omega), h⟩⟩
def OwnK (n : Nat) : Blk → Prop
 | .cells m _ g keep since maxl => g = n + 1 ∧ keep = n ∧ since = n ∧ m ≤ maxl
 | .loop .. => True
 | .defr => True
 | .gone => True
 | .opq _ ro => ro = 0
 | .mp .. => True
 | .chn .. => True
 | .box .. => False
 | .poly .. => False
theorem OwnK.grp {n : Nat} {k : Blk} (h : OwnK n k) (L : Look) : grp (upd L n k) n = n + 1 := by
 cases k with
 | cells => simp [Eng.grp, upd_same, h.1]
 | loop => simp [Eng.grp, upd_same]
 | defr => simp [Eng.grp, upd_same]
 | gone => simp [Eng.grp, upd_same]
 | opq j ro => have : ro = 0 := h; simp [Eng.grp, upd_same, this]
 | mp => simp [Eng.grp, upd_same]
 | chn => simp [Eng.grp, upd_same]
 | box => exact h.elim
 | poly => exact h.elim
theorem OwnK.live {n : Nat} {k : Blk} (h : OwnK n k) (L : Look) : live (upd L n k) n := by
 right; left
 rw [h.grp]
 cases k with
 | cells => simp [info, upd_same, h.2.1]
 | loop => simp [info, upd_same]
 | defr => simp [info, upd_same]
 | gone => simp [info, upd_same]
 | opq => simp [info, upd_same]
 | mp => simp [info, upd_same]
 | chn => simp [info, upd_same]
 | box => exact h.elim
 | poly => exact h.elim
theorem Sim.fresh {base : Nat} {ρ : Rho} {L : Look} {w w' : World} {n : Nat} (hs : Sim base ρ L w) (hf : Fresh n ρ L) {o : Obj} (hw : w'.heap = w.heap.push o) {k : Blk} (hk : OwnK n k) {sz : Nat}
  (hb : BR (updR ρ n (w.heap.size, 0, sz)) (upd L n k) w' (w.heap.size, 0, sz) k) : Sim base (updR ρ n (w.heap.size, 0, sz)) (upd L n k) w' := by
 have hsz : w'.heap.size = w.heap.size + 1 := by rw [hw]; simp
 have hold : ∀ x, x < w.heap.size → w'.heap[x]? = w.heap[x]? := fun x hx => by rw [hw, Array.getElem?_push, if_neg (by omega)]
 have e : Ext ρ L (updR ρ n (w.heap.size, 0, sz)) (upd L n k) := .fresh hf _ _
 have old : ∀ b r, updR ρ n (w.heap.size, 0, sz) b = some r → b ≠ n → ρ b = some r := fun b r h hne => by rw [z1T _ _ hne] at h; exact h
 have gold : ∀ b, b ≠ n → grp (upd L n k) b = grp L b := fun b hb => z1n hb
 have ldne : ∀ b r, ρ b = some r → grp L b = 0 ∨ grp L b - 1 ≠ n := fun b r h => by
  by_cases h0 : grp L b = 0
  ·exact .inl h0
  ·obtain ⟨⟨q, hq⟩, _⟩ := hs.ld b r h h0
   have := hf.lt hq
   exact .inr (by omega)
 have lold : ∀ b r, ρ b = some r → b ≠ n → (live (upd L n k) b ↔ live L b) := fun b r h hne => z2Y hne (ldne b r h)
 have iold : ∀ b r, ρ b = some r → grp L b ≠ 0 → info (upd L n k) (grp L b - 1) = info L (grp L b - 1) := fun b r h h0 => z0K ((ldne b r h).resolve_left h0)
 have gn : grp (upd L n k) n = n + 1 := hk.grp L
 refine ⟨?_, ?_, ?_, ?_, ?_, ?_, ?_, ?_, ?_, ?_, ?_, ?_, ?_⟩
 ·intro b r h
  by_cases hne : b = n
  ·subst hne
   rw [zU] at h; injection h with h; subst h
   exact ⟨k, upd_same _ _ _, fun _ => hb⟩
  ·have h' := old b r h hne
   obtain ⟨kk, h1, h2⟩ := hs.blk b r h'
   refine ⟨kk, by rw [upd_ne _ _ hne]; exact h1, fun hl => ?_⟩
   exact (h2 ((lold b r h' hne).1 hl)).mono e (hold _ (hs.bnd b r h'))
 ·intro b b' r r' h h' hl hl' hg hg' hgg
  by_cases hne : b = n
  ·by_cases hne' : b' = n
   ·subst hne; subst hne'; exact absurd rfl hgg
   ·subst hne
    rw [zU] at h; injection h with h; subst h
    have := hs.bnd b' r' (old b' r' h' hne')
    simp; omega
  ·by_cases hne' : b' = n
   ·subst hne'
    rw [zU] at h'; injection h' with h'; subst h'
    have := hs.bnd b r (old b r h hne)
    simp; omega
   ·have k1 := old b r h hne
    have k2 := old b' r' h' hne'
    rw [gold b hne] at hg hgg
    rw [gold b' hne'] at hg' hgg
    exact hs.sep b b' r r' k1 k2 ((lold b r k1 hne).1 hl) ((lold b' r' k2 hne').1 hl') hg hg' hgg
 ·intro b b' r r' h h' hl hl' hg hgg hrr
  by_cases hne : b = n
  ·by_cases hne' : b' = n
   ·subst hne; subst hne'; rw [h] at h'; injection h' with h'; rw [h']
   ·subst hne
    rw [zU] at h; injection h with h; subst h
    have := hs.bnd b' r' (old b' r' h' hne')
    simp at hrr; omega
  ·by_cases hne' : b' = n
   ·subst hne'
    rw [zU] at h'; injection h' with h'; subst h'
    have := hs.bnd b r (old b r h hne)
    simp at hrr; omega
   ·have k1 := old b r h hne
    have k2 := old b' r' h' hne'
    rw [gold b hne] at hg hgg
    rw [gold b' hne'] at hgg
    exact hs.same b b' r r' k1 k2 ((lold b r k1 hne).1 hl) ((lold b' r' k2 hne').1 hl') hg hgg hrr
 ·intro b r m c g kk s mm h hl hL hg
  by_cases hne : b = n
  ·subst hne
   rw [upd_same] at hL; injection hL with hL; subst hL
   obtain ⟨h1, h2, h3, h4⟩ := hk
   subst h1
   simp [info, upd_same, h4]
  ·have h' := old b r h hne
   rw [upd_ne _ _ hne] at hL
   have hg0 : grp L b = g := z0x hL
   have := iold b r h' (by rw [hg0]; exact hg)
   rw [hg0] at this
   rw [this]
   exact hs.mx b r m c g kk s mm h' ((lold b r h' hne).1 hl) hL hg
 ·intro b r h hg
  by_cases hne : b = n
  ·subst hne; rw [zU] at h; injection h with h; subst h; exact hs.bs
  ·rw [gold b hne] at hg; exact hs.rw b r (old b r h hne) hg
 ·intro b r h hg
  by_cases hne : b = n
  ·subst hne; rw [gn] at hg; omega
  ·rw [gold b hne] at hg; exact hs.ro b r (old b r h hne) hg
 ·intro b r h
  by_cases hne : b = n
  ·subst hne; rw [zU] at h; injection h with h; subst h; simp; omega
  ·have := hs.bnd b r (old b r h hne); omega
 ·have := hs.bs; omega
 ·intro b r h hg
  by_cases hne : b = n
  ·subst hne; rw [gn]; exact ⟨⟨_, zU _ _ _⟩, gn⟩
  ·have h' := old b r h hne
   rw [gold b hne] at hg ⊢
   obtain ⟨⟨q, hq⟩, h2⟩ := hs.ld b r h' hg
   exact ⟨⟨q, e.place _ _ hq⟩, by rw [gold _ ((ldne b r h').resolve_left hg)]; exact h2⟩
 ·intro b m c g kk s mm hL hg
  by_cases hne : b = n
  ·subst hne
   rw [upd_same] at hL; injection hL with hL; subst hL
   obtain ⟨h1, _⟩ := hk
   subst h1
   exact ⟨m, c, kk, s, mm, upd_same _ _ _⟩
  ·rw [upd_ne _ _ hne] at hL
   obtain ⟨a1, a2, a3, a4, a5, a6⟩ := hs.kind b m c g kk s mm hL hg
   exact ⟨a1, a2, a3, a4, a5, by rw [upd_ne _ _ (by have := hf.ltL a6; omega)]; exact a6⟩
 ·intro b p q s d lo hi hL h64
  by_cases hne : b = n
  ·subst hne; rw [upd_same] at hL; injection hL with hL; subst hL; exact hk.elim
  ·rw [upd_ne _ _ hne] at hL; exact hs.pol b p q s d lo hi hL h64
 ·intro b r h hg
  by_cases hne : b = n
  ·subst hne; rw [zU] at h; injection h with h; subst h; exact hs.kptNone (Nat.le_refl _)
  ·rw [gold b hne] at hg; exact hs.rk b r (old b r h hne) hg
 ·intro x o hx
  have := hs.kp x o hx
  rw [hold x (Array.getElem?_eq_some_iff.1 this).1]; exact this
def IsBox : Blk → Prop
 | .box .. => True
 | .poly _ _ _ d _ _ => d < 64
 | _ => False
theorem IsBox.cells {n c g k s m : Nat} (h : IsBox (.cells n c g k s m)) : False := h
def BoxG (k : Blk) : Prop := match k with | .box .. => True | .poly p q s d lo hi => 64 ≤ d → ∃ z, PolyZ p q s d lo hi z | _ => False
theorem Sim.boxG {base : Nat} {ρ : Rho} {L : Look} {w : World} {n : Nat} (hs : Sim base ρ L w) (hf : Fresh n ρ L) {k : Blk} (hk : BoxG k) : Sim base ρ (upd L n k) w := by
 have e : Ext ρ L ρ (upd L n k) := .freshL hf _
 have ne : ∀ b r, ρ b = some r → b ≠ n := fun b r h => by have := hf.lt h; omega
 have gold : ∀ b r, ρ b = some r → grp (upd L n k) b = grp L b := fun b r h => z1n (ne b r h)
 have ldne : ∀ b r, ρ b = some r → grp L b = 0 ∨ grp L b - 1 ≠ n := fun b r h => by
  by_cases h0 : grp L b = 0
  ·exact .inl h0
  ·obtain ⟨⟨q, hq⟩, _⟩ := hs.ld b r h h0
   have := hf.lt hq
   exact .inr (by omega)
 have lold : ∀ b r, ρ b = some r → (live (upd L n k) b ↔ live L b) := fun b r h => z2Y (ne b r h) (ldne b r h)
 refine ⟨?_, ?_, ?_, ?_, ?_, ?_, ?_, ?_, ?_, ?_, ?_, ?_, ?_⟩
 ·intro b r h
  obtain ⟨kk, h1, h2⟩ := hs.blk b r h
  exact ⟨kk, by rw [upd_ne _ _ (ne b r h)]; exact h1, fun hl => (h2 ((lold b r h).1 hl)).mono e rfl⟩
 ·intro b b' r r' h h' hl hl' hg hg' hgg
  rw [gold b r h] at hg hgg
  rw [gold b' r' h'] at hg' hgg
  exact hs.sep b b' r r' h h' ((lold b r h).1 hl) ((lold b' r' h').1 hl') hg hg' hgg
 ·intro b b' r r' h h' hl hl' hg hgg hrr
  rw [gold b r h] at hg hgg
  rw [gold b' r' h'] at hgg
  exact hs.same b b' r r' h h' ((lold b r h).1 hl) ((lold b' r' h').1 hl') hg hgg hrr
 ·intro b r m' c' g kk s mm h hl hL hg
  rw [upd_ne _ _ (ne b r h)] at hL
  have hg0 : grp L b = g := z0x hL
  have hi : info (upd L n k) (g - 1) = info L (g - 1) := z0K (by have := (ldne b r h).resolve_left (by rw [hg0]; exact hg); rw [hg0] at this; exact this)
  rw [hi]
  exact hs.mx b r m' c' g kk s mm h ((lold b r h).1 hl) hL hg
 ·intro b r h hg
  rw [gold b r h] at hg; exact hs.rw b r h hg
 ·intro b r h hg
  rw [gold b r h] at hg; exact hs.ro b r h hg
 ·exact hs.bnd
 ·exact hs.bs
 ·intro b r h hg
  rw [gold b r h] at hg ⊢
  obtain ⟨⟨q, hq⟩, h2⟩ := hs.ld b r h hg
  exact ⟨⟨q, hq⟩, by rw [gold _ q hq]; exact h2⟩
 ·intro b m' c' g kk s mm hL hg
  by_cases hne : b = n
  ·subst hne; rw [upd_same] at hL; injection hL with hL; subst hL; exact hk.elim
  ·rw [upd_ne _ _ hne] at hL
   obtain ⟨a1, a2, a3, a4, a5, a6⟩ := hs.kind b m' c' g kk s mm hL hg
   exact ⟨a1, a2, a3, a4, a5, by rw [upd_ne _ _ (by have := hf.ltL a6; omega)]; exact a6⟩
 ·intro b p q s d lo hi hL h64
  by_cases hne : b = n
  ·subst hne; rw [upd_same] at hL; injection hL with hL; subst hL; exact hk h64
  ·rw [upd_ne _ _ hne] at hL; exact hs.pol b p q s d lo hi hL h64
 ·intro b r h hg
  rw [gold b r h] at hg; exact hs.rk b r h hg
 ·exact hs.kp
theorem IsBox.g {k : Blk} (h : IsBox k) : BoxG k := by
 cases k with
 | box => exact trivial
 | poly p q s d lo hi => intro h64; exact absurd (show d < 64 from h) (by omega)
 | _ => exact h.elim
theorem Sim.boxB {base : Nat} {ρ : Rho} {L : Look} {w : World} {n : Nat} (hs : Sim base ρ L w) (hf : Fresh n ρ L) {k : Blk} (hk : IsBox k) : Sim base ρ (upd L n k) w := hs.boxG hf hk.g
theorem Sim.box {base : Nat} {ρ : Rho} {L : Look} {w : World} {n : Nat} (hs : Sim base ρ L w) (hf : Fresh n ρ L) (kd m c : Nat) : Sim base ρ (upd L n (.box kd m c)) w := hs.boxB hf trivial
theorem Sim.heap {base : Nat} {ρ : Rho} {L : Look} {w w' : World} (hs : Sim base ρ L w) (hw : w'.heap = w.heap) : Sim base ρ L w' :=
 ⟨fun b r h => let ⟨k, h1, h2⟩ := hs.blk b r h; ⟨k, h1, fun hl => (h2 hl).mono (Ext.refl _ _) (by rw [hw])⟩, hs.sep, hs.same, hs.mx, hs.rw, hs.ro, fun b r h => by rw [hw]; exact hs.bnd b r h, by rw [hw]; exact hs.bs, hs.ld, hs.kind, hs.pol, hs.rk, fun k o h => by rw [hw]; exact hs.kp k o h⟩
def NoRow : Blk → Prop
 | .loop .. => True
 | .defr => True
 | .gone => True
 | .opq _ ro => ro = 0
 | .mp .. => True
 | .chn .. => True
 | _ => False
theorem NoRow.grp {L : Look} {l : Nat} {k : Blk} (h : NoRow k) (hL : L l = some k) : grp L l = l + 1 := by
 cases k <;> simp_all [NoRow, Eng.grp]
theorem NoRow.info {L : Look} {l : Nat} {k : Blk} (h : NoRow k) (hL : L l = some k) : info L l = (l, 0, 0) := by
 cases k <;> simp_all [NoRow, Eng.info]
theorem NoRow.live {L : Look} {l : Nat} {k : Blk} (h : NoRow k) (hL : L l = some k) : live L l := by
 right; left; rw [h.grp hL, Nat.add_sub_cancel, h.info hL]
theorem Sim.swap {base : Nat} {ρ : Rho} {L : Look} {w w' : World} {l : Nat} {r : Nat × Nat × Nat} {k0 k' : Blk} (hs : Sim base ρ L w) (hl : ρ l = some r) (hL : L l = some k0) (h0 : NoRow k0) (h1 : NoRow k')
  (e : Ext0 ρ L ρ (upd L l k')) (hw : ∀ x, x ≠ r.1 → w'.heap[x]? = w.heap[x]?) (hsz : w'.heap.size = w.heap.size) (hb : BR ρ (upd L l k') w' r k') : Sim base ρ (upd L l k') w' := by
 have gg : ∀ j, grp (upd L l k') j = grp L j := by
  intro j
  by_cases hj : j = l
  ·subst hj; rw [h1.grp (upd_same _ _ _), h0.grp hL]
  ·exact z1n hj
 have ii : ∀ j, info (upd L l k') j = info L j := by
  intro j
  by_cases hj : j = l
  ·subst hj; rw [h1.info (upd_same _ _ _), h0.info hL]
  ·exact z0K hj
 have ll : ∀ j, live (upd L l k') j ↔ live L j := by intro j; unfold live; rw [gg, ii]
 refine ⟨?_, ?_, ?_, ?_, ?_, ?_, ?_, ?_, ?_, ?_, ?_, ?_, ?_⟩
 ·intro j q hj
  by_cases hjl : j = l
  ·subst hjl; rw [hl] at hj; injection hj with hj; subst hj
   exact ⟨k', upd_same _ _ _, fun _ => hb⟩
  ·obtain ⟨k, hk, hbk⟩ := hs.blk j q hj
   refine ⟨k, by rw [upd_ne _ _ hjl]; exact hk, fun hlj => ?_⟩
   have hlj' := (ll j).1 hlj
   refine (hbk hlj').mono0 e (hw _ ?_)
   have gl : grp L l ≠ 0 := by rw [h0.grp hL]; omega
   by_cases hz : grp L j = 0
   ·exact hs.apart hj hz hl gl
   ·refine hs.sep j l q r hj hl hlj' (h0.live hL) hz gl ?_
    rw [h0.grp hL]
    intro hg
    cases k with
    | cells nj cj gj kj sj mj =>
     rw [z0x hk] at hg hz
     obtain ⟨_, _, _, _, _, hk2⟩ := hs.kind j _ _ _ _ _ _ hk hz
     rw [hg, Nat.add_sub_cancel, hL] at hk2
     injection hk2 with hk2; subst hk2; exact h0
    | box => simp [Eng.grp, hk] at hz
    | loop => simp [Eng.grp, hk] at hg; exact hjl hg
    | defr => simp [Eng.grp, hk] at hg; exact hjl hg
    | mp => simp [Eng.grp, hk] at hg; exact hjl hg
    | chn => simp [Eng.grp, hk] at hg; exact hjl hg
    | poly => simp [Eng.grp, hk] at hz
    | gone => simp [Eng.grp, hk] at hg; exact hjl hg
    | opq =>
     simp only [Eng.grp, hk] at hg
     split at hg
     ·exact hjl (by omega)
     ·omega
 ·intro j j' q q' hj hj' hlj hlj' hg1 hg2 hgg
  rw [gg] at hg1 hg2 hgg
  rw [gg] at hgg
  exact hs.sep j j' q q' hj hj' ((ll j).1 hlj) ((ll j').1 hlj') hg1 hg2 hgg
 ·intro j j' q q' hj hj' hlj hlj' hg1 hgg hrr
  rw [gg] at hg1 hgg
  rw [gg] at hgg
  exact hs.same j j' q q' hj hj' ((ll j).1 hlj) ((ll j').1 hlj') hg1 hgg hrr
 ·intro j q m c g k s mm hj hlj hLj hg
  by_cases hjl : j = l
  ·subst hjl; rw [upd_same] at hLj; injection hLj with hLj; subst hLj; exact h1.elim
  ·rw [upd_ne _ _ hjl] at hLj; rw [ii]; exact hs.mx j q m c g k s mm hj ((ll j).1 hlj) hLj hg
 ·intro j q hj h; rw [gg] at h; exact hs.rw j q hj h
 ·intro j q hj h; rw [gg] at h; exact hs.ro j q hj h
 ·intro j q hj; rw [hsz]; exact hs.bnd j q hj
 ·rw [hsz]; exact hs.bs
 ·intro j q hj h; rw [gg] at h ⊢; rw [gg]; exact hs.ld j q hj h
 ·intro j m c g k s mm hLj hg
  by_cases hjl : j = l
  ·subst hjl; rw [upd_same] at hLj; injection hLj with hLj; subst hLj; exact h1.elim
  ·rw [upd_ne _ _ hjl] at hLj
   obtain ⟨a1, a2, a3, a4, a5, a6⟩ := hs.kind j m c g k s mm hLj hg
   refine ⟨a1, a2, a3, a4, a5, ?_⟩
   by_cases hgl : g - 1 = l
   ·rw [hgl, hL] at a6; injection a6 with a6; subst a6; exact h0.elim
   ·rw [upd_ne _ _ hgl]; exact a6
 ·intro b p q s d lo hi hLb h64
  by_cases hbl : b = l
  ·subst hbl; rw [upd_same] at hLb; injection hLb with hLb; subst hLb; exact h1.elim
  ·rw [upd_ne _ _ hbl] at hLb; exact hs.pol b p q s d lo hi hLb h64
 ·intro j q hj h; rw [gg] at h; exact hs.rk j q hj h
 ·intro x o hx
  have h2 := hs.rk l r hl (by rw [h0.grp hL]; omega)
  rw [hw x (fun h => by rw [h] at hx; rw [hx] at h2; cases h2)]; exact hs.kp x o hx
end Go.Eng
namespace Go.Eng
open Go Go.RowKit
variable [E : Env]
structure Relab (L L' : Look) (b l g n' c' K S M : Nat) : Prop where
 here : ∃ k s m, L' b = some (.cells n' c' g k s m)
 lead : info L' l = (K, S, M)
 other : ∀ j, j ≠ b → L' j = L j ∨ (j = l ∧ ∃ n c gg k s m k' s' m', L j = some (.cells n c gg k s m) ∧ L' j = some (.cells n c gg k' s' m'))
section
variable {L L' : Look} {b l g n' c' K S M nb cb kb sb mb : Nat}
theorem Relab.grp (h : Relab L L' b l g n' c' K S M) (hL : L b = some (.cells nb cb g kb sb mb)) (j : Nat) : grp L' j = grp L j := by
 by_cases hj : j = b
 ·subst hj
  obtain ⟨k, s, m, h1⟩ := h.here
  rw [z0x h1, z0x hL]
 ·rcases h.other j hj with h1 | ⟨_, n, c, gg, k, s, m, k', s', m', h1, h2⟩
  ·simp [Eng.grp, h1]
  ·rw [z0x h1, z0x h2]
theorem Relab.info (h : Relab L L' b l g n' c' K S M) {j : Nat} (hb : j ≠ b) (hl : j ≠ l) : info L' j = info L j := by
 rcases h.other j hb with h1 | ⟨h1, _⟩
 ·simp [Eng.info, h1]
 ·exact absurd h1 hl
theorem Relab.none (h : Relab L L' b l g n' c' K S M) (hL : L b = some (.cells nb cb g kb sb mb)) {j : Nat} (hj : L j = none) : L' j = none := by
 by_cases hb : j = b
 ·subst hb; rw [hL] at hj; cases hj
 ·rcases h.other j hb with h1 | ⟨_, n, c, gg, k, s, m, k', s', m', h1, h2⟩
  ·rw [h1]; exact hj
  ·rw [h1] at hj; cases hj
theorem Relab.ext (h : Relab L L' b l g n' c' K S M) (hL : L b = some (.cells nb cb g kb sb mb)) (ρ : Rho) : Ext ρ L ρ L' := by
 have df : ∀ j, IsDf (L j) → L' j = L j := by
  intro j hj
  by_cases hb : j = b
  ·subst hb; rw [hL] at hj; rcases hj with hj | hj <;> cases hj
  ·rcases h.other j hb with h1 | ⟨_, n, c, gg, k, s, m, k', s', m', h1, h2⟩
   ·exact h1
   ·rw [h1] at hj; rcases hj with hj | hj <;> cases hj
 refine ⟨⟨fun _ _ x => x, fun j kd m c hj => ?_, fun j p q s d lo hi hj => ?_, fun j hj => by rw [df j hj]; exact hj⟩, fun j hj => by rw [df j (.inl hj)]; exact hj⟩
 all_goals
  by_cases hb : j = b
  ·subst hb; rw [hL] at hj; cases hj
  ·rcases h.other j hb with h1 | ⟨_, n, c, gg, k, s, m, k', s', m', h1, h2⟩
   ·rw [h1]; exact hj
   ·rw [h1] at hj; cases hj
theorem Relab.kind (h : Relab L L' b l g n' c' K S M) (hL : L b = some (.cells nb cb g kb sb mb)) {j : Nat} :
  (∃ n c gg k s m, L j = some (.cells n c gg k s m)) ↔ (∃ n c gg k s m, L' j = some (.cells n c gg k s m)) := by
 by_cases hb : j = b
 ·subst hb
  obtain ⟨k, s, m, h1⟩ := h.here
  exact ⟨fun _ => ⟨_, _, _, _, _, _, h1⟩, fun _ => ⟨_, _, _, _, _, _, hL⟩⟩
 ·rcases h.other j hb with h1 | ⟨_, n, c, gg, k, s, m, k', s', m', h1, h2⟩
  ·rw [h1]
  ·exact ⟨fun _ => ⟨_, _, _, _, _, _, h2⟩, fun _ => ⟨_, _, _, _, _, _, h1⟩⟩
end
theorem BR.words {ρ : Rho} {L : Look} {w : World} {r : Nat × Nat × Nat} {n c g k s m k' s' m' : Nat} (h : BR ρ L w r (.cells n c g k s m)) : BR ρ L w r (.cells n c g k' s' m') := h
theorem Sim.own {base : Nat} {ρ : Rho} {L L' : Look} {w w' : World} {b next nb cb g kb sb mb n' c' ty : Nat} {r : Nat × Nat × Nat} {cs' : Array Value}
  (hs : Sim base ρ L w) (hf : Fresh next ρ L) (hb : ρ b = some r) (hl : live L b) (hL : L b = some (.cells nb cb g kb sb mb)) (hg : g ≠ 0)
  (hR : Relab L L' b (g - 1) g n' c' b next n')
  (hw : ∀ x, x ≠ r.1 → w'.heap[x]? = w.heap[x]?) (hsz : w'.heap.size = w.heap.size) (hr : w'.heap[r.1]? = some (.cells cs' ty (0, 0)))
  (h1 : r.2.1 + r.2.2 ≤ cs'.size) (h2 : n' ≤ r.2.2) (hc : ∀ i, i < n' → ∃ v, cs'[r.2.1 + i]? = some v ∧ VR ρ L (getW c' i) v ∧ storable (getW c' i) = true) : Sim base ρ L' w' := by
 have e : Ext ρ L ρ L' := hR.ext hL ρ
 have gg : ∀ j, Eng.grp L' j = Eng.grp L j := hR.grp hL
 have hgb : Eng.grp L b = g := z0x hL
 obtain ⟨kk, ss, mm, hLb⟩ := hR.here
 have only : ∀ j q, ρ j = some q → Eng.grp L j = g → live L' j → j = b := by
  intro j q hj hgj hlj
  have := hf.lt hj
  rcases hlj with h0 | h0 | h0
  ·rw [gg, hgj] at h0; exact absurd h0 hg
  ·rw [gg, hgj, hR.lead] at h0; exact h0.symm
  ·rw [gg, hgj, hR.lead] at h0; simp at h0; omega
 have ldr : ∀ j q, ρ j = some q → Eng.grp L j ≠ 0 → Eng.grp L j ≠ g → Eng.info L' (Eng.grp L j - 1) = Eng.info L (Eng.grp L j - 1) := by
  intro j q hj h0 hne
  have hld := hs.ld j q hj h0
  refine hR.info (fun h => ?_) (by omega)
  rw [h, hgb] at hld; exact hne hld.2.symm
 have lother : ∀ j q, ρ j = some q → Eng.grp L j ≠ g → (live L' j ↔ live L j) := by
  intro j q hj hne
  unfold live
  rw [gg]
  by_cases h0 : Eng.grp L j = 0
  ·simp [h0]
  ·rw [ldr j q hj h0 hne]
 have hlb' : live L' b := by right; left; rw [gg, hgb, hR.lead]
 refine ⟨?_, ?_, ?_, ?_, ?_, ?_, ?_, ?_, ?_, ?_, ?_, ?_, ?_⟩
 ·intro j q hj
  by_cases hjb : j = b
  ·subst hjb
   rw [hb] at hj; injection hj with hj; subst hj
   exact ⟨_, hLb, fun _ => ⟨cs', ty, (0, 0), hr, h1, h2, fun _ => rfl, fun i hi => let ⟨v, a, c, d⟩ := hc i hi; ⟨v, a, c.mono e, d⟩⟩⟩
  ·obtain ⟨k0, hk0, hb0⟩ := hs.blk j q hj
   have step : live L' j → BR ρ L' w' q k0 := by
    intro hlj
    by_cases hgj : Eng.grp L j = g
    ·exact absurd (only j q hj hgj hlj) hjb
    ·have hl0 := (lother j q hj hgj).1 hlj
     have hne : q.1 ≠ r.1 := by
      by_cases h0 : Eng.grp L j = 0
      ·exact hs.apart hj h0 hb (by rw [hgb]; exact hg)
      ·exact hs.sep j b q r hj hb hl0 hl h0 (by rw [hgb]; exact hg) (by rw [hgb]; exact hgj)
     exact (hb0 hl0).mono e (hw _ hne)
   rcases hR.other j hjb with h3 | ⟨_, n, c, g3, k, s, m, k', s', m', h3, h4⟩
   ·exact ⟨k0, by rw [h3]; exact hk0, step⟩
   ·rw [hk0] at h3; injection h3 with h3; subst h3
    exact ⟨_, h4, step⟩
 ·intro j j' q q' hj hj' hlj hlj' hg1 hg2 hgg
  rw [gg] at hg1 hgg
  rw [gg] at hg2 hgg
  have old : ∀ x p, ρ x = some p → live L' x → live L x := fun x p hx hlx => by
   by_cases hgx : Eng.grp L x = g
   ·have := only x p hx hgx hlx; subst this; exact hl
   ·exact (lother x p hx hgx).1 hlx
  exact hs.sep j j' q q' hj hj' (old j q hj hlj) (old j' q' hj' hlj') hg1 hg2 hgg
 ·intro j j' q q' hj hj' hlj hlj' hg1 hgg hrr
  rw [gg] at hg1 hgg
  rw [gg] at hgg
  have old : ∀ x p, ρ x = some p → live L' x → live L x := fun x p hx hlx => by
   by_cases hgx : Eng.grp L x = g
   ·have := only x p hx hgx hlx; subst this; exact hl
   ·exact (lother x p hx hgx).1 hlx
  exact hs.same j j' q q' hj hj' (old j q hj hlj) (old j' q' hj' hlj') hg1 hgg hrr
 ·intro j q n c g3 k s m hj hlj hLj hg3
  have hgj : Eng.grp L j = g3 := by rw [← gg]; exact z0x hLj
  by_cases hg4 : g3 = g
  ·subst hg4
   have := only j q hj hgj hlj
   subst this
   rw [hLb] at hLj; injection hLj with hLj; injection hLj with e1
   subst e1
   rw [hR.lead]; exact Nat.le_refl _
  ·have hlj0 := (lother j q hj (by rw [hgj]; exact hg4)).1 hlj
   have hi := ldr j q hj (by rw [hgj]; exact hg3) (by rw [hgj]; exact hg4)
   rw [hgj] at hi
   rw [hi]
   have hjb : j ≠ b := fun h => by subst h; exact hg4 (hgj.symm.trans hgb)
   rcases hR.other j hjb with h3 | ⟨_, n0, c0, g0, k0, s0, m0, k', s', m', h3, h4⟩
   ·rw [h3] at hLj; exact hs.mx j q n c g3 k s m hj hlj0 hLj hg3
   ·rw [h4] at hLj; injection hLj with hLj; injection hLj with e1 e2 e3
    subst e1; subst e2; subst e3
    exact hs.mx j q _ _ _ _ _ _ hj hlj0 h3 hg3
 ·intro j q hj h0; rw [gg] at h0; exact hs.rw j q hj h0
 ·intro j q hj h0; rw [gg] at h0; exact hs.ro j q hj h0
 ·intro j q hj; rw [hsz]; exact hs.bnd j q hj
 ·rw [hsz]; exact hs.bs
 ·intro j q hj h0; rw [gg] at h0 ⊢; rw [gg]; exact hs.ld j q hj h0
 ·intro j n c g3 k s m hLj hg3
  obtain ⟨a1, a2, a3, a4, a5, a6, a7⟩ := (hR.kind hL).2 ⟨n, c, g3, k, s, m, hLj⟩
  have hgj : a3 = g3 := by rw [← z0x a7, ← gg, z0x hLj]
  subst hgj
  obtain ⟨b1, b2, b3, b4, b5, b6⟩ := hs.kind j _ _ _ _ _ _ a7 hg3
  obtain ⟨d1, d2, d3, d4, d5, d6, d7⟩ := (hR.kind hL).1 ⟨_, _, _, _, _, _, b6⟩
  have : d3 = a3 := by rw [← z0x d7, gg, z0x b6]
  subst this
  exact ⟨d1, d2, d4, d5, d6, d7⟩
 ·intro j p q s d lo hi hLj h64
  by_cases hjb : j = b
  ·subst hjb; rw [hLb] at hLj; cases hLj
  ·rcases hR.other j hjb with h3 | ⟨_, n0, c0, g0, k0, s0, m0, k', s', m', h3, h4⟩
   ·rw [h3] at hLj; exact hs.pol j p q s d lo hi hLj h64
   ·rw [h4] at hLj; cases hLj
 ·intro j q hj h0; rw [gg] at h0; exact hs.rk j q hj h0
 ·intro x o hx
  have h2 := hs.rk b r hb (by rw [hgb]; exact hg)
  rw [hw x (fun h => by rw [h] at hx; rw [hx] at h2; cases h2)]; exact hs.kp x o hx
theorem Sim.member {base : Nat} {ρ : Rho} {L L1 : Look} {w w' : World} {b next nb cb g kb sb mb n' c' K S M : Nat} {r q : Nat × Nat × Nat}
  (hs : Sim base ρ L w) (hf : Fresh next ρ L) (hb : ρ b = some r) (hl : live L b) (hL : L b = some (.cells nb cb g kb sb mb)) (hg : g ≠ 0)
  (hR : Relab L L1 b (g - 1) g nb cb K S M)
  (hw : ∀ x, x < w.heap.size → x ≠ q.1 → w'.heap[x]? = w.heap[x]?) (hsz : w.heap.size ≤ w'.heap.size) (hq1 : q.1 < w'.heap.size)
  (hq : q.1 = r.1 ∨ w.heap.size ≤ q.1) (hM : n' ≤ M)
  (keep : ∀ j p, ρ j = some p → Eng.grp L j = g → (K = j ∨ S ≤ j) → live L j ∧ (∀ k, L j = some k → BR ρ L w p k → BR ρ L w' p k) ∧ (p.1 = q.1 → p.2.1 = q.2.1) ∧
   (∀ n c k s m, L j = some (.cells n c g k s m) → n ≤ M))
  (hnew : BR (updR ρ next q) (upd L1 next (.cells n' c' g 0 0 0)) w' q (.cells n' c' g 0 0 0)) : Sim base (updR ρ next q) (upd L1 next (.cells n' c' g 0 0 0)) w' := by
 have hbn : b < next := hf.lt hb
 have hLn : L1 next = none := hR.none hL (hf next (Nat.le_refl _)).1
 have e1 : Ext ρ L ρ L1 := hR.ext hL ρ
 have hf1 : Fresh next ρ L1 := fun j hj => ⟨hR.none hL (hf j hj).1, (hf j hj).2⟩
 have e : Ext ρ L (updR ρ next q) (upd L1 next (.cells n' c' g 0 0 0)) := e1.trans (.fresh hf1 _ _)
 have gg : ∀ j, j ≠ next → Eng.grp (upd L1 next (.cells n' c' g 0 0 0)) j = Eng.grp L j := fun j hj => by rw [z1n hj, hR.grp hL]
 have gn : Eng.grp (upd L1 next (.cells n' c' g 0 0 0)) next = g := by simp [Eng.grp, upd_same]
 have hgb : Eng.grp L b = g := z0x hL
 have hlead : g - 1 < next := by
  obtain ⟨⟨p, hp⟩, _⟩ := hs.ld b r hb (by rw [hgb]; exact hg)
  rw [hgb] at hp; exact hf.lt hp
 have hlg : Eng.grp L (g - 1) = g := by have := (hs.ld b r hb (by rw [hgb]; exact hg)).2; rw [hgb] at this; exact this
 have hil : Eng.info (upd L1 next (.cells n' c' g 0 0 0)) (g - 1) = (K, S, M) := by rw [z0K (by omega)]; exact hR.lead
 have old : ∀ j p, updR ρ next q j = some p → j ≠ next → ρ j = some p := fun j p h hne => by rw [z1T _ _ hne] at h; exact h
 have ldr : ∀ j p, ρ j = some p → Eng.grp L j ≠ 0 → Eng.grp L j ≠ g → Eng.info (upd L1 next (.cells n' c' g 0 0 0)) (Eng.grp L j - 1) = Eng.info L (Eng.grp L j - 1) := by
  intro j p hj h0 hne
  have hld := hs.ld j p hj h0
  obtain ⟨⟨p', hp'⟩, hld2⟩ := hld
  have := hf.lt hp'
  rw [z0K (by omega)]
  refine hR.info (fun h => ?_) (by omega)
  rw [h, hgb] at hld2; exact hne hld2.symm
 have lother : ∀ j p, ρ j = some p → Eng.grp L j ≠ g → (live (upd L1 next (.cells n' c' g 0 0 0)) j ↔ live L j) := by
  intro j p hj hne
  have hjn : j ≠ next := by have := hf.lt hj; omega
  unfold live
  rw [gg j hjn]
  by_cases h0 : Eng.grp L j = 0
  ·simp [h0]
  ·rw [ldr j p hj h0 hne]
 have lmine : ∀ j p, ρ j = some p → Eng.grp L j = g → live (upd L1 next (.cells n' c' g 0 0 0)) j → K = j ∨ S ≤ j := by
  intro j p hj hgj h
  have hjn : j ≠ next := by have := hf.lt hj; omega
  rcases h with h0 | h0 | h0
  ·rw [gg j hjn, hgj] at h0; exact absurd h0 hg
  ·rw [gg j hjn, hgj, hil] at h0; exact .inl h0
  ·rw [gg j hjn, hgj, hil] at h0; exact .inr h0
 have lold : ∀ j p, ρ j = some p → live (upd L1 next (.cells n' c' g 0 0 0)) j → live L j := by
  intro j p hj h
  by_cases hgj : Eng.grp L j = g
  ·exact (keep j p hj hgj (lmine j p hj hgj h)).1
  ·exact (lother j p hj hgj).1 h
 have Lold : ∀ j, j ≠ next → ∀ k, L j = some k → ∃ k', upd L1 next (.cells n' c' g 0 0 0) j = some k' ∧ (∀ p w0, BR ρ L w0 p k → BR ρ L w0 p k') ∧
   (∀ n c g3 kk s m, k' = .cells n c g3 kk s m → ∃ kk s m, k = .cells n c g3 kk s m) := by
  intro j hj k hk
  rw [upd_ne _ _ hj]
  by_cases hjb : j = b
  ·subst hjb
   obtain ⟨k1, s1, m1, h1⟩ := hR.here
   rw [hL] at hk; injection hk with hk; subst hk
   exact ⟨_, h1, fun _ _ x => x, fun n c g3 kk s m x => by injection x with a1 a2 a3; subst a1; subst a2; subst a3; exact ⟨_, _, _, rfl⟩⟩
  ·rcases hR.other j hjb with h3 | ⟨_, n0, c0, g0, k0, s0, m0, k', s', m', h3, h4⟩
   ·exact ⟨k, by rw [h3]; exact hk, fun _ _ x => x, fun n c g3 kk s m x => ⟨_, _, _, x⟩⟩
   ·rw [h3] at hk; injection hk with hk; subst hk
    exact ⟨_, h4, fun _ _ x => x, fun n c g3 kk s m x => by injection x with a1 a2 a3; subst a1; subst a2; subst a3; exact ⟨_, _, _, rfl⟩⟩
 have qother : ∀ j p, ρ j = some p → live L j → Eng.grp L j ≠ g → p.1 ≠ q.1 := by
  intro j p hj hlj hgj
  rcases hq with h0 | h0
  ·rw [h0]
   by_cases h1 : Eng.grp L j = 0
   ·exact hs.apart hj h1 hb (by rw [hgb]; exact hg)
   ·exact hs.sep j b p r hj hb hlj hl h1 (by rw [hgb]; exact hg) (by rw [hgb]; exact hgj)
  ·have := hs.bnd j p hj; omega
 have hqk : E.kept q.1 = none := by
  rcases hq with h1 | h1
  ·rw [h1]; exact hs.rk b r hb (by rw [hgb]; exact hg)
  ·exact hs.kptNone h1
 refine ⟨?_, ?_, ?_, ?_, ?_, ?_, ?_, ?_, ?_, ?_, ?_, ?_, ?_⟩
 ·intro j p hj
  by_cases hne : j = next
  ·subst hne
   rw [zU] at hj; injection hj with hj; subst hj
   exact ⟨_, upd_same _ _ _, fun _ => hnew⟩
  ·have hj' := old j p hj hne
   obtain ⟨k0, hk0, hb0⟩ := hs.blk j p hj'
   obtain ⟨k', hk', hbr, _⟩ := Lold j hne k0 hk0
   refine ⟨k', hk', fun hlj => ?_⟩
   have hl0 := lold j p hj' hlj
   by_cases hgj : Eng.grp L j = g
   ·exact (hbr p w' ((keep j p hj' hgj (lmine j p hj' hgj hlj)).2.1 k0 hk0 (hb0 hl0))).mono e rfl
   ·exact (hbr p w (hb0 hl0)).mono e (hw _ (hs.bnd j p hj') (qother j p hj' hl0 hgj))
 ·intro j j' p p' hj hj' hlj hlj' hg1 hg2 hgg
  by_cases hne : j = next
  ·by_cases hne' : j' = next
   ·subst hne; subst hne'; exact absurd rfl hgg
   ·subst hne
    rw [zU] at hj; injection hj with hj; subst hj
    have h2 := old j' p' hj' hne'
    rw [gn, gg j' hne'] at hgg
    exact (qother j' p' h2 (lold j' p' h2 hlj') (fun h => hgg h.symm)).symm
  ·by_cases hne' : j' = next
   ·subst hne'
    rw [zU] at hj'; injection hj' with hj'; subst hj'
    have h2 := old j p hj hne
    rw [gn, gg j hne] at hgg
    exact qother j p h2 (lold j p h2 hlj) hgg
   ·have h1 := old j p hj hne
    have h2 := old j' p' hj' hne'
    rw [gg j hne] at hg1 hgg
    rw [gg j' hne'] at hg2 hgg
    exact hs.sep j j' p p' h1 h2 (lold j p h1 hlj) (lold j' p' h2 hlj') hg1 hg2 hgg
 ·intro j j' p p' hj hj' hlj hlj' hg1 hgg hrr
  by_cases hne : j = next
  ·by_cases hne' : j' = next
   ·subst hne; subst hne'; rw [hj] at hj'; injection hj' with hj'; rw [hj']
   ·subst hne
    rw [zU] at hj; injection hj with hj; subst hj
    have h2 := old j' p' hj' hne'
    rw [gn, gg j' hne'] at hgg
    exact ((keep j' p' h2 hgg.symm (lmine j' p' h2 hgg.symm hlj')).2.2.1 hrr.symm).symm
  ·by_cases hne' : j' = next
   ·subst hne'
    rw [zU] at hj'; injection hj' with hj'; subst hj'
    have h2 := old j p hj hne
    rw [gn, gg j hne] at hgg
    exact (keep j p h2 hgg (lmine j p h2 hgg hlj)).2.2.1 hrr
   ·have h1 := old j p hj hne
    have h2 := old j' p' hj' hne'
    rw [gg j hne] at hg1 hgg
    rw [gg j' hne'] at hgg
    exact hs.same j j' p p' h1 h2 (lold j p h1 hlj) (lold j' p' h2 hlj') hg1 hgg hrr
 ·intro j p n c g3 k s m hj hlj hLj hg3
  by_cases hne : j = next
  ·subst hne
   rw [upd_same] at hLj; injection hLj with hLj; injection hLj with a1 a2 a3
   subst a1; subst a3
   rw [hil]; exact hM
  ·have hj' := old j p hj hne
   obtain ⟨k0, hk0, hb0⟩ := hs.blk j p hj'
   obtain ⟨k', hk', _, hback⟩ := Lold j hne k0 hk0
   rw [hLj] at hk'; injection hk' with hk'
   obtain ⟨k2, s2, m2, h2⟩ := hback _ _ _ _ _ _ hk'.symm
   subst h2
   have hgj : Eng.grp L j = g3 := z0x hk0
   by_cases hg4 : g3 = g
   ·subst hg4
    rw [hil]
    exact (keep j p hj' hgj (lmine j p hj' hgj hlj)).2.2.2 _ _ _ _ _ hk0
   ·have hi := ldr j p hj' (by rw [hgj]; exact hg3) (by rw [hgj]; exact hg4)
    rw [hgj] at hi
    rw [hi]
    exact hs.mx j p _ _ _ _ _ _ hj' (lold j p hj' hlj) hk0 hg3
 ·intro j p hj h0
  by_cases hne : j = next
  ·subst hne
   rw [zU] at hj; injection hj with hj; subst hj
   rcases hq with h1 | h1
   ·rw [h1]; exact hs.rw b r hb (by rw [hgb]; exact hg)
   ·have := hs.bs; omega
  ·rw [gg j hne] at h0; exact hs.rw j p (old j p hj hne) h0
 ·intro j p hj h0
  by_cases hne : j = next
  ·subst hne; rw [gn] at h0; exact absurd h0 hg
  ·rw [gg j hne] at h0; exact hs.ro j p (old j p hj hne) h0
 ·intro j p hj
  by_cases hne : j = next
  ·subst hne; rw [zU] at hj; injection hj with hj; subst hj; exact hq1
  ·have := hs.bnd j p (old j p hj hne); omega
 ·have := hs.bs; omega
 ·intro j p hj h0
  by_cases hne : j = next
  ·subst hne
   rw [gn]
   obtain ⟨⟨p', hp'⟩, _⟩ := hs.ld b r hb (by rw [hgb]; exact hg)
   rw [hgb] at hp'
   exact ⟨⟨p', e.place _ _ hp'⟩, by rw [gg _ (by omega)]; exact hlg⟩
  ·rw [gg j hne] at h0 ⊢
   obtain ⟨⟨p', hp'⟩, h2⟩ := hs.ld j p (old j p hj hne) h0
   exact ⟨⟨p', e.place _ _ hp'⟩, by rw [gg _ (by have := hf.lt hp'; omega)]; exact h2⟩
 ·intro j n c g3 k s m hLj hg3
  by_cases hne : j = next
  ·subst hne
   rw [upd_same] at hLj; injection hLj with hLj; injection hLj with a1 a2 a3
   subst a3
   obtain ⟨b1, b2, b3, b4, b5, b6⟩ := hs.kind b _ _ _ _ _ _ hL hg
   obtain ⟨d1, d2, d3, d4, d5, d6, d7⟩ := (hR.kind hL).1 ⟨_, _, _, _, _, _, b6⟩
   have : d3 = g := by rw [← z0x d7, hR.grp hL, z0x b6]
   subst this
   exact ⟨d1, d2, d4, d5, d6, by rw [upd_ne _ _ (by omega)]; exact d7⟩
  ·rw [upd_ne _ _ hne] at hLj
   obtain ⟨a1, a2, a3, a4, a5, a6, a7⟩ := (hR.kind hL).2 ⟨n, c, g3, k, s, m, hLj⟩
   have hgj : a3 = g3 := by rw [← z0x a7, ← hR.grp hL, z0x hLj]
   subst hgj
   obtain ⟨b1, b2, b3, b4, b5, b6⟩ := hs.kind j _ _ _ _ _ _ a7 hg3
   obtain ⟨d1, d2, d3, d4, d5, d6, d7⟩ := (hR.kind hL).1 ⟨_, _, _, _, _, _, b6⟩
   have : d3 = a3 := by rw [← z0x d7, hR.grp hL, z0x b6]
   subst this
   exact ⟨d1, d2, d4, d5, d6, by rw [upd_ne _ _ (by have := hf.ltL b6; omega)]; exact d7⟩
 ·intro j p q0 s d lo hi hLj h64
  by_cases hne : j = next
  ·subst hne; rw [upd_same] at hLj; cases hLj
  ·rw [upd_ne _ _ hne] at hLj
   by_cases hjb : j = b
   ·subst hjb
    obtain ⟨k1, s1, m1, h1⟩ := hR.here
    rw [h1] at hLj; cases hLj
   ·rcases hR.other j hjb with h3 | ⟨_, n0, c0, g0, k0, s0, m0, k', s', m', h3, h4⟩
    ·rw [h3] at hLj; exact hs.pol j p q0 s d lo hi hLj h64
    ·rw [h4] at hLj; cases hLj
 ·intro j p hj h0
  by_cases hne : j = next
  ·subst hne
   rw [zU] at hj; injection hj with hj; subst hj
   exact hqk
  ·rw [gg j hne] at h0; exact hs.rk j p (old j p hj hne) h0
 ·intro x o hx
  have h1 := hs.kp x o hx
  rw [hw x (Array.getElem?_eq_some_iff.1 h1).1 (fun h => by rw [h] at hx; rw [hx] at hqk; cases hqk)]; exact h1
end Go.Eng
