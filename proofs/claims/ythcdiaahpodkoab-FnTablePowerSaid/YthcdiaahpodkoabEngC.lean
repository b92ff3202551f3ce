/- What the numbers stand for: the relation between the evaluator's words and heap and the model's values and world. -/
import Derived.Test.YthcdiaahpodkoabEngBa
import Derived.Below
namespace Go.Eng
set_option linter.unusedSectionVars false
set_option linter.unusedSimpArgs false
set_option linter.unusedVariables false
open Go Go.RowKit

/-! ### words taken apart -/
theorem sel_eq {α : Type} (b : Bool) (t e : α) : sel b t e = if b = true then t else e := by cases b <;> rfl
theorem nbeq (a b : Nat) : Nat.beq a b = decide (a = b) := by
  by_cases h : a = b
  · subst h; simp
  · have : Nat.beq a b ≠ true := fun hh => h (Nat.eq_of_beq_eq_true hh)
    rw [Bool.eq_false_iff.2 this]; simp [h]
theorem nble (a b : Nat) : Nat.ble a b = decide (a ≤ b) := by
  by_cases h : a ≤ b
  · simp [h, Nat.ble_eq]
  · have : Nat.ble a b ≠ true := fun hh => h (Nat.le_of_ble_eq_true hh)
    rw [Bool.eq_false_iff.2 this]; simp [h]
theorem sel_beq {α : Type} (a b : Nat) (t e : α) : sel (Nat.beq a b) t e = if a = b then t else e := by rw [sel_eq, nbeq]; simp
theorem sel_ble {α : Type} (a b : Nat) (t e : α) : sel (Nat.ble a b) t e = if a ≤ b then t else e := by rw [sel_eq, nble]; simp
theorem sel_ltb {α : Type} (a b : Nat) (t e : α) : sel (ltb a b) t e = if a < b then t else e := by unfold ltb; rw [sel_ble]; rfl
theorem tagOf_mk (t p : Nat) (h : t < 16) : tagOf (mk t p) = t := by
  show (16 * p + t) % 16 = t; omega
theorem payOf_mk (t p : Nat) (h : t < 16) : payOf (mk t p) = p := by
  show (16 * p + t) / 16 = p; omega
theorem mk_eq (t p : Nat) : mk t p = 16 * p + t := rfl
theorem tagOf_eq (w : Nat) : tagOf w = w % 16 := rfl
theorem payOf_eq (w : Nat) : payOf w = w / 16 := rfl
theorem wP_eq (b o : Nat) : wP b o = 16 * (1048576 * (b + 1) + o) + 3 := rfl
theorem wS_eq (b e o n k : Nat) : wS b e o n k = 16 * (1048576 * (1048576 * (1048576 * (256 * (b + 1) + e) + o) + k) + n) + 4 := rfl
theorem sNil_eq : sNil = 16777220 := rfl

theorem s_parts (b e o n k : Nat) (he : e < 256) (ho : o < 1048576) (hn : n < 1048576) (hk : k < 1048576) :
    tagOf (wS b e o n k) = 4 ∧ sLen (payOf (wS b e o n k)) = n ∧ sCap (payOf (wS b e o n k)) = k ∧ sOff (payOf (wS b e o n k)) = o ∧
    sEs (payOf (wS b e o n k)) = e ∧ sBlk (payOf (wS b e o n k)) = b + 1 := by
  have hp : payOf (wS b e o n k) = 1048576 * (1048576 * (1048576 * (256 * (b + 1) + e) + o) + k) + n := by rw [payOf_eq, wS_eq]; omega
  refine ⟨by rw [tagOf_eq, wS_eq]; omega, ?_, ?_, ?_, ?_, ?_⟩ <;> rw [hp]
  · show _ % 1048576 = _; omega
  · show _ / 1048576 % 1048576 = _; omega
  · show _ / 1099511627776 % 1048576 = _; omega
  · show _ / 1152921504606846976 % 256 = _; omega
  · show _ / 295147905179352825856 = _; omega
theorem s_nil : tagOf sNil = 4 ∧ sLen (payOf sNil) = 0 ∧ sCap (payOf sNil) = 1 ∧ sOff (payOf sNil) = 0 ∧ sEs (payOf sNil) = 0 ∧ sBlk (payOf sNil) = 0 := by
  refine ⟨rfl, rfl, rfl, rfl, rfl, rfl⟩
theorem p_parts (b o : Nat) (ho : o < 1048576) : tagOf (wP b o) = 3 ∧ pOff (payOf (wP b o)) = o ∧ pBlk (payOf (wP b o)) = b + 1 := by
  have hp : payOf (wP b o) = 1048576 * (b + 1) + o := by rw [payOf_eq, wP_eq]; omega
  refine ⟨by rw [tagOf_eq, wP_eq]; omega, ?_, ?_⟩ <;> rw [hp]
  · show _ % 1048576 = _; omega
  · show _ / 1048576 = _; omega

/-! ### the relation -/
abbrev Rho := Nat → Option (Nat × Nat × Nat)
abbrev Look := Nat → Option Blk

/-- What is not known: ints, contents of slices. -/
class Env where
  int : Nat → Int
  lst : Nat → List Value
  wf : ∀ j, -9223372036854775808 ≤ int j ∧ int j < 9223372036854775808
  len : ∀ j, j < 1048576 → int (lenIx j) = ((lst j).length : Int)
  /-- the list 1000 has a length that 3 divides, the list 1001 none -/
  byThree : (lst 1000).length % 3 = 0
  notThree : (lst 1001).length % 3 ≠ 0

variable [E : Env]

/-! ### sums of products -/
/-- What a sum's numbers tell of an int. -/
structure PolyZ (p q s d lo hi : Nat) (z : Int) : Prop where
  lo_lt : lo < 18446744073709551616
  hi_lt : hi < 18446744073709551616
  low : (lo : Int) - 9223372036854775808 ≤ z
  high : z ≤ (hi : Int) - 9223372036854775808
  ex : ∃ u, PolyR (fun i => E.int (pvIx i)) p q s d u ∧ (z - u) % 18446744073709551616 = 0

inductive VR (ρ : Rho) (L : Look) : Nat → Value → Prop
  | undef : VR ρ L 0 (.tuple #[])
  | int (p : Nat) : p < 18446744073709551616 → VR ρ L (wI p) (.int .i64 (sInt p))
  | bool (b : Bool) : VR ρ L (wB b) (.bool b)
  | ptrNil : VR ρ L 3 (.pointer none)
  | ptr (b o rb d sz : Nat) : ρ b = some (rb, d, sz) → o < 1048576 → VR ρ L (wP b o) (.pointer (some ⟨rb, d + o, none⟩))
  | sliceNil : VR ρ L sNil (.slice none 0 0)
  | slice (b e o n k rb d sz c : Nat) (a : Addr) : ρ b = some (rb, d, sz) → e < 256 → o < 1048576 → n < 1048576 → k < 1048576 → n ≤ c → c < 9223372036854775808 → (k = 0 ∨ k = c + 1) →
      (c = 0 ∨ (a = ⟨rb, d + o, none⟩ ∧ o + c * e ≤ sz)) → VR ρ L (wS b e o n k) (.slice (some a) n c)
  | agg (id m c : Nat) (vs : Array Value) : L id = some (.box 0 m c) → vs.size = m → (∀ i (h : i < vs.size), VR ρ L (getW c i) vs[i]) → c < 2 ^ (128 * m) → (∀ i, i < m → storable (getW c i) = true) → VR ρ L (mk 6 id) (.agg vs)
  | mapNil : VR ρ L 39 (.map none)
  | map (b rb d sz : Nat) : ρ b = some (rb, d, sz) → VR ρ L (mapW b) (.map (some rb))
  | str (s : ByteArray) : VR ρ L (strW s) (.string s)
  | poly (id p q s d lo hi : Nat) (z : Int) : L id = some (.poly p q s d lo hi) → PolyZ p q s d lo hi z → VR ρ L (polyW id) (.int .i64 z)
  | tup (id m c : Nat) (vs : Array Value) : L id = some (.box 1 m c) → vs.size = m → (∀ i (h : i < vs.size), VR ρ L (getW c i) vs[i]) → VR ρ L (mk 6 id) (.tuple vs)
  | clo (id m c f : Nat) (vs : Array Value) : L id = some (.box 2 m c) → getW c 0 = f → vs.size = m → (∀ i (h : i < vs.size), VR ρ L (getW c (i + 1)) vs[i]) →
      VR ρ L (mk 10 id) (.func (.func f) #[] vs)
  | fn (f : Nat) : VR ρ L (mk 8 f) (.func (.func f) #[] #[])
  | yld (l rb d sz : Nat) : ρ l = some (rb, d, sz) → VR ρ L (mk 13 l) (.func (.yield rb) #[] #[])
  | nilFunc : VR ρ L 7 .nilFunc
  | nilIface : VR ρ L 23 .nilIface
  | sl0 (a : Addr) : VR ρ L 14 (.slice (some a) 0 0)
  | var (j lo hi : Nat) : lo < 1099511627776 → hi < 1099511627776 → (lo = 0 ∨ (lo : Int) - 549755813888 ≤ E.int j) → (hi = 0 ∨ E.int j ≤ (hi : Int) - 549755813888) →
      VR ρ L (wV j lo hi) (.int .i64 (E.int j))
  | u64 (p : Nat) : p < 18446744073709551616 → VR ρ L (mk 5 p) (.int .u64 (p : Int))
  | btw (t u : Nat) (z : Int) : u < 1152921504606846976 → (t : Int) ≤ z → z ≤ (u : Int) → VR ρ L (wG t u) (.int .i64 z)
  | opq (b j lo hi rb d sz c : Nat) : ρ b = some (rb, d, sz) → j < 1048576 → lo < 4194304 → hi < 4194304 → lo ≤ (E.lst j).length → (hi = 0 ∨ (E.lst j).length ≤ hi) → (E.lst j).length ≤ c → c ≤ sz → c < 9223372036854775808 →
      VR ρ L (wO b j lo hi) (.slice (some ⟨rb, d, none⟩) (E.lst j).length c)

def IsDf (o : Option Blk) : Prop := o = some .defr ∨ o = some .gone
/-- What grows: places, boxes. -/
structure Ext0 (ρ : Rho) (L : Look) (ρ' : Rho) (L' : Look) : Prop where
  place : ∀ b r, ρ b = some r → ρ' b = some r
  box : ∀ b k m c, L b = some (.box k m c) → L' b = some (.box k m c)
  poly : ∀ b p q s d lo hi, L b = some (.poly p q s d lo hi) → L' b = some (.poly p q s d lo hi)
  isdf : ∀ b, IsDf (L b) → IsDf (L' b)
/-- .. and marks. -/
structure Ext (ρ : Rho) (L : Look) (ρ' : Rho) (L' : Look) : Prop extends Ext0 ρ L ρ' L' where
  defr : ∀ b, L b = some .defr → L' b = some .defr

theorem Ext0.refl (ρ : Rho) (L : Look) : Ext0 ρ L ρ L := ⟨fun _ _ h => h, fun _ _ _ _ h => h, fun _ _ _ _ _ _ _ h => h, fun _ h => h⟩
theorem Ext0.trans {ρ ρ' ρ'' : Rho} {L L' L'' : Look} (h : Ext0 ρ L ρ' L') (k : Ext0 ρ' L' ρ'' L'') : Ext0 ρ L ρ'' L'' :=
  ⟨fun b r x => k.place b r (h.place b r x), fun b i m c x => k.box b i m c (h.box b i m c x), fun b p q s d lo hi x => k.poly b p q s d lo hi (h.poly b p q s d lo hi x), fun b x => k.isdf b (h.isdf b x)⟩
theorem Ext.refl (ρ : Rho) (L : Look) : Ext ρ L ρ L := ⟨.refl _ _, fun _ h => h⟩
theorem Ext.trans {ρ ρ' ρ'' : Rho} {L L' L'' : Look} (h : Ext ρ L ρ' L') (k : Ext ρ' L' ρ'' L'') : Ext ρ L ρ'' L'' :=
  ⟨h.toExt0.trans k.toExt0, fun b x => k.defr b (h.defr b x)⟩

theorem VR.mono0 {ρ ρ' : Rho} {L L' : Look} (e : Ext0 ρ L ρ' L') {w : Nat} {v : Value} (h : VR ρ L w v) : VR ρ' L' w v := by
  induction h with
  | undef => exact .undef
  | int p h => exact .int p h
  | bool b => exact .bool b
  | ptrNil => exact .ptrNil
  | ptr b o rb d sz h h1 => exact .ptr b o rb d sz (e.place _ _ h) h1
  | sliceNil => exact .sliceNil
  | slice b e' o n k rb d sz c a h h1 h2 h3 h4 h5 h55 h6 h7 => exact .slice b e' o n k rb d sz c a (e.place _ _ h) h1 h2 h3 h4 h5 h55 h6 h7
  | agg id m c vs h h1 _ h2 h3 ih => exact .agg id m c vs (e.box _ _ _ _ h) h1 ih h2 h3
  | mapNil => exact .mapNil
  | map b rb d sz h => exact .map b rb d sz (e.place _ _ h)
  | str s => exact .str s
  | poly id p q s d lo hi z h h1 => exact .poly id p q s d lo hi z (e.poly _ _ _ _ _ _ _ h) h1
  | tup id m c vs h h1 _ ih => exact .tup id m c vs (e.box _ _ _ _ h) h1 ih
  | clo id m c f vs h h1 h2 _ ih => exact .clo id m c f vs (e.box _ _ _ _ h) h1 h2 ih
  | fn f => exact .fn f
  | yld l rb d sz h => exact .yld l rb d sz (e.place _ _ h)
  | nilFunc => exact .nilFunc
  | nilIface => exact .nilIface
  | sl0 a => exact .sl0 a
  | var j lo hi h1 h2 h3 h4 => exact .var j lo hi h1 h2 h3 h4
  | btw t u z h1 h2 h3 => exact .btw t u z h1 h2 h3
  | u64 p h => exact .u64 p h
  | opq b j lo hi rb d sz c h h1 h2 h3 h4 h5 h6 h7 h8 => exact .opq b j lo hi rb d sz c (e.place _ _ h) h1 h2 h3 h4 h5 h6 h7 h8
theorem VR.mono {ρ ρ' : Rho} {L L' : Look} (e : Ext ρ L ρ' L') {w : Nat} {v : Value} (h : VR ρ L w v) : VR ρ' L' w v := h.mono0 e.toExt0

/-- The slots stand for the temporaries. -/
def TR (ρ : Rho) (L : Look) (nt T : Nat) (tmps : Array Value) : Prop := tmps.size = nt ∧ ∀ t, VR ρ L (getW T t) (tmps.getD t Go.undef)
theorem TR.mono0 {ρ ρ' : Rho} {L L' : Look} (e : Ext0 ρ L ρ' L') {nt T : Nat} {tmps : Array Value} (h : TR ρ L nt T tmps) : TR ρ' L' nt T tmps :=
  ⟨h.1, fun t => (h.2 t).mono0 e⟩
theorem TR.mono {ρ ρ' : Rho} {L L' : Look} (e : Ext ρ L ρ' L') {nt T : Nat} {tmps : Array Value} (h : TR ρ L nt T tmps) : TR ρ' L' nt T tmps := h.mono0 e.toExt0

theorem TR.set {ρ : Rho} {L : Look} {nt T : Nat} {tmps : Array Value} (h : TR ρ L nt T tmps) {d v : Nat} {x : Value} (hd : d < nt) (hv : v < 2 ^ 128) (hx : VR ρ L v x) :
    TR ρ L nt (setW T d v) (tmps.setIfInBounds d x) := by
  refine ⟨by simp [h.1], fun t => ?_⟩
  by_cases ht : t = d
  · subst ht
    rw [getW_setW_same _ _ _ hv]
    have hs : t < tmps.size := by rw [h.1]; exact hd
    simp [Array.getD_eq_getD_getElem?, hs]; exact hx
  · rw [getW_setW_ne _ _ _ _ hv ht]
    have := h.2 t
    simp only [Array.getD_eq_getD_getElem?, Array.getElem?_setIfInBounds] at this ⊢
    rw [if_neg (by omega)]; exact this

def stOf : Nat → LoopState
  | 0 => .ready
  | 1 => .busy
  | 2 => .done
  | _ => .exhausted
def pendOf : Nat → Option Code
  | 0 => none
  | 1 => some .ret
  | i + 2 => some (.exit i)

def grp (L : Look) (b : Nat) : Nat :=
  match L b with
  | some (.cells _ _ g _ _ _) => g
  | some (.loop ..) => b + 1
  | some .defr => b + 1
  | some .gone => b + 1
  | some (.opq _ ro) => if ro = 0 then b + 1 else 0
  | some (.mp ..) => b + 1
  | _ => 0
def info (L : Look) (l : Nat) : Nat × Nat × Nat :=
  match L l with
  | some (.cells _ _ _ keep since maxl) => (keep, since, maxl)
  | _ => (l, 0, 0)
def live (L : Look) (b : Nat) : Prop := grp L b = 0 ∨ (info L (grp L b - 1)).1 = b ∨ (info L (grp L b - 1)).2.1 ≤ b

/-- The cells of a struct or an array. -/
def CellsR (ρ : Rho) (L : Look) (m c : Nat) (vs : Array Value) : Prop :=
  vs.size = m ∧ c < 2 ^ (128 * m) ∧ ∀ i, i < m → ∃ u, vs[i]? = some u ∧ VR ρ L (getW c i) u ∧ storable (getW c i) = true
theorem CellsR.mono0 {ρ ρ' : Rho} {L L' : Look} (e : Ext0 ρ L ρ' L') {m c : Nat} {vs : Array Value} (h : CellsR ρ L m c vs) : CellsR ρ' L' m c vs :=
  ⟨h.1, h.2.1, fun i hi => let ⟨u, a, b, d⟩ := h.2.2 i hi; ⟨u, a, b.mono0 e, d⟩⟩
theorem CellsR.agg {ρ : Rho} {L : Look} {id m c : Nat} {vs : Array Value} (h : CellsR ρ L m c vs) (hL : L id = some (.box 0 m c)) : VR ρ L (mk 6 id) (.agg vs) :=
  .agg id m c vs hL h.1 (fun i hi => by
    obtain ⟨u, a, b, _⟩ := h.2.2 i (by rw [← h.1]; exact hi)
    rw [Array.getElem?_eq_getElem hi] at a; injection a with a; subst a; exact b) h.2.1 (fun i hi => by obtain ⟨u, _, _, d⟩ := h.2.2 i hi; exact d)
/-- The key of a map's entry. -/
def KR (ρ : Rho) (L : Look) (ag m c : Nat) (v : Value) : Prop :=
  (ag = 0 ∧ storable c = true ∧ VR ρ L c v) ∨ (ag = 1 ∧ allInt m c = true ∧ ∃ vs, v = .agg vs ∧ CellsR ρ L m c vs)
theorem KR.mono0 {ρ ρ' : Rho} {L L' : Look} (e : Ext0 ρ L ρ' L') {ag m c : Nat} {v : Value} (h : KR ρ L ag m c v) : KR ρ' L' ag m c v := by
  rcases h with ⟨h1, h2, h3⟩ | ⟨h1, h0, vs, h2, h3⟩
  · exact .inl ⟨h1, h2, h3.mono0 e⟩
  · exact .inr ⟨h1, h0, vs, h2, h3.mono0 e⟩

/-- What a block stands for. -/
def BR (ρ : Rho) (L : Look) (w : World) (r : Nat × Nat × Nat) : Blk → Prop
  | .cells n c g _ _ _ => ∃ cs ty fz, w.heap[r.1]? = some (.cells cs ty fz) ∧ r.2.1 + r.2.2 ≤ cs.size ∧ n ≤ r.2.2 ∧ (g ≠ 0 → fz = (0, 0)) ∧
      ∀ i, i < n → ∃ v, cs[r.2.1 + i]? = some v ∧ VR ρ L (getW c i) v ∧ storable (getW c i) = true
  | .loop T nt ps assign body st pend df => ∃ lp : Loop, w.heap[r.1]? = some (.loop lp) ∧ lp.state = stOf st ∧ lp.pending = pendOf pend ∧ lp.params.toList = ps ∧
      lp.assign = assign ∧ lp.body = body ∧ TR ρ L nt T lp.tmps ∧ ∃ q, ρ df = some q ∧ lp.defers = q.1 ∧ IsDf (L df)
  | .defr => w.heap[r.1]? = some (.deferred (some []))
  | .gone => True
  | .opq j ro => ∃ cs ty fz, w.heap[r.1]? = some (.cells cs ty fz) ∧ r.2.1 + r.2.2 ≤ cs.size ∧ (E.lst j).length ≤ r.2.2 ∧ (ro = 0 → fz = (0, 0)) ∧
      ∀ i, i < (E.lst j).length → cs[r.2.1 + i]? = (E.lst j)[i]?
  | .box .. => False
  | .poly .. => False
  | .mp ag m es => ∃ ents clock, w.heap[r.1]? = some (.map ents clock) ∧ ents.size = es.length ∧
      ∀ (i : Nat) (kv : Nat × Nat), es[i]? = some kv → ∃ e : MapEntry, ents[i]? = some e ∧ KR ρ L ag m kv.1 e.key ∧ VR ρ L kv.2 e.val ∧ storable kv.2 = true

structure Sim (base : Nat) (ρ : Rho) (L : Look) (w : World) : Prop where
  blk : ∀ b r, ρ b = some r → ∃ k, L b = some k ∧ (live L b → BR ρ L w r k)
  sep : ∀ b b' r r', ρ b = some r → ρ b' = some r' → live L b → live L b' → grp L b ≠ 0 → grp L b' ≠ 0 → grp L b ≠ grp L b' → r.1 ≠ r'.1
  same : ∀ b b' r r', ρ b = some r → ρ b' = some r' → live L b → live L b' → grp L b ≠ 0 → grp L b = grp L b' → r.1 = r'.1 → r.2.1 = r'.2.1
  mx : ∀ b r n c g k s m, ρ b = some r → live L b → L b = some (.cells n c g k s m) → g ≠ 0 → n ≤ (info L (g - 1)).2.2
  rw : ∀ b r, ρ b = some r → grp L b ≠ 0 → base ≤ r.1
  ro : ∀ b r, ρ b = some r → grp L b = 0 → r.1 < base
  bnd : ∀ b r, ρ b = some r → r.1 < w.heap.size
  bs : base ≤ w.heap.size
  ld : ∀ b r, ρ b = some r → grp L b ≠ 0 → (∃ q, ρ (grp L b - 1) = some q) ∧ grp L (grp L b - 1) = grp L b
  kind : ∀ b n c g k s m, L b = some (.cells n c g k s m) → g ≠ 0 → ∃ n' c' k' s' m', L (g - 1) = some (.cells n' c' g k' s' m')

def Fresh (n : Nat) (ρ : Rho) (L : Look) : Prop := ∀ b, n ≤ b → L b = none ∧ ρ b = none
def Agree (H : Trie) (L : Look) : Prop := Dep 14 H ∧ ∀ b k, tget H b = some k → L b = some k
/-- Where nothing turns: blocks without a place. -/
structure Loc (_H : Trie) (n : Nat) (ρ : Rho) (L : Look) (ρ' : Rho) (L' : Look) : Prop where
  bare : ∀ b, b < n → ρ b = none → L' b = L b ∧ ρ' b = none

theorem Loc.refl (H : Trie) (n : Nat) (ρ : Rho) (L : Look) : Loc H n ρ L ρ L := ⟨fun _ _ h => ⟨rfl, h⟩⟩
theorem Loc.any {H H' : Trie} {n : Nat} {ρ ρ' : Rho} {L L' : Look} (h : Loc H n ρ L ρ' L') : Loc H' n ρ L ρ' L' := ⟨h.bare⟩
theorem Loc.trans {H H1 : Trie} {n n1 : Nat} {ρ ρ' ρ'' : Rho} {L L' L'' : Look} (h : Loc H n ρ L ρ' L') (hn : n ≤ n1) (k : Loc H1 n1 ρ' L' ρ'' L'') : Loc H n ρ L ρ'' L'' := by
  refine ⟨fun b hb hb2 => ?_⟩
  obtain ⟨a1, a2⟩ := h.bare b hb hb2
  obtain ⟨b1, b2⟩ := k.bare b (Nat.lt_of_lt_of_le hb hn) a2
  exact ⟨b1.trans a1, b2⟩

/-! ### the two sides' looks agree -/
def upd (L : Look) (b : Nat) (k : Blk) : Look := fun j => if j = b then some k else L j
theorem upd_same (L : Look) (b : Nat) (k : Blk) : upd L b k b = some k := by simp [upd]
theorem upd_ne (L : Look) {b j : Nat} (k : Blk) (h : j ≠ b) : upd L b k j = L j := by simp [upd, h]

theorem Agree.hset {H : Trie} {L : Look} (h : Agree H L) {i : Nat} (hi : i < 16384) (k : Blk) : Agree (hset H i k) (upd L i k) := by
  refine ⟨dep_tset _ _ _ _ h.1, fun b k' hb => ?_⟩
  unfold Eng.hset at hb
  rw [tget_tset 14 _ _ _ _ h.1 (by simpa using hi)] at hb
  by_cases hbi : b = i
  · subst hbi; rw [if_pos rfl] at hb; rw [upd_same]; exact hb
  · rw [if_neg hbi] at hb; rw [upd_ne _ _ hbi]; exact h.2 _ _ hb

theorem tget_hset {H : Trie} (h : Dep 14 H) {i : Nat} (hi : i < 16384) (k : Blk) (j : Nat) : tget (hset H i k) j = if j = i then some k else tget H j := by
  unfold Eng.hset; exact tget_tset 14 _ _ _ _ h (by simpa using hi)

theorem grp_of {L : Look} {b n c g k s m : Nat} (h : L b = some (.cells n c g k s m)) : grp L b = g := by simp [grp, h]

theorem vchk_iff (b k s : Nat) : vchk b k s = true ↔ k = b ∨ s ≤ b := by
  unfold vchk; rw [sel_eq]
  by_cases h : k = b
  · simp [h]
  · have : Nat.beq k b = false := by simp [nbeq, h]
    simp [this, h]

theorem validE_iff {H : Trie} {L : Look} (ha : Agree H L) {b n c g k s m : Nat} (hb : L b = some (.cells n c g k s m)) (hv : validE H b g k s = true) : live L b := by
  have hg := grp_of hb
  unfold live
  rw [hg]
  by_cases h0 : g = 0
  · exact .inl h0
  right
  unfold validE at hv
  have h0' : Nat.beq g 0 = false := by simp [nbeq, h0]
  rw [h0', sel_false] at hv
  by_cases h1 : g = b + 1
  · have h1' : Nat.beq g (Nat.succ b) = true := by simp [h1]
    rw [h1', sel_true, vchk_iff] at hv
    have : g - 1 = b := by omega
    rw [this]; simp only [info, hb]; exact hv
  · have h1' : Nat.beq g (Nat.succ b) = false := by simp [nbeq, h1]
    rw [h1', sel_false] at hv
    cases ht : tget H (Nat.pred g) with
    | none => rw [ht] at hv; cases hv
    | some kk =>
      rw [ht] at hv
      cases kk with
      | cells n' c' g' k' s' m' =>
        have hl := ha.2 _ _ ht
        have hp : Nat.pred g = g - 1 := rfl
        rw [hp] at hl
        simp only [info, hl]
        exact (vchk_iff _ _ _).1 hv
      | box => cases hv
      | loop => cases hv
      | defr => cases hv
      | gone => cases hv
      | opq => cases hv
      | mp => cases hv
      | poly => cases hv
end Go.Eng
