/- Part of the evaluator: Ya Zc Zd. -/
import Derived.Test.YtnglbchhlpbgkaaSEngZb

/- Laws on lists: what is known beforehand of lists that are no points. -/
namespace Go.Eng
set_option linter.unusedSectionVars false
set_option linter.unusedSimpArgs false
set_option linter.unusedVariables false
open Go Go.RowKit

def PtZ (z : Nat → Int) (n : Nat) : Prop := n ≤ 5 ∧ ∀ k, k < n → -5 ≤ z k ∧ z k ≤ 5

/-- what is asked of the functions that meet a list as a point -/
structure PointK (P : Program) (fIn fOf : Nat) : Prop where
  kIn : Known P fIn
  kOf : Known P fOf
  inn : ∀ (w : World) (rb d len cap : Nat) (z : Nat → Int), len ≤ 4194304 → (∀ r, r < len → w.cell? ⟨rb, d + r, none⟩ = some (.int .i64 (z r))) → ¬ PtZ z len →
    Calls P fIn #[.slice (some ⟨rb, d, none⟩) len cap] w fun e w' => e = .returned (.bool false) ∧ ∃ m, w' = w.drewN m
  off : ∀ (w : World) (rb d len cap : Nat) (z : Nat → Int), len ≤ 4194304 → (∀ r, r < len → w.cell? ⟨rb, d + r, none⟩ = some (.int .i64 (z r))) → ¬ PtZ z len →
    Calls P fOf #[.slice (some ⟨rb, d, none⟩) len cap] w fun e w' => e = .returned (.tuple #[.agg #[.slice none 0 0, .map none], .bool false]) ∧ Below w.heap.size w w'

noncomputable section
/-- the lists from 8 to 15 are no points -/
def pinS (s : Nat) (H : Trie) (n : Nat) : SR := opqW H s (gd (Nat.ble 8 (oIx (payOf s))) (gd (ltb (oIx (payOf s)) 16) (.yes (.ok 2 H n))))
def pofS (s : Nat) (H : Trie) (n : Nat) : SR := opqW H s (gd (Nat.ble 8 (oIx (payOf s))) (gd (ltb (oIx (payOf s)) 16) (gd (ltb (Nat.succ n) maxBlk)
  (.yes (.ok (mk 6 (Nat.succ n)) (hset (hset H n (.box 0 2 (listW [sNil, 39]))) (Nat.succ n) (.box 1 2 (listW [mk 6 n, 2]))) (Nat.succ (Nat.succ n)))))))
def pointS (fIn fOf : Nat) : Sums := fun f args H n =>
  sel (Nat.beq f fIn) (match args with | [s] => pinS s H n | _ => .no) (sel (Nat.beq f fOf) (match args with | [s] => pofS s H n | _ => .no) .no)
end

variable [E : Env]
theorem pointS_sound {P : Program} {fIn fOf : Nat} {zs : Nat → List Int} (K : PointK P fIn fOf) (hE : ListE zs) (hP : ∀ j, 8 ≤ j → j < 16 → ¬ PtZ (nth (zs j)) (zs j).length) : SumS P (pointS fIn fOf) := by
  intro base H n ρ L w f args vs v H' n' cs c ha h
  unfold pointS at h
  rw [sel_beq, sel_beq] at h
  generalize hvs : vs.toList = l at ha
  split at h
  · rename_i hf
    subst hf
    split at h
    · rename_i s
      rcases ha with _ | ⟨_, v1, _, vs1, hr1, ha1⟩
      cases ha1
      have hvv : vs = #[v1] := by cases vs; simp_all
      subst hvv
      unfold pinS at h
      obtain ⟨h, b, j, lo, hi, rb, d, sz, cap, hs, p1, p2, p3, p4, hb, hj, hlo, hhi, hh0, hl1, hl2, hl3, hcs, hcap, rfl, hb16, hget, cs0, ty, fz, ro, hL, hheap, hds, hfz, hcells, hrow⟩ := opqW_inv hE c hr1 h
      obtain ⟨g0, h⟩ := gd_inv h
      obtain ⟨g1, h⟩ := gd_inv h
      rw [p2] at g0 g1
      have g0 := Nat.le_of_ble_eq_true g0
      have g1 := (ltb_iff _ _).1 g1
      injection h with h
      injection h with e1 e2 e3
      subst e1; subst e2; subst e3
      obtain ⟨e, W, ⟨he, m, hW⟩, hcall⟩ := calls_at (K.inn w rb d (zs j).length cap (nth (zs j)) (by omega) hrow (hP j g0 g1)) cs
      subst he; subst hW
      exact ⟨ρ, L, _, _, c.drewN m, .refl _ _, ⟨rfl, rfl, rfl, Nat.le_refl _, fun _ _ => rfl⟩, .refl _ _ _ _, Nat.le_refl _, VR.bool false, K.kIn, hcall⟩
    · cases h
  · split at h
    · rename_i hf
      subst hf
      split at h
      · rename_i s
        rcases ha with _ | ⟨_, v1, _, vs1, hr1, ha1⟩
        cases ha1
        have hvv : vs = #[v1] := by cases vs; simp_all
        subst hvv
        unfold pofS at h
        obtain ⟨h, b, j, lo, hi, rb, d, sz, cap, hs, p1, p2, p3, p4, hb, hj, hlo, hhi, hh0, hl1, hl2, hl3, hcs, hcap, rfl, hb16, hget, cs0, ty, fz, ro, hL, hheap, hds, hfz, hcells, hrow⟩ := opqW_inv hE c hr1 h
        obtain ⟨g0, h⟩ := gd_inv h
        obtain ⟨g1, h⟩ := gd_inv h
        obtain ⟨g2, h⟩ := gd_inv h
        rw [p2] at g0 g1
        have g0 := Nat.le_of_ble_eq_true g0
        have g1 := (ltb_iff _ _).1 g1
        have g2 : n + 1 < 16384 := (ltb_iff _ _).1 g2
        injection h with h
        injection h with e1 e2 e3
        subst e1; subst e2; subst e3
        obtain ⟨e, W, ⟨he, hW⟩, hcall⟩ := calls_at (K.off w rb d (zs j).length cap (nth (zs j)) (by omega) hrow (hP j g0 g1)) cs
        subst he
        have cW := c.later hW
        have c1 : Ctx base (hset H n (.box 0 2 (listW [sNil, 39]))) (n + 1) ρ (upd L n (.box 0 2 (listW [sNil, 39]))) W := ⟨cW.sim.box cW.fresh _ _ _, cW.agree.hset (by omega) _, cW.fresh.updL _⟩
        have e1 : Ext ρ L ρ (upd L n (.box 0 2 (listW [sNil, 39]))) := .freshL c.fresh _
        have c2 : Ctx base (hset (hset H n (.box 0 2 (listW [sNil, 39]))) (n + 1) (.box 1 2 (listW [mk 6 n, 2]))) (n + 1 + 1) ρ (upd (upd L n (.box 0 2 (listW [sNil, 39]))) (n + 1) (.box 1 2 (listW [mk 6 n, 2]))) W := ⟨c1.sim.box c1.fresh _ _ _, c1.agree.hset g2 _, c1.fresh.updL _⟩
        have e2 := Ext.freshL c1.fresh (.box 1 2 (listW [mk 6 n, 2]))
        have hsl : allSlot [sNil, 39] = true := by decide
        have hvn : VR ρ (upd L n (.box 0 2 (listW [sNil, 39]))) (mk 6 n) (.agg #[.slice none 0 0, .map none]) := by
          refine .agg n 2 _ _ (upd_same _ _ _) rfl (fun i hi => ?_) (by decide) (fun i hi => ?_)
          · rw [getW_listW _ hsl]
            match i, hi with
            | 0, _ => exact .sliceNil
            | 1, _ => exact .mapNil
          · rw [getW_listW _ hsl]
            match i, hi with
            | 0, _ => decide
            | 1, _ => decide
        have hsl2 : allSlot [mk 6 n, 2] = true := allSlot_of _ (by
          intro x hx
          rcases List.mem_cons.1 hx with rfl | hx
          · show 16 * n + 6 < _; omega
          · rcases List.mem_cons.1 hx with rfl | hx
            · decide
            · cases hx)
        refine ⟨ρ, _, W, _, c2, e1.trans e2, hW.mono c.sim.bs, Loc.trans (H1 := hset H n (.box 0 2 (listW [sNil, 39]))) (.freshL _) (Nat.le_succ _) (.freshL _), by omega, ?_, K.kOf, hcall⟩
        refine .tup (n + 1) 2 _ _ (upd_same _ _ _) rfl fun i hi => ?_
        rw [getW_listW _ hsl2]
        match i, hi with
        | 0, _ => exact hvn.mono e2
        | 1, _ => exact VR.bool false
      · cases h
    · cases h
end Go.Eng

/- Laws on a point beside a list or an int: the numbers of a point are variables of sums of products. -/
namespace Go.Eng
set_option linter.unusedSectionVars false
set_option linter.unusedSimpArgs false
set_option linter.unusedVariables false
open Go Go.RowKit

/-- What a list that comes in as a point may be: nil, without room, a point of so many numbers, no point, too long. -/
inductive PCls where
  | nil
  | zero
  | pt (k : Nat)
  | no
  | long

noncomputable section
def ptW (k : Nat) : Nat → List Nat := Nat.rec (motive := fun _ => Nat → List Nat) (fun _ => []) (fun _ ih i => wV (pvIx i) 549755813883 549755813893 :: ih (Nat.succ i)) k
def PCls.word (c : PCls) (n j : Nat) : Nat := PCls.rec (motive := fun _ => Nat) sNil 14 (fun k => wS n 1 0 k 0) (wO n j 1 1048576) (wO n j 1048577 0) c
def PCls.heap (c : PCls) (n j : Nat) (H : Trie) : Trie := PCls.rec (motive := fun _ => Trie) H H (fun k => hset H n (.cells k (listW (ptW k 0)) 0 0 0 0)) (hset H n (.opq j 1)) (hset H n (.opq j 1)) c
def PCls.next (c : PCls) (n : Nat) : Nat := PCls.rec (motive := fun _ => Nat) n n (fun _ => Nat.succ n) (Nat.succ n) (Nat.succ n) c
def PCls.Fits (c : PCls) (a : Option Addr) (len cap : Nat) (zs : List Int) : Prop :=
  PCls.rec (motive := fun _ => Prop) (a = none ∧ len = 0 ∧ cap = 0) (a ≠ none ∧ len = 0 ∧ cap = 0) (fun k => a ≠ none ∧ 0 < cap ∧ len = k ∧ PtZ (nth (zs.take len)) (zs.take len).length)
    (a ≠ none ∧ 0 < cap ∧ 1 ≤ len ∧ len ≤ 1048576 ∧ ¬ PtZ (nth (zs.take len)) (zs.take len).length) (a ≠ none ∧ 0 < cap ∧ 1048577 ≤ len ∧ ¬ PtZ (nth (zs.take len)) (zs.take len).length) c
def PCls.told (c : PCls) (l : List Int) : List Int := PCls.rec (motive := fun _ => List Int) [7] [7] (fun _ => [7]) l l c
def pclasses : List PCls := [.nil, .zero, .no, .long, .pt 0, .pt 1, .pt 2, .pt 3, .pt 4, .pt 5]
end
theorem ptW_len : ∀ (k i : Nat), (ptW k i).length = k
  | 0, i => rfl
  | k + 1, i => by
    have e : ptW (k + 1) i = wV (pvIx i) 549755813883 549755813893 :: ptW k (i + 1) := rfl
    rw [e, List.length_cons, ptW_len k]
theorem ptW_get : ∀ (k i r : Nat), r < k → (ptW k i).getD r 0 = wV (pvIx (i + r)) 549755813883 549755813893
  | 0, i, r, h => by omega
  | k + 1, i, r, h => by
    have e : ptW (k + 1) i = wV (pvIx i) 549755813883 549755813893 :: ptW k (i + 1) := rfl
    rw [e]
    cases r with
    | zero => rfl
    | succ r =>
      rw [List.getD_cons_succ, ptW_get k (i + 1) r (by omega), show i + 1 + r = i + (r + 1) from by omega]
theorem wV_pv_slot {i : Nat} (h : i < 8) : wV (pvIx i) 549755813883 549755813893 < 2 ^ 128 := by
  show 16 * (1099511627776 * (1099511627776 * (2199023255552 + i) + 549755813883) + 549755813893) + 12 < _
  omega
theorem ptW_slot {k : Nat} (hk : k ≤ 5) : allSlot (ptW k 0) = true := by
  letI : Env := noEnv
  refine allSlot_of _ fun x hx => ?_
  obtain ⟨r, hr, rfl⟩ := List.mem_iff_getElem.1 hx
  rw [ptW_len] at hr
  have := ptW_get k 0 r hr
  rw [List.getD_eq_getElem?_getD, List.getElem?_eq_getElem (by rw [ptW_len]; exact hr)] at this
  simp only [Option.getD_some] at this
  rw [this]
  exact wV_pv_slot (by omega)

theorem seven_noPt : ¬ PtZ (nth [7]) 1 := fun h => by
  have := (h.2 0 (by omega)).2
  simp [nth] at this

theorem PCls.of_row {w : World} {a : Option Addr} {len cap : Nat} {zs : List Int} (h : IntRow w a len cap zs) : ∃ c ∈ pclasses, c.Fits a len cap zs := by
  rcases h with ⟨rfl, rfl, rfl, rfl⟩ | ⟨x, rfl, hl, hm, hzl, hcell, hwz⟩
  · exact ⟨.nil, by simp [pclasses], rfl, rfl, rfl⟩
  by_cases hc : cap = 0
  · exact ⟨.zero, by simp [pclasses], by simp, by omega, hc⟩
  have hcl : (zs.take len).length = len := by simp; omega
  by_cases hS : PtZ (nth (zs.take len)) (zs.take len).length
  · have h5 := hS.1
    rw [hcl] at h5
    have : len = 0 ∨ len = 1 ∨ len = 2 ∨ len = 3 ∨ len = 4 ∨ len = 5 := by omega
    exact ⟨.pt len, by rcases this with h | h | h | h | h | h <;> rw [h] <;> simp [pclasses], by simp, by omega, rfl, hS⟩
  · have hl0 : len ≠ 0 := by
      intro h0
      apply hS
      rw [hcl]
      exact ⟨by omega, fun k hk => by omega⟩
    by_cases hlong : 1048576 < len
    · exact ⟨.long, by simp [pclasses], by simp, by omega, by omega, hS⟩
    · exact ⟨.no, by simp [pclasses], by simp, by omega, by omega, by omega, hS⟩

theorem PCls.told_ok {c : PCls} {w : World} {a : Option Addr} {len cap : Nat} {zs : List Int} (h : IntRow w a len cap zs) (hf : c.Fits a len cap zs) :
    (c.told (zs.take len)).length < 9223372036854775808 ∧ (∀ x ∈ c.told (zs.take len), -9223372036854775808 ≤ x ∧ x < 9223372036854775808) ∧ ¬ PtZ (nth (c.told (zs.take len))) (c.told (zs.take len)).length := by
  have seven : ([7] : List Int).length < 9223372036854775808 ∧ (∀ x ∈ ([7] : List Int), -9223372036854775808 ≤ x ∧ x < 9223372036854775808) ∧ ¬ PtZ (nth [7]) ([7] : List Int).length := ⟨by decide, fun x hx => by simp at hx; omega, seven_noPt⟩
  have rest : len ≤ cap → cap ≤ maxLen → zs.length = cap → (∀ n ∈ zs, (Lit.int .i64 n).wf = true) → ¬ PtZ (nth (zs.take len)) (zs.take len).length →
      (zs.take len).length < 9223372036854775808 ∧ (∀ x ∈ zs.take len, -9223372036854775808 ≤ x ∧ x < 9223372036854775808) ∧ ¬ PtZ (nth (zs.take len)) (zs.take len).length := by
    intro h1 h2 h3 h4 h5
    unfold maxLen at h2
    exact ⟨by simp; omega, fun x hx => wf_i64 (h4 x (List.mem_of_mem_take hx)), h5⟩
  cases c with
  | nil => exact seven
  | zero => exact seven
  | pt l => exact seven
  | no =>
    obtain ⟨g1, g2, g3, g4, g5⟩ := hf
    rcases h with ⟨rfl, _⟩ | ⟨x, rfl, hl, hm, hzl, hcell, hwz⟩
    · exact absurd rfl g1
    · exact rest hl hm hzl hwz g5
  | long =>
    obtain ⟨g1, g2, g3, g5⟩ := hf
    rcases h with ⟨rfl, _⟩ | ⟨x, rfl, hl, hm, hzl, hcell, hwz⟩
    · exact absurd rfl g1
    · exact rest hl hm hzl hwz g5

section
variable [E : Env]
theorem PCls.put {n j len cap : Nat} {H : Trie} {ρ : Rho} {L : Look} {w : World} {a : Option Addr} {zs : List Int} (k : PCls) (c : Ctx w.heap.size H n ρ L w) (hn : n < 16384) (hj : j < 1048576)
    (h : IntRow w a len cap zs) (hf : k.Fits a len cap zs) (he : E.lst j = (k.told (zs.take len)).map (Value.int .i64)) (hv : ∀ i, i < 8 → E.int (pvIx i) = nth (zs.take len) i) :
    ∃ ρ' L', Ctx w.heap.size (k.heap n j H) (k.next n) ρ' L' w ∧ Ext ρ L ρ' L' ∧ VR ρ' L' (k.word n j) (.slice a len cap) := by
  rcases h with ⟨rfl, rfl, rfl, rfl⟩ | ⟨x, rfl, hl, hm, hzl, hcell, hwz⟩
  · cases k with
    | nil => exact ⟨ρ, L, c, .refl _ _, .sliceNil⟩
    | zero => exact absurd rfl hf.1
    | pt l => exact absurd rfl hf.1
    | no => exact absurd rfl hf.1
    | long => exact absurd rfl hf.1
  unfold maxLen at hm
  have hrow : RowOf .i64 w x cap zs := ⟨hzl, hcell⟩
  have hcl : (zs.take len).length = len := by simp; omega
  have opq : 0 < cap → k.told (zs.take len) = zs.take len → ∃ ρ' L', Ctx w.heap.size (hset H n (.opq j 1)) (n + 1) ρ' L' w ∧ Ext ρ L ρ' L' ∧ ∀ lo hi : Nat, lo < 4194304 → hi < 4194304 → lo ≤ len → (hi = 0 ∨ len ≤ hi) → VR ρ' L' (wO n j lo hi) (.slice (some x) len cap) := by
    intro hc0 ht
    rw [ht] at he
    obtain ⟨hsp, cs, ty, fz, hh, hsz, hall⟩ := hrow.block (by omega)
    have hx : x = ⟨x.block, x.off, none⟩ := by
      cases x with
      | mk b o s => simp at hsp ⊢; exact hsp
    have hrb : x.block < w.heap.size := (Array.getElem?_eq_some_iff.1 hh).1
    have hel : (E.lst j).length = len := by rw [he, List.length_map, hcl]
    refine ⟨_, _, c.opq (j := j) (sz := cap) (d := x.off) hn hh hrb hsz (by omega) (fun i hi => by
      rw [hall i (by omega), he, List.getElem?_map]
      have hi2 : i < (zs.take len).length := by omega
      rw [List.getElem?_eq_getElem hi2]
      have hi3 : i < zs.length := by omega
      simp [List.getD_eq_getElem?_getD, hi3]), .fresh c.fresh _ _, ?_⟩
    intro lo hi q1 q2 q3 q4
    have := VR.opq (ρ := updR ρ n (x.block, x.off, cap)) (L := upd L n (.opq j 1)) n j lo hi x.block x.off cap cap (updR_same _ _ _) hj q1 q2 (by rw [hel]; exact q3) (by rw [hel]; exact q4) (by rw [hel]; exact hl) (by omega) (by omega)
    rw [hel, ← hx] at this
    exact this
  cases k with
  | nil => exact absurd hf.1 (by simp)
  | zero =>
    obtain ⟨_, rfl, rfl⟩ := hf
    exact ⟨ρ, L, c, .refl _ _, .sl0 x⟩
  | pt m =>
    obtain ⟨_, h0, rfl, hP⟩ := hf
    rw [hcl] at hP
    obtain ⟨hsp, cs, ty, fz, hh, hsz, hall⟩ := hrow.block h0
    have hx : x = ⟨x.block, x.off + 0, none⟩ := by
      cases x with
      | mk b o s => simp at hsp ⊢; exact hsp
    have hrb : x.block < w.heap.size := (Array.getElem?_eq_some_iff.1 hh).1
    refine ⟨_, _, c.arg (nb := len) (ch := listW (ptW len 0)) (sz := cap) (d := x.off) hn hh hrb hsz hl (fun i hi => ?_), .fresh c.fresh _ _, ?_⟩
    · refine ⟨_, hall i (by omega), ?_⟩
      rw [getW_listW _ (ptW_slot hP.1), ptW_get len 0 i hi, Nat.zero_add]
      have h1 := hP.2 i hi
      have h2 := hv i (by have := hP.1; omega)
      have h3 : nth (zs.take len) i = zs.getD i 0 := by
        have hi3 : i < zs.length := by omega
        simp [nth, List.getD_eq_getElem?_getD, hi, hi3]
      rw [h3] at h1 h2
      refine ⟨?_, ?_⟩
      · rw [← h2]
        exact .var _ _ _ (by omega) (by omega) (.inr (by rw [h2]; omega)) (.inr (by rw [h2]; omega))
      · rw [storable_iff, tag_wV]
        exact ⟨by decide, by decide, by decide, wV_pv_slot (by have := hP.1; omega)⟩
    · exact .slice n 1 0 len 0 x.block x.off cap cap x (updR_same _ _ _) (by omega) (by omega) (by have := hP.1; omega) (by omega) hl (by omega) (.inl rfl) (.inr ⟨hx, by omega⟩)
  | no =>
    obtain ⟨_, h0, h1, h2, _⟩ := hf
    obtain ⟨ρ', L', c', he', hv⟩ := opq h0 rfl
    exact ⟨ρ', L', c', he', hv 1 1048576 (by omega) (by omega) h1 (.inr h2)⟩
  | long =>
    obtain ⟨_, h0, h1, _⟩ := hf
    obtain ⟨ρ', L', c', he', hv⟩ := opq h0 rfl
    exact ⟨ρ', L', c', he', hv 1048577 0 (by omega) (by omega) h1 (.inl rfl)⟩
end

noncomputable section
def prun (P : Program) (S0 : Sums) (F : Fns) (fi fo fuel d f : Nat) (args : List Nat) (H : Trie) (n : Nat) : OR := funE P (callN P (orS (orS F.S (pointS fi fo)) S0) fuel d) fuel f args H n
/-- a law on a list and a point -/
def lptRun (P : Program) (S0 : Sums) (F : Fns) (fi fo fuel d f : Nat) (c1 : Cls) (c2 : PCls) : OR :=
  prun P S0 F fi fo fuel d f [c1.word 0 0, c2.word (c1.next 0) 8] (c2.heap (c1.next 0) 8 (c1.heap 0 0 .nil)) (c2.next (c1.next 0))
/-- a law on an int and a point -/
def iptRun (P : Program) (S0 : Sums) (F : Fns) (fi fo fuel d f : Nat) (c1 : ICls) (c2 : PCls) : OR :=
  prun P S0 F fi fo fuel d f [c1.word 1, c2.word 0 8] (c2.heap 0 8 .nil) (c2.next 0)
end

theorem nth_wf {zs : List Int} {len : Nat} (h : ∀ n ∈ zs, (Lit.int .i64 n).wf = true) (i : Nat) : -9223372036854775808 ≤ nth (zs.take len) i ∧ nth (zs.take len) i < 9223372036854775808 := by
  unfold nth
  by_cases hi : i < (zs.take len).length
  · rw [List.getD_eq_getElem?_getD, List.getElem?_eq_getElem hi]
    exact wf_i64 (h _ (List.mem_of_mem_take (List.getElem_mem hi)))
  · rw [List.getD_eq_getElem?_getD, List.getElem?_eq_none (by omega)]; simp
theorem IntRow.wf {w : World} {a : Option Addr} {len cap : Nat} {zs : List Int} (h : IntRow w a len cap zs) : ∀ n ∈ zs, (Lit.int .i64 n).wf = true := by
  rcases h with ⟨_, _, _, rfl⟩ | ⟨_, _, _, _, _, _, h⟩
  · intro n hn; cases hn
  · exact h

/-- ██ The walk of a law on a list of ints and a point, out of its runs. -/
theorem lpt_walk {P : Program} {S0 : Sums} (hS0 : Always P S0) {F : Fns} {tInt fi fo fuel d f : Nat} (K : ListK P F.to F.eq F.mark F.inn F.of tInt) (KP : PointK P fi fo) {w : World}
    {len1 cap1 : Nat} {a1 : Option Addr} {zs1 : List Int} (w1 : IntRow w a1 len1 cap1 zs1) {len2 cap2 : Nat} {a2 : Option Addr} {zs2 : List Int} (w2 : IntRow w a2 len2 cap2 zs2)
    (hs : AllL (fun c1 => AllL (fun c2 => isTrue (lptRun P S0 F fi fo fuel d f c1 c2) = true) pclasses) classes) :
    Calls P f #[.slice a1 len1 cap1, .slice a2 len2 cap2] w fun e w' => e = .returned (.bool true) ∧ Below w.heap.size w w' := by
  obtain ⟨k1, hk1, f1⟩ := Cls.of_row w1
  obtain ⟨k2, hk2, f2⟩ := PCls.of_row w2
  have hrun := (hs.mem k1 hk1).mem k2 hk2
  obtain ⟨t11, t12, t13⟩ := Cls.told_ok w1 f1
  obtain ⟨t21, t22, t23⟩ := PCls.told_ok w2 f2
  let zs : Nat → List Int := fun j => if j < 8 then k1.told (zs1.take len1) else k2.told (zs2.take len2)
  have hz : ∀ j, (zs j).length < 9223372036854775808 := fun j => by
    show (if j < 8 then _ else _ : List Int).length < _
    split
    · exact t11
    · exact t21
  have hn : ∀ j, -9223372036854775808 ≤ (fun j => nth (zs2.take len2) (j - 2199023255552)) j ∧ (fun j => nth (zs2.take len2) (j - 2199023255552)) j < 9223372036854775808 := fun j => nth_wf w2.wf _
  letI E : Env := argEnv zs hz (fun j => nth (zs2.take len2) (j - 2199023255552)) hn
  have hrng : ∀ j, ∀ x ∈ zs j, -9223372036854775808 ≤ x ∧ x < 9223372036854775808 := fun j => by
    show ∀ x ∈ (if j < 8 then _ else _ : List Int), _
    split
    · exact t12
    · exact t22
  have hno : ∀ j, j < 8 → ¬ ShareZ (nth (zs j)) (zs j).length := fun j hj => by
    show ¬ ShareZ (nth (if j < 8 then _ else _ : List Int)) (if j < 8 then _ else _ : List Int).length
    rw [if_pos hj]; exact t13
  have hE : ListE zs := { lst := fun j hj => listL_lst _ j hj, rng := hrng, no := hno }
  have hP : ∀ j, 8 ≤ j → j < 16 → ¬ PtZ (nth (zs j)) (zs j).length := fun j h8 _ => by
    show ¬ PtZ (nth (if j < 8 then _ else _ : List Int)) (if j < 8 then _ else _ : List Int).length
    rw [if_neg (by omega)]; exact t23
  have hpv : ∀ i, i < 8 → E.int (pvIx i) = nth (zs2.take len2) i := fun i hi => by
    have e : pvIx i = 2199023255552 + i := rfl
    show (if 1099511627776 ≤ pvIx i ∧ pvIx i < 1099511627776 + 1048576 then _ else nth (zs2.take len2) (pvIx i - 2199023255552)) = _
    rw [e, if_neg (by omega), show 2199023255552 + i - 2199023255552 = i from by omega]
  obtain ⟨ρ1, L1, c1, e1, v1⟩ := k1.put (Ctx.start w) (by omega) (j := 0) (by omega) w1 f1 (hE.lst 0 (by omega))
  have hn1 : k1.next 0 < 16384 := by cases k1 <;> simp [Cls.next]
  obtain ⟨ρ2, L2, c2, e2, v2⟩ := k2.put c1 hn1 (j := 8) (by omega) w2 f2 (hE.lst 8 (by omega)) hpv
  exact run_true (orS_sound (orS_sound (listS_sound K hE) (pointS_sound KP hE hP)) (hS0 _)) c2 (.cons _ _ _ _ (v1.mono e2) (.cons _ _ _ _ v2 .nil)) hrun

/-- ██ The walk of a law on an int and a point, out of its runs. -/
theorem ipt_walk {P : Program} {S0 : Sums} (hS0 : Always P S0) {F : Fns} {tInt fi fo fuel d f m : Nat} (hm : m < 1000000) (K : ListK P F.to F.eq F.mark F.inn F.of tInt) (KP : PointK P fi fo) {w : World}
    {z : Int} (w1 : (Lit.int .i64 z).wf = true) {len2 cap2 : Nat} {a2 : Option Addr} {zs2 : List Int} (w2 : IntRow w a2 len2 cap2 zs2)
    (hs : AllL (fun c1 => AllL (fun c2 => isTrue (iptRun P S0 F fi fo fuel d f c1 c2) = true) pclasses) (iclasses m)) :
    Calls P f #[.int .i64 z, .slice a2 len2 cap2] w fun e w' => e = .returned (.bool true) ∧ Below w.heap.size w w' := by
  obtain ⟨k1, hk1, f1⟩ := ICls.of_int m z
  obtain ⟨k2, hk2, f2⟩ := PCls.of_row w2
  have hrun := (hs.mem k1 hk1).mem k2 hk2
  obtain ⟨t21, t22, t23⟩ := PCls.told_ok w2 f2
  let zs : Nat → List Int := fun j => if j < 8 then [7] else k2.told (zs2.take len2)
  have hz : ∀ j, (zs j).length < 9223372036854775808 := fun j => by
    show (if j < 8 then _ else _ : List Int).length < _
    split
    · decide
    · exact t21
  have hn : ∀ j, -9223372036854775808 ≤ (fun j => if j = 1 then z else nth (zs2.take len2) (j - 2199023255552)) j ∧ (fun j => if j = 1 then z else nth (zs2.take len2) (j - 2199023255552)) j < 9223372036854775808 := fun j => by
    show _ ≤ (if j = 1 then z else _) ∧ (if j = 1 then z else _) < _
    split
    · exact wf_i64 w1
    · exact nth_wf w2.wf _
  letI E : Env := argEnv zs hz (fun j => if j = 1 then z else nth (zs2.take len2) (j - 2199023255552)) hn
  have hrng : ∀ j, ∀ x ∈ zs j, -9223372036854775808 ≤ x ∧ x < 9223372036854775808 := fun j => by
    show ∀ x ∈ (if j < 8 then _ else _ : List Int), _
    split
    · intro x hx; simp at hx; omega
    · exact t22
  have hno : ∀ j, j < 8 → ¬ ShareZ (nth (zs j)) (zs j).length := fun j hj => by
    show ¬ ShareZ (nth (if j < 8 then _ else _ : List Int)) (if j < 8 then _ else _ : List Int).length
    rw [if_pos hj]; exact ten_no
  have hE : ListE zs := { lst := fun j hj => listL_lst _ j hj, rng := hrng, no := hno }
  have hP : ∀ j, 8 ≤ j → j < 16 → ¬ PtZ (nth (zs j)) (zs j).length := fun j h8 _ => by
    show ¬ PtZ (nth (if j < 8 then _ else _ : List Int)) (if j < 8 then _ else _ : List Int).length
    rw [if_neg (by omega)]; exact t23
  have hpv : ∀ i, i < 8 → E.int (pvIx i) = nth (zs2.take len2) i := fun i hi => by
    have e : pvIx i = 2199023255552 + i := rfl
    show (if 1099511627776 ≤ pvIx i ∧ pvIx i < 1099511627776 + 1048576 then _ else if pvIx i = 1 then z else nth (zs2.take len2) (pvIx i - 2199023255552)) = _
    rw [e, if_neg (by omega), if_neg (by omega), show 2199023255552 + i - 2199023255552 = i from by omega]
  obtain ⟨ρ2, L2, c2, e2, v2⟩ := k2.put (Ctx.start w) (by omega) (j := 8) (by omega) w2 f2 (hE.lst 8 (by omega)) hpv
  have v1 := k1.put (ρ := ρ2) (L := L2) hk1 hm 1 rfl f1
  exact run_true (orS_sound (orS_sound (listS_sound K hE) (pointS_sound KP hE hP)) (hS0 _)) c2 (.cons _ _ _ _ v1 (.cons _ _ _ _ v2 .nil)) hrun
end Go.Eng

/- Laws on a text, a list and a point. -/
namespace Go.Eng
set_option linter.unusedSectionVars false
set_option linter.unusedSimpArgs false
set_option linter.unusedVariables false
open Go Go.RowKit

/-- What a text that comes in may be: one of those that are named, another one, one that is too long. -/
inductive SCls where
  | known (k : Nat)
  | other
  | long

noncomputable section
def kText : List ByteArray := [⟨#[109]⟩, ⟨#[101]⟩, ⟨#[104]⟩, ⟨#[112]⟩, ⟨#[115]⟩, ⟨#[]⟩]
def SCls.word (c : SCls) (j : Nat) : Nat := SCls.rec (motive := fun _ => Nat) (fun k => knownT.getD k 0) (ostrW j 0 1048576) (ostrW j 1048577 0) c
def SCls.Fits (c : SCls) (s : ByteArray) : Prop := SCls.rec (motive := fun _ => Prop) (fun k => k < 6 ∧ s = kText.getD k ⟨#[]⟩) (inT knownT (strW s) = false ∧ s.size ≤ 1048576) (inT knownT (strW s) = false ∧ 1048577 ≤ s.size) c
def sclasses : List SCls := [.known 0, .known 1, .known 2, .known 3, .known 4, .known 5, .other, .long]
/-- the text that the surroundings tell for it -/
def SCls.told (c : SCls) (s : ByteArray) : ByteArray := SCls.rec (motive := fun _ => ByteArray) (fun _ => ⟨#[0]⟩) s s c
end
theorem inT_mem {l : List Nat} {w : Nat} : inT l w = true → w ∈ l := by
  induction l with
  | nil => intro h; cases h
  | cons x l ih =>
    intro h
    have e : inT (x :: l) w = sel (Nat.beq x w) true (inT l w) := rfl
    rw [e, sel_beq] at h
    split at h
    · rename_i h1; rw [h1]; exact List.mem_cons_self
    · exact List.mem_cons_of_mem _ (ih h)
theorem kText_word : ∀ k, k < 6 → strW (kText.getD k ⟨#[]⟩) = knownT.getD k 0 := by
  intro k hk
  have : k = 0 ∨ k = 1 ∨ k = 2 ∨ k = 3 ∨ k = 4 ∨ k = 5 := by omega
  rcases this with rfl | rfl | rfl | rfl | rfl | rfl <;> rfl
theorem SCls.of_text (s : ByteArray) : ∃ c ∈ sclasses, c.Fits s := by
  cases hT : inT knownT (strW s) with
  | false =>
    by_cases hl : s.size ≤ 1048576
    · exact ⟨.other, by simp [sclasses], hT, hl⟩
    · exact ⟨.long, by simp [sclasses], hT, by omega⟩
  | true =>
    have hm := inT_mem hT
    letI : Env := noEnv
    have key : ∀ k, k < 6 → strW s = knownT.getD k 0 → s = kText.getD k ⟨#[]⟩ := fun k hk h => strW_inj (h.trans (kText_word k hk).symm)
    simp only [knownT, List.mem_cons, List.not_mem_nil, or_false] at hm
    rcases hm with h | h | h | h | h | h
    · exact ⟨.known 0, by simp [sclasses], by omega, key 0 (by omega) h⟩
    · exact ⟨.known 1, by simp [sclasses], by omega, key 1 (by omega) h⟩
    · exact ⟨.known 2, by simp [sclasses], by omega, key 2 (by omega) h⟩
    · exact ⟨.known 3, by simp [sclasses], by omega, key 3 (by omega) h⟩
    · exact ⟨.known 4, by simp [sclasses], by omega, key 4 (by omega) h⟩
    · exact ⟨.known 5, by simp [sclasses], by omega, key 5 (by omega) h⟩
theorem SCls.told_ok {c : SCls} {s : ByteArray} (hf : c.Fits s) : inT knownT (strW (c.told s)) = false := by
  cases c with
  | known k => exact txt0_ok
  | other => exact hf.1
  | long => exact hf.1
theorem SCls.put [E : Env] {ρ : Rho} {L : Look} {s : ByteArray} {j : Nat} (k : SCls) (hf : k.Fits s) (ht : E.txt j = k.told s) (hi : E.int (txtIx j) = ((k.told s).size : Int)) : VR ρ L (k.word j) (.string s) := by
  cases k with
  | known k =>
    obtain ⟨h1, rfl⟩ := hf
    show VR ρ L (knownT.getD k 0) _
    rw [← kText_word k h1]
    exact .str _
  | other =>
    have ht : E.txt j = s := ht
    have hi : E.int (txtIx j) = (s.size : Int) := hi
    have h2 : s.size ≤ 1048576 := hf.2
    show VR ρ L (ostrW j 0 1048576) _
    rw [← ht]
    exact .ostr j 0 1048576 (by omega) (by omega) (by omega) (.inr (by rw [ht]; exact h2)) (by rw [ht, hi])
  | long =>
    have ht : E.txt j = s := ht
    have hi : E.int (txtIx j) = (s.size : Int) := hi
    have h2 : 1048577 ≤ s.size := hf.2
    show VR ρ L (ostrW j 1048577 0) _
    rw [← ht]
    exact .ostr j 1048577 0 (by omega) (by omega) (by rw [ht]; exact h2) (.inl rfl) (by rw [ht, hi])

/-- a law on a text, a list and a point -/
noncomputable def slptRun (P : Program) (S0 : Sums) (F : Fns) (fi fo fuel d f : Nat) (c0 : SCls) (c1 : Cls) (c2 : PCls) : OR :=
  prun P S0 F fi fo fuel d f [c0.word 0, c1.word 0 0, c2.word (c1.next 0) 8] (c2.heap (c1.next 0) 8 (c1.heap 0 0 .nil)) (c2.next (c1.next 0))

/-- ██ The walk of a law on a text, a list of ints and a point, out of its runs. -/
theorem slpt_walk {P : Program} {S0 : Sums} (hS0 : Always P S0) {F : Fns} {tInt fi fo fuel d f : Nat} (K : ListK P F.to F.eq F.mark F.inn F.of tInt) (KP : PointK P fi fo) {w : World}
    {s : ByteArray} (w0 : s.size ≤ maxLen)
    {len1 cap1 : Nat} {a1 : Option Addr} {zs1 : List Int} (w1 : IntRow w a1 len1 cap1 zs1) {len2 cap2 : Nat} {a2 : Option Addr} {zs2 : List Int} (w2 : IntRow w a2 len2 cap2 zs2)
    (hs : AllL (fun c0 => AllL (fun c1 => AllL (fun c2 => isTrue (slptRun P S0 F fi fo fuel d f c0 c1 c2) = true) pclasses) classes) sclasses) :
    Calls P f #[.string s, .slice a1 len1 cap1, .slice a2 len2 cap2] w fun e w' => e = .returned (.bool true) ∧ Below w.heap.size w w' := by
  obtain ⟨k0, hk0, f0⟩ := SCls.of_text s
  obtain ⟨k1, hk1, f1⟩ := Cls.of_row w1
  obtain ⟨k2, hk2, f2⟩ := PCls.of_row w2
  have hrun := ((hs.mem k0 hk0).mem k1 hk1).mem k2 hk2
  obtain ⟨t11, t12, t13⟩ := Cls.told_ok w1 f1
  obtain ⟨t21, t22, t23⟩ := PCls.told_ok w2 f2
  unfold maxLen at w0
  have hsz : (k0.told s).size < 9223372036854775808 := by
    cases k0 with
    | known k => exact (by decide : (1 : Nat) < 9223372036854775808)
    | other => show s.size < _; omega
    | long => show s.size < _; omega
  let zs : Nat → List Int := fun j => if j < 8 then k1.told (zs1.take len1) else k2.told (zs2.take len2)
  let ns : Nat → Int := fun j => if j = 1099512676352 then ((k0.told s).size : Int) else nth (zs2.take len2) (j - 2199023255552)
  have hz : ∀ j, (zs j).length < 9223372036854775808 := fun j => by
    show (if j < 8 then _ else _ : List Int).length < _
    split
    · exact t11
    · exact t21
  have hn : ∀ j, -9223372036854775808 ≤ ns j ∧ ns j < 9223372036854775808 := fun j => by
    show _ ≤ (if j = 1099512676352 then _ else _) ∧ (if j = 1099512676352 then _ else _) < _
    split
    · omega
    · exact nth_wf w2.wf _
  letI E : Env := argEnvT zs hz ns hn (fun _ => k0.told s) (fun _ _ => SCls.told_ok f0)
  have hrng : ∀ j, ∀ x ∈ zs j, -9223372036854775808 ≤ x ∧ x < 9223372036854775808 := fun j => by
    show ∀ x ∈ (if j < 8 then _ else _ : List Int), _
    split
    · exact t12
    · exact t22
  have hno : ∀ j, j < 8 → ¬ ShareZ (nth (zs j)) (zs j).length := fun j hj => by
    show ¬ ShareZ (nth (if j < 8 then _ else _ : List Int)) (if j < 8 then _ else _ : List Int).length
    rw [if_pos hj]; exact t13
  have hE : ListE zs := { lst := fun j hj => listL_lst _ j hj, rng := hrng, no := hno }
  have hP : ∀ j, 8 ≤ j → j < 16 → ¬ PtZ (nth (zs j)) (zs j).length := fun j h8 _ => by
    show ¬ PtZ (nth (if j < 8 then _ else _ : List Int)) (if j < 8 then _ else _ : List Int).length
    rw [if_neg (by omega)]; exact t23
  have hpv : ∀ i, i < 8 → E.int (pvIx i) = nth (zs2.take len2) i := fun i hi => by
    have e : pvIx i = 2199023255552 + i := rfl
    show (if 1099511627776 ≤ pvIx i ∧ pvIx i < 1099511627776 + 1048576 then _ else if pvIx i = 1099512676352 then _ else nth (zs2.take len2) (pvIx i - 2199023255552)) = _
    rw [e, if_neg (by omega), if_neg (by omega), show 2199023255552 + i - 2199023255552 = i from by omega]
  have hti : E.int (txtIx 0) = ((k0.told s).size : Int) := by
    have e : txtIx 0 = 1099512676352 := rfl
    show (if 1099511627776 ≤ txtIx 0 ∧ txtIx 0 < 1099511627776 + 1048576 then _ else if txtIx 0 = 1099512676352 then _ else _) = _
    rw [e, if_neg (by omega), if_pos rfl]
  obtain ⟨ρ1, L1, c1, e1, v1⟩ := k1.put (Ctx.start w) (by omega) (j := 0) (by omega) w1 f1 (hE.lst 0 (by omega))
  have hn1 : k1.next 0 < 16384 := by cases k1 <;> simp [Cls.next]
  obtain ⟨ρ2, L2, c2, e2, v2⟩ := k2.put c1 hn1 (j := 8) (by omega) w2 f2 (hE.lst 8 (by omega)) hpv
  exact run_true (orS_sound (orS_sound (listS_sound K hE) (pointS_sound KP hE hP)) (hS0 _)) c2 (.cons _ _ _ _ (k0.put f0 rfl hti) (.cons _ _ _ _ (v1.mono e2) (.cons _ _ _ _ v2 .nil))) hrun

/-- a law on a text and a list -/
noncomputable def slRun (P : Program) (S0 : Sums) (F : Fns) (fuel d f : Nat) (c0 : SCls) (c1 : Cls) : OR :=
  funE P (callN P (orS F.S S0) fuel d) fuel f [c0.word 0, c1.word 0 0] (c1.heap 0 0 .nil) (c1.next 0)
/-- ██ The walk of a law on a text and a list of ints, out of its runs. -/
theorem sl_walk {P : Program} {S0 : Sums} (hS0 : Always P S0) {F : Fns} {tInt fuel d f : Nat} (K : ListK P F.to F.eq F.mark F.inn F.of tInt) {w : World}
    {s : ByteArray} (w0 : s.size ≤ maxLen) {len1 cap1 : Nat} {a1 : Option Addr} {zs1 : List Int} (w1 : IntRow w a1 len1 cap1 zs1)
    (hs : AllL (fun c0 => AllL (fun c1 => isTrue (slRun P S0 F fuel d f c0 c1) = true) classes) sclasses) :
    Calls P f #[.string s, .slice a1 len1 cap1] w fun e w' => e = .returned (.bool true) ∧ Below w.heap.size w w' := by
  obtain ⟨k0, hk0, f0⟩ := SCls.of_text s
  obtain ⟨k1, hk1, f1⟩ := Cls.of_row w1
  have hrun := (hs.mem k0 hk0).mem k1 hk1
  obtain ⟨t11, t12, t13⟩ := Cls.told_ok w1 f1
  unfold maxLen at w0
  have hsz : (k0.told s).size < 9223372036854775808 := by
    cases k0 with
    | known k => exact (by decide : (1 : Nat) < 9223372036854775808)
    | other => show s.size < _; omega
    | long => show s.size < _; omega
  letI E : Env := argEnvT (fun _ => k1.told (zs1.take len1)) (fun _ => t11) (fun _ => ((k0.told s).size : Int)) (fun _ => by omega) (fun _ => k0.told s) (fun _ _ => SCls.told_ok f0)
  have hE : ListE (fun _ => k1.told (zs1.take len1)) := { lst := fun j hj => listL_lst _ j hj, rng := fun _ => t12, no := fun _ _ => t13 }
  have hti : E.int (txtIx 0) = ((k0.told s).size : Int) := by
    have e : txtIx 0 = 1099512676352 := rfl
    show (if 1099511627776 ≤ txtIx 0 ∧ txtIx 0 < 1099511627776 + 1048576 then _ else _) = _
    rw [e, if_neg (by omega)]
  obtain ⟨ρ1, L1, c1, e1, v1⟩ := k1.put (Ctx.start w) (by omega) (j := 0) (by omega) w1 f1 (hE.lst 0 (by omega))
  exact run_true (orS_sound (listS_sound K hE) (hS0 _)) c1 (.cons _ _ _ _ (k0.put f0 rfl hti) (.cons _ _ _ _ v1 .nil)) hrun
end Go.Eng
