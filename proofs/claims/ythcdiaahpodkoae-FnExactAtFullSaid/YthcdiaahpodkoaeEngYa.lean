/- Laws on lists: what is known beforehand of lists that are no points. -/
import Derived.Test.YthcdiaahpodkoaeEngZb
namespace Go.Eng
set_option linter.unusedSectionVars false
set_option linter.unusedSimpArgs false
set_option linter.unusedVariables false
open Go Go.RowKit

def PtZ (z : Nat → Int) (n : Nat) : Prop := n ≤ 5 ∧ ∀ k, k < n → -5 ≤ z k ∧ z k ≤ 5

/-- what is asked of the functions that meet a list as a point -/
structure PointK (P : Program) (fIn fOf : Nat) : Prop where
  kIn : Known P fIn
  kOf : Known P fOf
  inn : ∀ (w : World) (rb d len cap : Nat) (z : Nat → Int), len ≤ 4194304 → (∀ r, r < len → w.cell? ⟨rb, d + r, none⟩ = some (.int .i64 (z r))) → ¬ PtZ z len →
    Calls P fIn #[.slice (some ⟨rb, d, none⟩) len cap] w fun e w' => e = .returned (.bool false) ∧ ∃ m, w' = w.drewN m
  off : ∀ (w : World) (rb d len cap : Nat) (z : Nat → Int), len ≤ 4194304 → (∀ r, r < len → w.cell? ⟨rb, d + r, none⟩ = some (.int .i64 (z r))) → ¬ PtZ z len →
    Calls P fOf #[.slice (some ⟨rb, d, none⟩) len cap] w fun e w' => e = .returned (.tuple #[.agg #[.slice none 0 0, .map none], .bool false]) ∧ Below w.heap.size w w'

noncomputable section
/-- the lists from 8 to 15 are no points -/
def pinS (s : Nat) (H : Trie) (n : Nat) : SR := opqW H s (gd (Nat.ble 8 (oIx (payOf s))) (gd (ltb (oIx (payOf s)) 16) (.yes (.ok 2 H n))))
def pofS (s : Nat) (H : Trie) (n : Nat) : SR := opqW H s (gd (Nat.ble 8 (oIx (payOf s))) (gd (ltb (oIx (payOf s)) 16) (gd (ltb (Nat.succ n) maxBlk)
  (.yes (.ok (mk 6 (Nat.succ n)) (hset (hset H n (.box 0 2 (listW [sNil, 39]))) (Nat.succ n) (.box 1 2 (listW [mk 6 n, 2]))) (Nat.succ (Nat.succ n)))))))
def pointS (fIn fOf : Nat) : Sums := fun f args H n =>
  sel (Nat.beq f fIn) (match args with | [s] => pinS s H n | _ => .no) (sel (Nat.beq f fOf) (match args with | [s] => pofS s H n | _ => .no) .no)
end

variable [E : Env]
theorem pointS_sound {P : Program} {fIn fOf : Nat} {zs : Nat → List Int} (K : PointK P fIn fOf) (hE : ListE zs) (hP : ∀ j, 8 ≤ j → j < 16 → ¬ PtZ (nth (zs j)) (zs j).length) : SumS P (pointS fIn fOf) := by
  intro base H n ρ L w f args vs v H' n' cs c ha h
  unfold pointS at h
  rw [sel_beq, sel_beq] at h
  generalize hvs : vs.toList = l at ha
  split at h
  · rename_i hf
    subst hf
    split at h
    · rename_i s
      rcases ha with _ | ⟨_, v1, _, vs1, hr1, ha1⟩
      cases ha1
      have hvv : vs = #[v1] := by cases vs; simp_all
      subst hvv
      unfold pinS at h
      obtain ⟨h, b, j, lo, hi, rb, d, sz, cap, hs, p1, p2, p3, p4, hb, hj, hlo, hhi, hh0, hl1, hl2, hl3, hcs, hcap, rfl, hb16, hget, cs0, ty, fz, ro, hL, hheap, hds, hfz, hcells, hrow⟩ := opqW_inv hE c hr1 h
      obtain ⟨g0, h⟩ := gd_inv h
      obtain ⟨g1, h⟩ := gd_inv h
      rw [p2] at g0 g1
      have g0 := Nat.le_of_ble_eq_true g0
      have g1 := (ltb_iff _ _).1 g1
      injection h with h
      injection h with e1 e2 e3
      subst e1; subst e2; subst e3
      obtain ⟨e, W, ⟨he, m, hW⟩, hcall⟩ := calls_at (K.inn w rb d (zs j).length cap (nth (zs j)) (by omega) hrow (hP j g0 g1)) cs
      subst he; subst hW
      exact ⟨ρ, L, _, _, c.drewN m, .refl _ _, ⟨rfl, rfl, rfl, Nat.le_refl _, fun _ _ => rfl⟩, .refl _ _ _ _, Nat.le_refl _, VR.bool false, K.kIn, hcall⟩
    · cases h
  · split at h
    · rename_i hf
      subst hf
      split at h
      · rename_i s
        rcases ha with _ | ⟨_, v1, _, vs1, hr1, ha1⟩
        cases ha1
        have hvv : vs = #[v1] := by cases vs; simp_all
        subst hvv
        unfold pofS at h
        obtain ⟨h, b, j, lo, hi, rb, d, sz, cap, hs, p1, p2, p3, p4, hb, hj, hlo, hhi, hh0, hl1, hl2, hl3, hcs, hcap, rfl, hb16, hget, cs0, ty, fz, ro, hL, hheap, hds, hfz, hcells, hrow⟩ := opqW_inv hE c hr1 h
        obtain ⟨g0, h⟩ := gd_inv h
        obtain ⟨g1, h⟩ := gd_inv h
        obtain ⟨g2, h⟩ := gd_inv h
        rw [p2] at g0 g1
        have g0 := Nat.le_of_ble_eq_true g0
        have g1 := (ltb_iff _ _).1 g1
        have g2 : n + 1 < 16384 := (ltb_iff _ _).1 g2
        injection h with h
        injection h with e1 e2 e3
        subst e1; subst e2; subst e3
        obtain ⟨e, W, ⟨he, hW⟩, hcall⟩ := calls_at (K.off w rb d (zs j).length cap (nth (zs j)) (by omega) hrow (hP j g0 g1)) cs
        subst he
        have cW := c.later hW
        have c1 : Ctx base (hset H n (.box 0 2 (listW [sNil, 39]))) (n + 1) ρ (upd L n (.box 0 2 (listW [sNil, 39]))) W := ⟨cW.sim.box cW.fresh _ _ _, cW.agree.hset (by omega) _, cW.fresh.updL _⟩
        have e1 : Ext ρ L ρ (upd L n (.box 0 2 (listW [sNil, 39]))) := .freshL c.fresh _
        have c2 : Ctx base (hset (hset H n (.box 0 2 (listW [sNil, 39]))) (n + 1) (.box 1 2 (listW [mk 6 n, 2]))) (n + 1 + 1) ρ (upd (upd L n (.box 0 2 (listW [sNil, 39]))) (n + 1) (.box 1 2 (listW [mk 6 n, 2]))) W := ⟨c1.sim.box c1.fresh _ _ _, c1.agree.hset g2 _, c1.fresh.updL _⟩
        have e2 := Ext.freshL c1.fresh (.box 1 2 (listW [mk 6 n, 2]))
        have hsl : allSlot [sNil, 39] = true := by decide
        have hvn : VR ρ (upd L n (.box 0 2 (listW [sNil, 39]))) (mk 6 n) (.agg #[.slice none 0 0, .map none]) := by
          refine .agg n 2 _ _ (upd_same _ _ _) rfl (fun i hi => ?_) (by decide) (fun i hi => ?_)
          · rw [getW_listW _ hsl]
            match i, hi with
            | 0, _ => exact .sliceNil
            | 1, _ => exact .mapNil
          · rw [getW_listW _ hsl]
            match i, hi with
            | 0, _ => decide
            | 1, _ => decide
        have hsl2 : allSlot [mk 6 n, 2] = true := allSlot_of _ (by
          intro x hx
          rcases List.mem_cons.1 hx with rfl | hx
          · show 16 * n + 6 < _; omega
          · rcases List.mem_cons.1 hx with rfl | hx
            · decide
            · cases hx)
        refine ⟨ρ, _, W, _, c2, e1.trans e2, hW.mono c.sim.bs, Loc.trans (H1 := hset H n (.box 0 2 (listW [sNil, 39]))) (.freshL _) (Nat.le_succ _) (.freshL _), by omega, ?_, K.kOf, hcall⟩
        refine .tup (n + 1) 2 _ _ (upd_same _ _ _) rfl fun i hi => ?_
        rw [getW_listW _ hsl2]
        match i, hi with
        | 0, _ => exact hvn.mono e2
        | 1, _ => exact VR.bool false
      · cases h
    · cases h
end Go.Eng
