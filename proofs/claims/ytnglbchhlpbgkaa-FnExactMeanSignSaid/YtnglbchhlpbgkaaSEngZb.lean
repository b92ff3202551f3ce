/- Part of the evaluator: Y Z Za Zb. -/
import Derived.Test.YtnglbchhlpbgkaaSEngXp

/- Laws on lists: what is known beforehand of lists that are no shares. -/
namespace Go.Eng
set_option linter.unusedSectionVars false
set_option linter.unusedSimpArgs false
set_option linter.unusedVariables false
open Go Go.RowKit

/-! ### shares -/
def lft (z : Nat → Int) : Nat → Int
  | 0 => 6
  | k + 1 => lft z k - z k
def OkAt (z : Nat → Int) (k : Nat) : Prop := 1 ≤ z k ∧ z k ≤ lft z k ∧ (0 < k → z k ≤ z (k - 1))
def ShareZ (z : Nat → Int) (n : Nat) : Prop := ∀ k, k < n → OkAt z k
def nth (l : List Int) : Nat → Int := fun i => l.getD i 0

/-- what is asked of the functions that meet a list as a whole -/
structure ListK (P : Program) (fTo fEq fMark fIn fOf tInt : Nat) : Prop where
  kTo : Known P fTo
  kEq : Known P fEq
  kMark : fMark ≠ fEq → Known P fMark
  kIn : fIn ≠ fEq → Known P fIn
  kOf : fOf ≠ fEq → Known P fOf
  to : ∀ (w : World) (rb d len cap : Nat) (z : Nat → Int), len ≤ 4194304 → (∀ r, r < len → w.cell? ⟨rb, d + r, none⟩ = some (.int .i64 (z r))) →
    Calls P fTo #[.slice (some ⟨rb, d, none⟩) len cap] w fun e w' => e = .returned (.slice (some ⟨w.heap.size, 0, none⟩) len len) ∧
      ∃ cs : Array Value, w'.heap = w.heap.push (.cells cs tInt (0, 0)) ∧ cs.size = len ∧ (∀ i, i < len → cs[i]? = some (.int .i64 (z i))) ∧ w'.os = w.os ∧ w'.tape = w.tape ∧ w'.output = w.output
  eq : ∀ (w : World) (rb d rb2 d2 len cap cap2 : Nat) (z : Nat → Int), len ≤ 4194304 → (∀ r, r < len → w.cell? ⟨rb, d + r, none⟩ = some (.int .i64 (z r))) → (∀ r, r < len → w.cell? ⟨rb2, d2 + r, none⟩ = some (.int .i64 (z r))) →
    Calls P fEq #[.slice (some ⟨rb, d, none⟩) len cap, .slice (some ⟨rb2, d2, none⟩) len cap2] w fun e w' => e = .returned (.bool true) ∧ ∃ m, w' = w.drewN m
  mark : fMark ≠ fEq → ∀ (w : World) (rb d len cap k0 : Nat), k0 ≤ 1099511627776 → len ≤ 4194304 → (∀ r, r < len → ∃ v, w.cell? ⟨rb, d + r, none⟩ = some v) → (∀ r, r < len → w.frozen? ⟨rb, d + r, none⟩ = false) →
    Calls P fMark #[.slice (some ⟨rb, d, none⟩) len cap, .int .i64 k0] w fun e w' => e = .returned (.int .i64 ((k0 + len : Nat) : Int)) ∧ w'.heap.size = w.heap.size ∧ (∀ b, b ≠ rb → w'.heap[b]? = w.heap[b]?) ∧ w'.os = w.os ∧ w'.tape = w.tape ∧ w'.output = w.output
  inn : fIn ≠ fEq → ∀ (w : World) (rb d len cap : Nat) (z : Nat → Int), len ≤ 4194304 → (∀ r, r < len → w.cell? ⟨rb, d + r, none⟩ = some (.int .i64 (z r))) → ¬ ShareZ z len →
    Calls P fIn #[.slice (some ⟨rb, d, none⟩) len cap] w fun e w' => e = .returned (.bool false) ∧ ∃ m, w' = w.drewN m
  off : fOf ≠ fEq → ∀ (w : World) (rb d len cap : Nat) (z : Nat → Int), len ≤ 4194304 → (∀ r, r < len → w.cell? ⟨rb, d + r, none⟩ = some (.int .i64 (z r))) → (∀ r, -9223372036854775808 ≤ z r ∧ z r < 9223372036854775808) → ¬ ShareZ z len →
    Calls P fOf #[.slice (some ⟨rb, d, none⟩) len cap] w fun e w' => e = .returned (.tuple #[.slice none 0 0, .bool false]) ∧ w' = w

noncomputable section
/-- is the word's block there, with the contents that the word tells? -/
def isOpq (H : Trie) (s : Nat) : Bool := match tget H (oBlk (payOf s)) with | some (.opq j _) => Nat.beq j (oIx (payOf s)) | _ => false
def ownOpq (H : Trie) (s : Nat) : Bool := match tget H (oBlk (payOf s)) with | some (.opq _ ro) => Nat.beq ro 0 | _ => false
def bounded (s : Nat) : Bool := sel (Nat.beq (oHi (payOf s)) 0) false true
def opqW (H : Trie) (s : Nat) (r : SR) : SR := gd (Nat.beq (tagOf s) 11) (gd (isOpq H s) (gd (bounded s) (gd (ltb (oIx (payOf s)) 1000) r)))
def toS (s : Nat) (H : Trie) (n : Nat) : SR := opqW H s (gd (ltb n maxBlk) (.yes (.ok (wO n (oIx (payOf s)) (oLo (payOf s)) (oHi (payOf s))) (hset H n (.opq (oIx (payOf s)) 0)) (Nat.succ n))))
def eqS (s t : Nat) (H : Trie) (n : Nat) : SR := opqW H s (opqW H t (gd (Nat.beq (oIx (payOf s)) (oIx (payOf t))) (.yes (.ok 18 H n))))
/-- the lists from 0 to 7 are no shares -/
def inS (s : Nat) (H : Trie) (n : Nat) : SR := opqW H s (gd (ltb (oIx (payOf s)) 8) (.yes (.ok 2 H n)))
def ofS (s : Nat) (H : Trie) (n : Nat) : SR := opqW H s (gd (ltb (oIx (payOf s)) 8) (.yes (newBox H n 1 2 (listW [sNil, 2]) (mk 6 n))))
def markS (s k : Nat) (H : Trie) (n : Nat) : SR :=
  opqW H s (gd (ownOpq H s)
    (sel (Nat.beq (tagOf k) 1) (gd (ltb (payOf k) 1048576) (.yes (.ok (wG (payOf k) (Nat.add (payOf k) (oHi (payOf s)))) (hset H (oBlk (payOf s)) .gone) n)))
      (gd (Nat.beq (tagOf k) 9) (gd (ltb (gHi (payOf k)) 1099511627776) (.yes (.ok (wG (gLo (payOf k)) (Nat.add (gHi (payOf k)) (oHi (payOf s)))) (hset H (oBlk (payOf s)) .gone) n))))))
def listS (fTo fEq fMark fIn fOf : Nat) : Sums := fun f args H n =>
  sel (Nat.beq f fTo) (match args with | [s] => toS s H n | _ => .no)
    (sel (Nat.beq f fEq) (match args with | [s, t] => eqS s t H n | _ => .no)
      (sel (Nat.beq f fMark) (match args with | [s, k] => markS s k H n | _ => .no)
        (sel (Nat.beq f fIn) (match args with | [s] => inS s H n | _ => .no)
          (sel (Nat.beq f fOf) (match args with | [s] => ofS s H n | _ => .no) .no))))
end

structure ListE [E : Env] (zs : Nat → List Int) : Prop where
  lst : ∀ j, j < 1000 → E.lst j = (zs j).map (Value.int .i64)
  rng : ∀ j, ∀ x ∈ zs j, -9223372036854775808 ≤ x ∧ x < 9223372036854775808
  no : ∀ j, j < 8 → ¬ ShareZ (nth (zs j)) (zs j).length

variable [E : Env]
section
variable {base : Nat} {H : Trie} {n : Nat} {ρ : Rho} {L : Look} {w : World} {zs : Nat → List Int} {P : Program}

theorem ListE.len (hE : ListE zs) (j : Nat) (hj : j < 1000) : (E.lst j).length = (zs j).length := by rw [hE.lst j hj, List.length_map]

/-- What is known of a list whose word is so. -/
theorem opqW_inv (hE : ListE zs) (c : Ctx base H n ρ L w) {s : Nat} {v : Value} {r : SR} {x : OR} (hv : VR ρ L s v) (h : opqW H s r = .yes x) :
    r = .yes x ∧ ∃ b j lo hi rb d sz cap, s = wO b j lo hi ∧ oBlk (payOf s) = b ∧ oIx (payOf s) = j ∧ oLo (payOf s) = lo ∧ oHi (payOf s) = hi ∧ ρ b = some (rb, d, sz) ∧ j < 1000 ∧ lo < 4194304 ∧ hi < 4194304 ∧ 0 < hi ∧
      lo ≤ (zs j).length ∧ (zs j).length ≤ hi ∧ (zs j).length ≤ cap ∧ cap ≤ sz ∧ cap < 9223372036854775808 ∧ v = .slice (some ⟨rb, d, none⟩) (zs j).length cap ∧ b < 16384 ∧
      (∃ ro, tget H b = some (.opq j ro)) ∧ ∃ cs ty fz ro, L b = some (.opq j ro) ∧ w.heap[rb]? = some (.cells cs ty fz) ∧ d + sz ≤ cs.size ∧ (ro = 0 → fz = (0, 0)) ∧ (∀ i, i < (zs j).length → cs[d + i]? = some (.int .i64 (nth (zs j) i))) ∧
        ∀ i, i < (zs j).length → w.cell? ⟨rb, d + i, none⟩ = some (.int .i64 (nth (zs j) i)) := by
  unfold opqW at h
  obtain ⟨g1, h⟩ := gd_inv h
  obtain ⟨g2, h⟩ := gd_inv h
  obtain ⟨g3, h⟩ := gd_inv h
  obtain ⟨g4, h⟩ := gd_inv h
  have g4 := (ltb_iff _ _).1 g4
  refine ⟨h, ?_⟩
  have g1 := Nat.eq_of_beq_eq_true g1
  obtain ⟨b, j, lo, hi, rb, d, sz, cap, hb, hj, hlo, hhi, h5, h6, h7, h8, h9, rfl, rfl⟩ := hv.opq_inv g1
  obtain ⟨p1, p2, p3, p4⟩ := o_parts b j lo hi hj hlo hhi
  unfold isOpq at g2
  rw [p3, p4] at g2
  rw [p3] at g4
  unfold bounded at g3
  rw [p1, sel_beq] at g3
  have hhi0 : hi ≠ 0 := by intro h0; rw [if_pos h0] at g3; cases g3
  have hl := hE.len j g4
  rw [hl] at h5 h6 h7 ⊢
  split at g2
  · rename_i j' ro hg
    have := Nat.eq_of_beq_eq_true g2
    subst this
    have hL := c.agree.2 _ _ hg
    have hlive : live L b := by
      unfold live
      by_cases h0 : ro = 0
      · subst h0; right; left; simp [grp, hL, info]
      · left; simp [grp, hL, h0]
    obtain ⟨k, hk, hbr⟩ := c.sim.blk b _ hb
    rw [hL] at hk; injection hk with hk; subst hk
    obtain ⟨cs, ty, fz, q1, q2, q3, q4, q5⟩ := hbr hlive
    have q6 : ∀ i, i < (zs j').length → cs[d + i]? = some (.int .i64 (nth (zs j') i)) := fun i hi => by
      have := q5 i (by rw [hl]; exact hi)
      rw [this, hE.lst _ g4, List.getElem?_map, List.getElem?_eq_getElem hi]
      simp [nth, List.getD_eq_getElem?_getD, hi]
    exact ⟨b, j', lo, hi, rb, d, sz, cap, rfl, p4, p3, p2, p1, hb, g4, hlo, hhi, by omega, h5, by omega, h7, h8, h9, rfl, c.agree.lt hg, ⟨ro, hg⟩, cs, ty, fz, ro, hL, q1, q2, q4, q6, fun i hi => by rw [cell_of_heap q1]; exact q6 i hi⟩
  · cases g2
end

theorem nth_range {zs : Nat → List Int} (hE : ListE zs) (j : Nat) (r : Nat) : -9223372036854775808 ≤ nth (zs j) r ∧ nth (zs j) r < 9223372036854775808 := by
  unfold nth
  by_cases h : r < (zs j).length
  · have : (zs j).getD r 0 ∈ zs j := by rw [List.getD_eq_getElem?_getD, List.getElem?_eq_getElem h]; exact List.getElem_mem h
    exact hE.rng j _ this
  · rw [List.getD_eq_getElem?_getD, List.getElem?_eq_none (by omega)]; simp

theorem listS_sound {P : Program} {fTo fEq fMark fIn fOf tInt : Nat} {zs : Nat → List Int} (K : ListK P fTo fEq fMark fIn fOf tInt) (hE : ListE zs) : SumS P (listS fTo fEq fMark fIn fOf) := by
  intro base H n ρ L w f args vs v H' n' cs c ha h
  unfold listS at h
  rw [sel_beq, sel_beq, sel_beq, sel_beq, sel_beq] at h
  generalize hvs : vs.toList = l at ha
  split at h
  · -- a copy
    rename_i hf
    subst hf
    split at h
    · rename_i s
      rcases ha with _ | ⟨_, v1, _, vs1, hr1, ha1⟩
      cases ha1
      have hvv : vs = #[v1] := by cases vs; simp_all
      subst hvv
      unfold toS at h
      obtain ⟨h, b, j, lo, hi, rb, d, sz, cap, hs, p1, p2, p3, p4, hb, hj, hlo, hhi, hh0, hl1, hl2, hl3, hcs, hcap, rfl, hb16, hget, cs0, ty, fz, ro, hL, hheap, hds, hfz, hcells, hrow⟩ := opqW_inv hE c hr1 h
      obtain ⟨g1, h⟩ := gd_inv h
      have hn := (ltb_iff _ _).1 g1
      rw [p2, p3, p4] at h
      injection h with h
      injection h with e1 e2 e3
      subst e1; subst e2; subst e3
      obtain ⟨e, W, ⟨he, cs1, hW, hsz, hc1, ho, ht, hou⟩, hcall⟩ := calls_at (K.to w rb d (zs j).length cap (nth (zs j)) (by omega) hrow) cs
      subst he
      have hk : OwnK n (.opq j 0) := rfl
      have hlen := hE.len j hj
      have hbr : BR (updR ρ n (w.heap.size, 0, (zs j).length)) (upd L n (.opq j 0)) W (w.heap.size, 0, (zs j).length) (.opq j 0) :=
        ⟨cs1, tInt, (0, 0), by rw [hW]; simp, by simp [hsz], by rw [hlen]; exact Nat.le_refl _, fun _ => rfl, fun i hi => by
          rw [hlen] at hi
          rw [Nat.zero_add, hc1 i hi, hE.lst _ hj, List.getElem?_map, List.getElem?_eq_getElem hi]
          simp [nth, List.getD_eq_getElem?_getD, hi]⟩
      have hbase := c.sim.bs
      refine ⟨_, _, W, _, ⟨c.sim.fresh c.fresh hW hk hbr, c.agree.hset hn _, c.fresh.upd _ _⟩, .fresh c.fresh _ _, ⟨ho, ht, hou, by rw [hW]; simp, fun i hi => by rw [hW, Array.getElem?_push, if_neg (by omega)]⟩, .fresh _ _, Nat.le_succ _, ?_, K.kTo, hcall⟩
      have := VR.opq (ρ := updR ρ n (w.heap.size, 0, (zs j).length)) (L := upd L n (.opq j 0)) n j lo hi w.heap.size 0 (zs j).length (zs j).length (updR_same _ _ _) (by omega) hlo hhi (by rw [hlen]; exact hl1) (.inr (by rw [hlen]; exact hl2)) (by rw [hlen]; exact Nat.le_refl _) (Nat.le_refl _) (by omega)
      rw [hlen] at this
      exact this
    · cases h
  · split at h
    · -- two lists held against each other
      rename_i hf
      subst hf
      split at h
      · rename_i s t
        rcases ha with _ | ⟨_, v1, _, vs1, hr1, ha1⟩
        rcases ha1 with _ | ⟨_, v2, _, vs2, hr2, ha2⟩
        cases ha2
        have hvv : vs = #[v1, v2] := by cases vs; simp_all
        subst hvv
        unfold eqS at h
        obtain ⟨h, b, j, lo, hi, rb, d, sz, cap, hs, p1, p2, p3, p4, hb, hj, hlo, hhi, hh0, hl1, hl2, hl3, hcs, hcap, rfl, hb16, hget, cs0, ty, fz, ro, hL, hheap, hds, hfz, hcells, hrow⟩ := opqW_inv hE c hr1 h
        obtain ⟨h, b2, j2, lo2, hi2, rb2, d2, sz2, cap2, hs2, q1, q2, q3, q4, hb2, hj2, hlo2, hhi2, hh02, hl12, hl22, hl32, hcs2, hcap2, rfl, hb162, hget2, cs02, ty2, fz2, ro2, hL2, hheap2, hds2, hfz2, hcells2, hrow2⟩ := opqW_inv hE c hr2 h
        obtain ⟨g1, h⟩ := gd_inv h
        have g1 := Nat.eq_of_beq_eq_true g1
        rw [p2, q2] at g1
        subst g1
        injection h with h
        injection h with e1 e2 e3
        subst e1; subst e2; subst e3
        obtain ⟨e, W, ⟨he, m, hW⟩, hcall⟩ := calls_at (K.eq w rb d rb2 d2 (zs j).length cap cap2 (nth (zs j)) (by omega) hrow hrow2) cs
        subst he; subst hW
        exact ⟨ρ, L, _, _, c.drewN m, .refl _ _, ⟨rfl, rfl, rfl, Nat.le_refl _, fun _ _ => rfl⟩, .refl _ _ _ _, Nat.le_refl _, VR.bool true, K.kEq, hcall⟩
      · cases h
    · split at h
      · -- a list is written over
        rename_i hne hf
        subst hf
        split at h
        · rename_i s k
          rcases ha with _ | ⟨_, v1, _, vs1, hr1, ha1⟩
          rcases ha1 with _ | ⟨_, v2, _, vs2, hr2, ha2⟩
          cases ha2
          have hvv : vs = #[v1, v2] := by cases vs; simp_all
          subst hvv
          unfold markS at h
          obtain ⟨h, b, j, lo, hi, rb, d, sz, cap, hs, p1, p2, p3, p4, hb, hj, hlo, hhi, hh0, hl1, hl2, hl3, hcs, hcap, rfl, hb16, hget, cs0, ty, fz, ro, hL, hheap, hds, hfz, hcells, hrow⟩ := opqW_inv hE c hr1 h
          obtain ⟨g1, h⟩ := gd_inv h
          unfold ownOpq at g1
          rw [p1] at g1 h
          rw [p4] at h
          obtain ⟨ro', hget'⟩ := hget
          rw [hget'] at g1
          have g1 : ro' = 0 := Nat.eq_of_beq_eq_true g1
          subst g1
          have hLr := c.agree.2 _ _ hget'
          rw [hL] at hLr; injection hLr with hLr; injection hLr with _ hLr
          subst hLr
          obtain rfl := hfz rfl
          have hgr : grp L b = b + 1 := by simp [grp, hL]
          have hbase : base ≤ rb := c.sim.rw b _ hb (by rw [hgr]; omega)
          have ne : ∀ i (k : Blk), L i = some k → (∀ j ro, k ≠ .opq j ro) → i ≠ b := fun i k hi hk hib => by
            subst hib; rw [hL] at hi; injection hi with hi; exact hk _ _ hi.symm
          have ext : Ext ρ L ρ (upd L b .gone) := by
            refine ⟨⟨fun _ _ h => h, fun i kd m c hi => ?_, fun i p q s d lo hi2 hi => ?_, fun i hi => ?_⟩, fun i hi => ?_⟩
            · rw [upd_ne _ _ (ne i _ hi (by intros; simp))]; exact hi
            · rw [upd_ne _ _ (ne i _ hi (by intros; simp))]; exact hi
            · rcases hi with hi | hi
              · left; rw [upd_ne _ _ (ne i _ hi (by intros; simp))]; exact hi
              · right; rw [upd_ne _ _ (ne i _ hi (by intros; simp))]; exact hi
            · rw [upd_ne _ _ (ne i _ hi (by intros; simp))]; exact hi
          have main : ∀ (k0 : Nat) (wk : Nat), k0 ≤ 1099511627776 → v2 = .int .i64 (k0 : Int) → VR ρ (upd L b .gone) wk (.int .i64 ((k0 + (zs j).length : Nat) : Int)) → OR.ok wk (hset H b .gone) n = OR.ok v H' n' →
              After base H n ρ L w v H' n' (fun x w' => Known P f ∧ CallsAt P f #[.slice (some ⟨rb, d, none⟩) (zs j).length cap, v2] w cs (fun e W => e = .returned x ∧ W = w')) := by
            intro k0 wk hk0 hv2 hwk heq
            injection heq with e1 e2 e3
            subst e1; subst e2; subst e3; subst hv2
            obtain ⟨e, W, ⟨he, hsz, hoth, ho, ht, hou⟩, hcall⟩ := calls_at (K.mark hne w rb d (zs j).length cap k0 hk0 (by omega) (fun r hr => ⟨_, hrow r hr⟩) (fun r hr => by simp [World.frozen?, hheap])) cs
            subst he
            have s1 := c.sim.swap (w' := W) hb hL (h0 := (rfl : (0 : Nat) = 0)) (k' := .gone) (h1 := trivial) ext.toExt0 (fun x hx => hoth x hx) hsz trivial
            refine ⟨ρ, _, W, _, ⟨s1, c.agree.hset hb16 _, fun i hi => ⟨by rw [upd_ne _ _ (by have := c.fresh.ltL hL; omega)]; exact (c.fresh i hi).1, (c.fresh i hi).2⟩⟩, ext, ⟨ho, ht, hou, by omega, fun i hi => hoth i (by omega)⟩,
              ⟨fun i hi hin => ⟨upd_ne _ _ (fun hh => by subst hh; rw [hb] at hin; cases hin), hin⟩⟩, Nat.le_refl _, hwk, K.kMark hne, hcall⟩
          rw [sel_beq] at h
          split at h
          · rename_i hk1
            obtain ⟨g2, h⟩ := gd_inv h
            have g2 := (ltb_iff _ _).1 g2
            obtain ⟨q, hq, _, hqp, hv2⟩ := hr2.int_inv hk1
            rw [hqp] at g2 h
            rw [sInt_small (by omega)] at hv2
            injection h with h
            have e2 : Nat.add q hi = q + hi := rfl
            exact main q _ (by omega) hv2 (.btw q _ _ (by rw [e2]; omega) (by omega) (by rw [e2]; omega)) h
          · obtain ⟨g1, h⟩ := gd_inv h
            obtain ⟨g2, h⟩ := gd_inv h
            have g1 := Nat.eq_of_beq_eq_true g1
            have g2 := (ltb_iff _ _).1 g2
            obtain ⟨tt, u, z, k1, k2, k3, _, k5, k6, hv2⟩ := hr2.btw_inv g1
            rw [k6] at g2
            rw [k5, k6] at h
            injection h with h
            have e2 : Nat.add u hi = u + hi := rfl
            obtain ⟨q, rfl⟩ : ∃ q : Nat, z = (q : Int) := ⟨z.toNat, by omega⟩
            exact main q _ (by omega) hv2 (.btw tt _ _ (by rw [e2]; omega) (by omega) (by rw [e2]; omega)) h
        · cases h
      · split at h
        · -- is it a share, by the model
          rename_i hneq hm hf
          subst hf
          split at h
          · rename_i s
            rcases ha with _ | ⟨_, v1, _, vs1, hr1, ha1⟩
            cases ha1
            have hvv : vs = #[v1] := by cases vs; simp_all
            subst hvv
            unfold inS at h
            obtain ⟨h, b, j, lo, hi, rb, d, sz, cap, hs, p1, p2, p3, p4, hb, hj, hlo, hhi, hh0, hl1, hl2, hl3, hcs, hcap, rfl, hb16, hget, cs0, ty, fz, ro, hL, hheap, hds, hfz, hcells, hrow⟩ := opqW_inv hE c hr1 h
            obtain ⟨g1, h⟩ := gd_inv h
            rw [p2] at g1
            have g1 := (ltb_iff _ _).1 g1
            injection h with h
            injection h with e1 e2 e3
            subst e1; subst e2; subst e3
            obtain ⟨e, W, ⟨he, m, hW⟩, hcall⟩ := calls_at (K.inn hneq w rb d (zs j).length cap (nth (zs j)) (by omega) hrow (hE.no j g1)) cs
            subst he; subst hW
            exact ⟨ρ, L, _, _, c.drewN m, .refl _ _, ⟨rfl, rfl, rfl, Nat.le_refl _, fun _ _ => rfl⟩, .refl _ _ _ _, Nat.le_refl _, VR.bool false, K.kIn hneq, hcall⟩
          · cases h
        · split at h
          · -- is it a share, by the program
            rename_i hneq hm hi hf
            subst hf
            split at h
            · rename_i s
              rcases ha with _ | ⟨_, v1, _, vs1, hr1, ha1⟩
              cases ha1
              have hvv : vs = #[v1] := by cases vs; simp_all
              subst hvv
              unfold ofS at h
              obtain ⟨h, b, j, lo, hi, rb, d, sz, cap, hs, p1, p2, p3, p4, hb, hj, hlo, hhi, hh0, hl1, hl2, hl3, hcs, hcap, rfl, hb16, hget, cs0, ty, fz, ro, hL, hheap, hds, hfz, hcells, hrow⟩ := opqW_inv hE c hr1 h
              obtain ⟨g1, h⟩ := gd_inv h
              rw [p2] at g1
              have g1 := (ltb_iff _ _).1 g1
              injection h with h
              unfold newBox at h
              rw [sel_ltb] at h
              split at h
              · rename_i hn
                injection h with e1 e2 e3
                subst e1; subst e2; subst e3
                obtain ⟨e, W, ⟨he, hW⟩, hcall⟩ := calls_at (K.off hneq w rb d (zs j).length cap (nth (zs j)) (by omega) hrow (nth_range hE j) (hE.no j g1)) cs
                subst he; subst hW
                refine ⟨ρ, _, _, _, ⟨c.sim.box c.fresh _ _ _, c.agree.hset hn _, c.fresh.updL _⟩, .freshL c.fresh _, Below.refl _ _, .freshL _, Nat.le_succ _, ?_, K.kOf hneq, hcall⟩
                refine .tup n 2 _ _ (upd_same _ _ _) rfl fun i hi => ?_
                match i, hi with
                | 0, _ => rw [getW_listW _ (by decide)]; exact .sliceNil
                | 1, _ => rw [getW_listW _ (by decide)]; exact VR.bool false
              · cases h
            · cases h
          · cases h
end Go.Eng

/- Laws on one list: the shares one by one, the other lists together. -/
namespace Go.Eng
set_option linter.unusedSectionVars false
set_option linter.unusedSimpArgs false
set_option linter.unusedVariables false
open Go Go.RowKit

/-! ### all shares -/
def genS : Nat → Nat → Nat → List (List Nat)
  | 0, _, _ => [[]]
  | k + 1, left, prev => [] :: (List.range (min left prev)).flatMap fun x => (genS k (left - (x + 1)) (x + 1)).map (List.cons (x + 1))
def IsS : Nat → Nat → List Int → Prop
  | _, _, [] => True
  | left, prev, x :: l => 1 ≤ x ∧ x ≤ (left : Int) ∧ x ≤ (prev : Int) ∧ IsS (left - x.toNat) x.toNat l
theorem genS_mem : ∀ (k left prev : Nat) (l : List Int), left ≤ k → IsS left prev l → ∃ m ∈ genS k left prev, l = m.map (fun x : Nat => (x : Int))
  | 0, left, prev, [], _, _ => ⟨[], by simp [genS], rfl⟩
  | 0, left, prev, x :: l, hk, h => by obtain ⟨h1, h2, _⟩ := h; omega
  | k + 1, left, prev, [], _, _ => ⟨[], by simp [genS], rfl⟩
  | k + 1, left, prev, x :: l, hk, h => by
    obtain ⟨h1, h2, h3, h4⟩ := h
    obtain ⟨m, hm, rfl⟩ := genS_mem k (left - x.toNat) x.toNat l (by omega) h4
    have hx : x.toNat - 1 + 1 = x.toNat := by omega
    refine ⟨x.toNat :: m, ?_, by simp; omega⟩
    simp only [genS, List.mem_cons, List.mem_flatMap, List.mem_range, List.mem_map]
    right
    exact ⟨x.toNat - 1, by omega, m, by rw [hx]; exact hm, by rw [hx]⟩

theorem isS_of (l : List Int) : ∀ (k : Nat) (left prev : Nat), k ≤ l.length → (left : Int) = lft (nth l) k → (k = 0 → prev = 6) → (0 < k → (prev : Int) = nth l (k - 1)) → ShareZ (nth l) l.length → IsS left prev (l.drop k) := by
  intro k
  induction hn : l.length - k generalizing k with
  | zero =>
    intro left prev hk h1 h2 h3 hS
    rw [List.drop_of_length_le (by omega)]
    exact trivial
  | succ n ih =>
    intro left prev hk h1 h2 h3 hS
    have hlt : k < l.length := by omega
    rw [List.drop_eq_getElem_cons hlt]
    have hx : nth l k = l[k] := by simp [nth, List.getD_eq_getElem?_getD, hlt]
    obtain ⟨a, b, cc⟩ := hS k hlt
    rw [hx] at a b cc
    have hl6 : lft (nth l) k ≤ 6 := by
      have : ∀ j, j ≤ k → lft (nth l) j ≤ 6 := by
        intro j
        induction j with
        | zero => intro _; exact Int.le_refl _
        | succ j ihj =>
          intro hj
          have := ihj (by omega)
          have := (hS j (by omega)).1
          simp only [lft]; omega
      exact this k (Nat.le_refl _)
    have hp : l[k] ≤ (prev : Int) := by
      by_cases h0 : k = 0
      · rw [h2 h0]; omega
      · rw [h3 (by omega)]; exact cc (by omega)
    have hln : (l[k].toNat : Int) = l[k] := by omega
    refine ⟨a, by omega, hp, ?_⟩
    refine ih (k + 1) (by omega) _ _ (by omega) ?_ (by omega) ?_ hS
    · simp only [lft]; rw [hx]; omega
    · intro _
      rw [Nat.add_sub_cancel, hx, hln]

noncomputable def shares : List (List Nat) := genS 6 6 6
theorem shares_eq : shares = [[], [1], [1, 1], [1, 1, 1], [1, 1, 1, 1], [1, 1, 1, 1, 1], [1, 1, 1, 1, 1, 1], [2], [2, 1], [2, 1, 1], [2, 1, 1, 1], [2, 1, 1, 1, 1], [2, 2], [2, 2, 1], [2, 2, 1, 1], [2, 2, 2], [3], [3, 1], [3, 1, 1], [3, 1, 1, 1], [3, 2], [3, 2, 1],
    [3, 3], [4], [4, 1], [4, 1, 1], [4, 2], [5], [5, 1], [6]] := by decide
theorem share_mem {l : List Int} (h : ShareZ (nth l) l.length) : ∃ m ∈ shares, l = m.map (fun x : Nat => (x : Int)) := by
  have := isS_of l 0 6 6 (Nat.zero_le _) rfl (fun _ => rfl) (fun h => by omega) h
  rw [List.drop_zero] at this
  exact genS_mem 6 6 6 l (Nat.le_refl _) this

/-- something of each of a list -/
def AllL {α : Type} (p : α → Prop) (l : List α) : Prop := List.rec (motive := fun _ => Prop) True (fun x _ ih => p x ∧ ih) l
theorem AllL.mem {α : Type} {p : α → Prop} : ∀ {l : List α}, AllL p l → ∀ x ∈ l, p x
  | _ :: _, h, x, hx => by
    rcases List.mem_cons.1 hx with rfl | hx
    · exact h.1
    · exact AllL.mem h.2 x hx

noncomputable section
structure Fns where
  to : Nat
  eq : Nat
  mark : Nat
  inn : Nat
  of : Nat
def Fns.S (F : Fns) : Sums := listS F.to F.eq F.mark F.inn F.of
def lrun (P : Program) (S0 : Sums) (F : Fns) (fuel d f : Nat) (args : List Nat) (H : Trie) (n : Nat) : OR := funE P (callN P (orS F.S S0) fuel d) fuel f args H n
/-- a law on one list: a list that is known, one that is no share, one that is too long, nil, no room -/
def oneRow (P : Program) (S0 : Sums) (F : Fns) (fuel d f : Nat) (l : List Nat) : OR := lrun P S0 F fuel d f [wS 0 1 0 l.length 0] (hset .nil 0 (.cells l.length (listW (l.map wI)) 0 0 0 0)) 1
def oneNo (P : Program) (S0 : Sums) (F : Fns) (fuel d f : Nat) : OR := lrun P S0 F fuel d f [wO 0 0 1 1048576] (hset .nil 0 (.opq 0 1)) 1
def oneLong (P : Program) (S0 : Sums) (F : Fns) (fuel d f : Nat) : OR := lrun P S0 F fuel d f [wO 0 0 1048577 0] (hset .nil 0 (.opq 0 1)) 1
def oneNil (P : Program) (S0 : Sums) (F : Fns) (fuel d f : Nat) : OR := lrun P S0 F fuel d f [sNil] .nil 0
def oneZero (P : Program) (S0 : Sums) (F : Fns) (fuel d f : Nat) : OR := lrun P S0 F fuel d f [14] .nil 0
end

/-- Lists told: what is not known. (The lists below 8 are no shares.) -/
noncomputable def listL (zs : Nat → List Int) (j : Nat) : List Value := if j = 1000 then [] else if j = 1001 then [.int .i64 0] else (zs j).map (Value.int .i64)
theorem listL_len {zs : Nat → List Int} (hz : ∀ j, (zs j).length < 9223372036854775808) (j : Nat) : (listL zs j).length < 9223372036854775808 := by
  unfold listL
  split
  · decide
  · split
    · simp
    · rw [List.length_map]; exact hz j
theorem listL_lst (zs : Nat → List Int) (j : Nat) (hj : j < 1000) : listL zs j = (zs j).map (Value.int .i64) := by
  unfold listL
  rw [if_neg (by omega), if_neg (by omega)]
/-- Lists and ints told. -/
@[reducible] noncomputable def argEnvT (zs : Nat → List Int) (hz : ∀ j, (zs j).length < 9223372036854775808) (ns : Nat → Int) (hn : ∀ j, -9223372036854775808 ≤ ns j ∧ ns j < 9223372036854775808) (tx : Nat → ByteArray) (htx : ∀ j, j < 1000 → inT knownT (strW (tx j)) = false) : Env where
  lst := listL zs
  int := fun j => if 1099511627776 ≤ j ∧ j < 1099511627776 + 1048576 then ((listL zs (j - 1099511627776)).length : Int) else ns j
  wf := fun j => by
    split
    · have := listL_len hz (j - 1099511627776); omega
    · exact hn j
  len := fun j hj => by
    have : lenIx j = 1099511627776 + j := rfl
    rw [this, if_pos (by omega), show 1099511627776 + j - 1099511627776 = j from by omega]
  byThree := by simp [listL]
  notThree := by simp [listL]
  txt := tx
  txtNe := htx
@[reducible] noncomputable def argEnv (zs : Nat → List Int) (hz : ∀ j, (zs j).length < 9223372036854775808) (ns : Nat → Int) (hn : ∀ j, -9223372036854775808 ≤ ns j ∧ ns j < 9223372036854775808) : Env := argEnvT zs hz ns hn (fun _ => ⟨#[0]⟩) (fun _ _ => txt0_ok)
@[reducible] noncomputable def listEnv (zs : Nat → List Int) (hz : ∀ j, (zs j).length < 9223372036854775808) : Env := argEnv zs hz (fun _ => 0) (fun _ => by omega)

theorem ten_no : ¬ ShareZ (nth [7]) 1 := fun h => by
  have := (h 0 (by omega)).2.1
  simp [nth, lft] at this

theorem listEnv_ok {zs : Nat → List Int} (hz : ∀ j, (zs j).length < 9223372036854775808) (hr : ∀ j, ∀ x ∈ zs j, -9223372036854775808 ≤ x ∧ x < 9223372036854775808) (hno : ∀ j, j < 8 → ¬ ShareZ (nth (zs j)) (zs j).length) : @ListE (listEnv zs hz) zs :=
  letI : Env := listEnv zs hz
  { lst := fun j hj => listL_lst zs j hj, rng := hr, no := hno }

@[reducible] noncomputable def sevenEnv : Env := listEnv (fun _ => [7]) (fun _ => by decide)
theorem seven_ok : @ListE sevenEnv (fun _ => [7]) := listEnv_ok (fun _ => by decide) (fun _ x hx => by simp at hx; omega) fun _ _ => ten_no

def IntRow (w : World) (a : Option Addr) (len cap : Nat) (zs : List Int) : Prop :=
  (a = none ∧ len = 0 ∧ cap = 0 ∧ zs = []) ∨
  ∃ x, a = some x ∧ len ≤ cap ∧ cap ≤ maxLen ∧ zs.length = cap ∧ (∀ i, i < zs.length → w.cell? (x.add i) = some (.int .i64 (zs.getD i 0))) ∧ ∀ n ∈ zs, (Lit.int .i64 n).wf = true

theorem wf_i64 {n : Int} (h : (Lit.int .i64 n).wf = true) : -9223372036854775808 ≤ n ∧ n < 9223372036854775808 := by
  have hmin : IntKind.i64.min = -9223372036854775808 := rfl
  have hmax : IntKind.i64.max = 9223372036854775807 := rfl
  simp only [Lit.wf, Bool.and_eq_true, decide_eq_true_eq] at h
  rw [hmin, hmax] at h
  omega

theorem uInt_nat' (m : Nat) (h : m < 9223372036854775808) : uInt (m : Int) = m := by unfold uInt; omega

/-- ██ The walk of a law on one list of ints, out of its runs. -/
theorem one_walk {P : Program} {S0 : Sums} (hS0 : Always P S0) {F : Fns} {tInt fuel d f len cap : Nat} (K : ListK P F.to F.eq F.mark F.inn F.of tInt) {w : World} {a : Option Addr} {zs : List Int} (w0 : IntRow w a len cap zs)
    (hn : isTrue (oneNil P S0 F fuel d f) = true) (hz : isTrue (oneZero P S0 F fuel d f) = true) (h1 : isTrue (oneNo P S0 F fuel d f) = true) (h2 : isTrue (oneLong P S0 F fuel d f) = true)
    (hs : AllL (fun l => isTrue (oneRow P S0 F fuel d f l) = true) shares) :
    Calls P f #[.slice a len cap] w fun e w' => e = .returned (.bool true) ∧ Below w.heap.size w w' := by
  rcases w0 with ⟨rfl, rfl, rfl, rfl⟩ | ⟨x, rfl, hl, hm, hzl, hcell, hwz⟩
  · exact letI : Env := sevenEnv
      run_true (orS_sound (listS_sound K seven_ok) (hS0 _)) (Ctx.start w) (.cons _ _ _ _ .sliceNil .nil) hn
  by_cases hc : cap = 0
  · subst hc
    obtain rfl : len = 0 := by omega
    exact letI : Env := sevenEnv
      run_true (orS_sound (listS_sound K seven_ok) (hS0 _)) (Ctx.start w) (.cons _ _ _ _ (.sl0 x) .nil) hz
  unfold maxLen at hm
  have hrow : RowOf .i64 w x cap zs := ⟨hzl, hcell⟩
  obtain ⟨hsp, cs, ty, fz, hh, hsz, hall⟩ := hrow.block (by omega)
  have hx : x = ⟨x.block, x.off, none⟩ := by
    cases x with
    | mk b o s => simp at hsp ⊢; exact hsp
  have hrb : x.block < w.heap.size := (Array.getElem?_eq_some_iff.1 hh).1
  have hcl : (zs.take len).length = len := by simp; omega
  by_cases hS : ShareZ (nth (zs.take len)) (zs.take len).length
  · letI : Env := sevenEnv
    obtain ⟨m, hmem, hm2⟩ := share_mem hS
    have hrun := hs.mem m hmem
    have hml : m.length = len := by rw [← hcl, hm2, List.length_map]
    have hlen : len < 1048576 := by
      rw [shares_eq] at hmem
      rw [← hml]
      simp only [List.mem_cons, List.not_mem_nil, or_false] at hmem
      rcases hmem with h | h | h | h | h | h | h | h | h | h | h | h | h | h | h | h | h | h | h | h | h | h | h | h | h | h | h | h | h | h <;> rw [h] <;> decide
    have hsm : ∀ y ∈ m, y < 9223372036854775808 := by
      intro y hy
      have : (y : Int) ∈ zs.take len := by rw [hm2]; exact List.mem_map.2 ⟨y, hy, rfl⟩
      have := wf_i64 (hwz _ (List.mem_of_mem_take this))
      omega
    obtain ⟨ρ', L', c, _, hv⟩ := (Ctx.start w).row rfl (by omega) (show RowAt w x cap zs from hrow) (by omega) (fun z hz => wf_i64 (hwz z hz)) hl (by omega) hlen
    have hwords : wordsOf (zs.take len) = m.map wI := by
      rw [hm2]
      unfold wordsOf
      rw [List.map_map]
      exact List.map_congr_left fun y hy => by simp [uInt_nat' y (hsm y hy)]
    rw [hwords] at c
    unfold oneRow lrun at hrun
    rw [hml] at hrun
    exact run_true (orS_sound (listS_sound K seven_ok) (hS0 _)) c (.cons _ _ _ _ hv .nil) hrun
  · have hlz : ∀ j : Nat, ((fun _ : Nat => zs.take len) j).length < 9223372036854775808 := fun _ => by show (zs.take len).length < _; omega
    letI E : Env := listEnv (fun _ => zs.take len) hlz
    have hE : ListE (fun _ => zs.take len) := listEnv_ok hlz (fun _ y hy => wf_i64 (hwz y (List.mem_of_mem_take hy))) fun _ _ => hS
    have hE0 := hE.lst 0 (by omega)
    have he : (E.lst 0).length = len := by rw [hE0, List.length_map, hcl]
    have hl0 : len ≠ 0 := by
      intro h0
      apply hS
      intro k hk
      omega
    have c := (Ctx.start w).opq (j := 0) (sz := cap) (d := x.off) (by omega) hh hrb hsz (by omega) (fun i hi => by
      rw [hall i (by omega), hE0, List.getElem?_map]
      have hi2 : i < (zs.take len).length := by omega
      rw [List.getElem?_eq_getElem hi2]
      have hi3 : i < zs.length := by omega
      simp [List.getD_eq_getElem?_getD, hi3])
    have word : ∀ lo hi : Nat, lo < 4194304 → hi < 4194304 → lo ≤ len → (hi = 0 ∨ len ≤ hi) → VR (updR (fun _ => none) 0 (x.block, x.off, cap)) (upd (fun _ => none) 0 (.opq 0 1)) (wO 0 0 lo hi) (.slice (some x) len cap) := by
      intro lo hi q1 q2 q3 q4
      have := VR.opq (ρ := updR (fun _ => none) 0 (x.block, x.off, cap)) (L := upd (fun _ => none) 0 (.opq 0 1)) 0 0 lo hi x.block x.off cap cap (updR_same _ _ _) (by omega) q1 q2 (by rw [he]; exact q3) (by rw [he]; exact q4) (by rw [he]; exact hl) (by omega) (by omega)
      rw [he, ← hx] at this
      exact this
    by_cases hlong : 1048576 < len
    · exact run_true (orS_sound (listS_sound K hE) (hS0 _)) c (.cons _ _ _ _ (word 1048577 0 (by omega) (by omega) (by omega) (.inl rfl)) .nil) h2
    · exact run_true (orS_sound (listS_sound K hE) (hS0 _)) c (.cons _ _ _ _ (word 1 1048576 (by omega) (by omega) (by omega) (.inr (by omega))) .nil) h1
end Go.Eng

/- Laws on several lists: what each list may be, and the walk over all of them. -/
namespace Go.Eng
set_option linter.unusedSectionVars false
set_option linter.unusedSimpArgs false
set_option linter.unusedVariables false
open Go Go.RowKit

/-- What a list that comes in may be: nil, without room, a share, no share, too long. -/
inductive Cls where
  | nil
  | zero
  | row (l : List Nat)
  | no
  | long

noncomputable section
def Cls.word (c : Cls) (n j : Nat) : Nat := Cls.rec (motive := fun _ => Nat) sNil 14 (fun l => wS n 1 0 l.length 0) (wO n j 1 1048576) (wO n j 1048577 0) c
def Cls.heap (c : Cls) (n j : Nat) (H : Trie) : Trie := Cls.rec (motive := fun _ => Trie) H H (fun l => hset H n (.cells l.length (listW (l.map wI)) 0 0 0 0)) (hset H n (.opq j 1)) (hset H n (.opq j 1)) c
def Cls.next (c : Cls) (n : Nat) : Nat := Cls.rec (motive := fun _ => Nat) n n (fun _ => Nat.succ n) (Nat.succ n) (Nat.succ n) c
def Cls.Fits (c : Cls) (a : Option Addr) (len cap : Nat) (zs : List Int) : Prop :=
  Cls.rec (motive := fun _ => Prop) (a = none ∧ len = 0 ∧ cap = 0) (a ≠ none ∧ len = 0 ∧ cap = 0) (fun l => a ≠ none ∧ 0 < cap ∧ len < 1048576 ∧ l.length = len ∧ zs.take len = l.map (fun x : Nat => (x : Int)))
    (a ≠ none ∧ 0 < cap ∧ 1 ≤ len ∧ len ≤ 1048576 ∧ ¬ ShareZ (nth (zs.take len)) (zs.take len).length) (a ≠ none ∧ 0 < cap ∧ 1048577 ≤ len ∧ ¬ ShareZ (nth (zs.take len)) (zs.take len).length) c
/-- the list that the surroundings tell for it -/
def Cls.told (c : Cls) (l : List Int) : List Int := Cls.rec (motive := fun _ => List Int) [7] [7] (fun _ => [7]) l l c
def classes : List Cls := .nil :: .zero :: .no :: .long :: shares.map .row
end

theorem Cls.of_row {w : World} {a : Option Addr} {len cap : Nat} {zs : List Int} (h : IntRow w a len cap zs) : ∃ c ∈ classes, c.Fits a len cap zs := by
  rcases h with ⟨rfl, rfl, rfl, rfl⟩ | ⟨x, rfl, hl, hm, hzl, hcell, hwz⟩
  · exact ⟨.nil, by simp [classes], rfl, rfl, rfl⟩
  by_cases hc : cap = 0
  · exact ⟨.zero, by simp [classes], by simp, by omega, hc⟩
  have hcl : (zs.take len).length = len := by simp; omega
  by_cases hS : ShareZ (nth (zs.take len)) (zs.take len).length
  · obtain ⟨m, hmem, hm2⟩ := share_mem hS
    have hml : m.length = len := by rw [← hcl, hm2, List.length_map]
    have hlen : len < 1048576 := by
      rw [shares_eq] at hmem
      rw [← hml]
      simp only [List.mem_cons, List.not_mem_nil, or_false] at hmem
      rcases hmem with h | h | h | h | h | h | h | h | h | h | h | h | h | h | h | h | h | h | h | h | h | h | h | h | h | h | h | h | h | h <;> rw [h] <;> decide
    exact ⟨.row m, by simp only [classes, List.mem_cons, List.mem_map]; exact .inr (.inr (.inr (.inr ⟨m, hmem, rfl⟩))), by simp, by omega, hlen, hml, hm2⟩
  · have hl0 : len ≠ 0 := by
      intro h0
      apply hS
      intro k hk
      omega
    by_cases hlong : 1048576 < len
    · exact ⟨.long, by simp [classes], by simp, by omega, by omega, hS⟩
    · exact ⟨.no, by simp [classes], by simp, by omega, by omega, by omega, hS⟩

/-- The told lists are short enough, of ints, and no shares. -/
theorem Cls.told_ok {c : Cls} {w : World} {a : Option Addr} {len cap : Nat} {zs : List Int} (h : IntRow w a len cap zs) (hf : c.Fits a len cap zs) :
    (c.told (zs.take len)).length < 9223372036854775808 ∧ (∀ x ∈ c.told (zs.take len), -9223372036854775808 ≤ x ∧ x < 9223372036854775808) ∧ ¬ ShareZ (nth (c.told (zs.take len))) (c.told (zs.take len)).length := by
  have seven : ([7] : List Int).length < 9223372036854775808 ∧ (∀ x ∈ ([7] : List Int), -9223372036854775808 ≤ x ∧ x < 9223372036854775808) ∧ ¬ ShareZ (nth [7]) ([7] : List Int).length := ⟨by decide, fun x hx => by simp at hx; omega, ten_no⟩
  have rest : len ≤ cap → cap ≤ maxLen → zs.length = cap → (∀ n ∈ zs, (Lit.int .i64 n).wf = true) → ¬ ShareZ (nth (zs.take len)) (zs.take len).length →
      (zs.take len).length < 9223372036854775808 ∧ (∀ x ∈ zs.take len, -9223372036854775808 ≤ x ∧ x < 9223372036854775808) ∧ ¬ ShareZ (nth (zs.take len)) (zs.take len).length := by
    intro h1 h2 h3 h4 h5
    unfold maxLen at h2
    exact ⟨by simp; omega, fun x hx => wf_i64 (h4 x (List.mem_of_mem_take hx)), h5⟩
  cases c with
  | nil => exact seven
  | zero => exact seven
  | row l => exact seven
  | no =>
    obtain ⟨g1, g2, g3, g4, g5⟩ := hf
    rcases h with ⟨rfl, _⟩ | ⟨x, rfl, hl, hm, hzl, hcell, hwz⟩
    · exact absurd rfl g1
    · exact rest hl hm hzl hwz g5
  | long =>
    obtain ⟨g1, g2, g3, g5⟩ := hf
    rcases h with ⟨rfl, _⟩ | ⟨x, rfl, hl, hm, hzl, hcell, hwz⟩
    · exact absurd rfl g1
    · exact rest hl hm hzl hwz g5

section
variable [E : Env]
/-- One list more that came in. -/
theorem Cls.put {n j len cap : Nat} {H : Trie} {ρ : Rho} {L : Look} {w : World} {a : Option Addr} {zs : List Int} (k : Cls) (c : Ctx w.heap.size H n ρ L w) (hn : n < 16384) (hj : j < 1048576)
    (h : IntRow w a len cap zs) (hf : k.Fits a len cap zs) (he : E.lst j = (k.told (zs.take len)).map (Value.int .i64)) :
    ∃ ρ' L', Ctx w.heap.size (k.heap n j H) (k.next n) ρ' L' w ∧ Ext ρ L ρ' L' ∧ VR ρ' L' (k.word n j) (.slice a len cap) := by
  rcases h with ⟨rfl, rfl, rfl, rfl⟩ | ⟨x, rfl, hl, hm, hzl, hcell, hwz⟩
  · cases k with
    | nil => exact ⟨ρ, L, c, .refl _ _, .sliceNil⟩
    | zero => exact absurd rfl hf.1
    | row l => exact absurd rfl hf.1
    | no => exact absurd rfl hf.1
    | long => exact absurd rfl hf.1
  unfold maxLen at hm
  have hrow : RowOf .i64 w x cap zs := ⟨hzl, hcell⟩
  have opq : 0 < cap → k.told (zs.take len) = zs.take len → ∃ ρ' L', Ctx w.heap.size (hset H n (.opq j 1)) (n + 1) ρ' L' w ∧ Ext ρ L ρ' L' ∧ ∀ lo hi : Nat, lo < 4194304 → hi < 4194304 → lo ≤ len → (hi = 0 ∨ len ≤ hi) → VR ρ' L' (wO n j lo hi) (.slice (some x) len cap) := by
    intro hc0 ht
    rw [ht] at he
    obtain ⟨hsp, cs, ty, fz, hh, hsz, hall⟩ := hrow.block (by omega)
    have hx : x = ⟨x.block, x.off, none⟩ := by
      cases x with
      | mk b o s => simp at hsp ⊢; exact hsp
    have hrb : x.block < w.heap.size := (Array.getElem?_eq_some_iff.1 hh).1
    have hcl : (zs.take len).length = len := by simp; omega
    have hel : (E.lst j).length = len := by rw [he, List.length_map, hcl]
    refine ⟨_, _, c.opq (j := j) (sz := cap) (d := x.off) hn hh hrb hsz (by omega) (fun i hi => by
      rw [hall i (by omega), he, List.getElem?_map]
      have hi2 : i < (zs.take len).length := by omega
      rw [List.getElem?_eq_getElem hi2]
      have hi3 : i < zs.length := by omega
      simp [List.getD_eq_getElem?_getD, hi3]), .fresh c.fresh _ _, ?_⟩
    intro lo hi q1 q2 q3 q4
    have := VR.opq (ρ := updR ρ n (x.block, x.off, cap)) (L := upd L n (.opq j 1)) n j lo hi x.block x.off cap cap (updR_same _ _ _) hj q1 q2 (by rw [hel]; exact q3) (by rw [hel]; exact q4) (by rw [hel]; exact hl) (by omega) (by omega)
    rw [hel, ← hx] at this
    exact this
  cases k with
  | nil => exact absurd hf.1 (by simp)
  | zero =>
    obtain ⟨_, rfl, rfl⟩ := hf
    exact ⟨ρ, L, c, .refl _ _, .sl0 x⟩
  | row m =>
    obtain ⟨_, h0, hlen, hml, hm2⟩ := hf
    have hsm : ∀ y ∈ m, y < 9223372036854775808 := by
      intro y hy
      have : (y : Int) ∈ zs.take len := by rw [hm2]; exact List.mem_map.2 ⟨y, hy, rfl⟩
      have := wf_i64 (hwz _ (List.mem_of_mem_take this))
      omega
    obtain ⟨ρ', L', c', he', hv⟩ := c.row rfl hn (show RowAt w x cap zs from hrow) h0 (fun z hz => wf_i64 (hwz z hz)) hl (by omega) hlen
    have hwords : wordsOf (zs.take len) = m.map wI := by
      rw [hm2]
      unfold wordsOf
      rw [List.map_map]
      exact List.map_congr_left fun y hy => by simp [uInt_nat' y (hsm y hy)]
    rw [hwords, ← hml] at c'
    rw [← hml] at hv
    refine ⟨ρ', L', c', he', ?_⟩
    have := hv
    rw [← hml]
    exact hv
  | no =>
    obtain ⟨_, h0, h1, h2, _⟩ := hf
    obtain ⟨ρ', L', c', he', hv⟩ := opq h0 rfl
    exact ⟨ρ', L', c', he', hv 1 1048576 (by omega) (by omega) h1 (.inr h2)⟩
  | long =>
    obtain ⟨_, h0, h1, _⟩ := hf
    obtain ⟨ρ', L', c', he', hv⟩ := opq h0 rfl
    exact ⟨ρ', L', c', he', hv 1048577 0 (by omega) (by omega) h1 (.inl rfl)⟩
end

noncomputable section
/-- a law on two lists -/
def twoRun (P : Program) (S0 : Sums) (F : Fns) (fuel d f : Nat) (c1 c2 : Cls) : OR :=
  lrun P S0 F fuel d f [c1.word 0 0, c2.word (c1.next 0) 1] (c2.heap (c1.next 0) 1 (c1.heap 0 0 .nil)) (c2.next (c1.next 0))
end

/-- A run with what may be known beforehand. -/
def TwoOk (P : Program) (F : Fns) (f : Nat) (c1 c2 : Cls) : Prop := ∃ (S0 : Sums) (fuel d : Nat), Always P S0 ∧ isTrue (twoRun P S0 F fuel d f c1 c2) = true

/-- ██ The walk of a law on two lists of ints, out of its runs. -/
theorem two_walk2 {P : Program} {F : Fns} {tInt f : Nat} (K : ListK P F.to F.eq F.mark F.inn F.of tInt) {w : World}
    {len1 cap1 : Nat} {a1 : Option Addr} {zs1 : List Int} (w1 : IntRow w a1 len1 cap1 zs1) {len2 cap2 : Nat} {a2 : Option Addr} {zs2 : List Int} (w2 : IntRow w a2 len2 cap2 zs2)
    (hs : AllL (fun c1 => AllL (fun c2 => TwoOk P F f c1 c2) classes) classes) :
    Calls P f #[.slice a1 len1 cap1, .slice a2 len2 cap2] w fun e w' => e = .returned (.bool true) ∧ Below w.heap.size w w' := by
  obtain ⟨k1, hk1, f1⟩ := Cls.of_row w1
  obtain ⟨k2, hk2, f2⟩ := Cls.of_row w2
  obtain ⟨S0, fuel, d, hS0, hrun⟩ := (hs.mem k1 hk1).mem k2 hk2
  obtain ⟨t11, t12, t13⟩ := Cls.told_ok w1 f1
  obtain ⟨t21, t22, t23⟩ := Cls.told_ok w2 f2
  let zs : Nat → List Int := fun j => if j = 0 then k1.told (zs1.take len1) else k2.told (zs2.take len2)
  have hz : ∀ j, (zs j).length < 9223372036854775808 := fun j => by
    show (if j = 0 then _ else _ : List Int).length < _
    split
    · exact t11
    · exact t21
  letI E : Env := listEnv zs hz
  have hE : ListE zs := listEnv_ok hz (fun j => by
    show ∀ x ∈ (if j = 0 then _ else _ : List Int), _
    split
    · exact t12
    · exact t22) (fun j _ => by
    show ¬ ShareZ (nth (if j = 0 then _ else _ : List Int)) (if j = 0 then _ else _ : List Int).length
    split
    · exact t13
    · exact t23)
  obtain ⟨ρ1, L1, c1, e1, v1⟩ := k1.put (Ctx.start w) (by omega) (j := 0) (by omega) w1 f1 (hE.lst 0 (by omega))
  have hn1 : k1.next 0 < 16384 := by cases k1 <;> simp [Cls.next]
  obtain ⟨ρ2, L2, c2, e2, v2⟩ := k2.put c1 hn1 (j := 1) (by omega) w2 f2 (hE.lst 1 (by omega))
  exact run_true (orS_sound (listS_sound K hE) (hS0 _)) c2 (.cons _ _ _ _ (v1.mono e2) (.cons _ _ _ _ v2 .nil)) hrun

theorem AllL.imp {α : Type} {p q : α → Prop} (h : ∀ x, p x → q x) : ∀ {l : List α}, AllL p l → AllL q l
  | [], _ => trivial
  | x :: l, hp => ⟨h x hp.1, AllL.imp h hp.2⟩
theorem two_walk {P : Program} {S0 : Sums} (hS0 : Always P S0) {F : Fns} {tInt fuel d f : Nat} (K : ListK P F.to F.eq F.mark F.inn F.of tInt) {w : World}
    {len1 cap1 : Nat} {a1 : Option Addr} {zs1 : List Int} (w1 : IntRow w a1 len1 cap1 zs1) {len2 cap2 : Nat} {a2 : Option Addr} {zs2 : List Int} (w2 : IntRow w a2 len2 cap2 zs2)
    (hs : AllL (fun c1 => AllL (fun c2 => isTrue (twoRun P S0 F fuel d f c1 c2) = true) classes) classes) :
    Calls P f #[.slice a1 len1 cap1, .slice a2 len2 cap2] w fun e w' => e = .returned (.bool true) ∧ Below w.heap.size w w' :=
  two_walk2 K w1 w2 (hs.imp fun _ h => h.imp fun _ h2 => ⟨S0, fuel, d, hS0, h2⟩)
end Go.Eng

/- Laws on a list and an int. -/
namespace Go.Eng
set_option linter.unusedSectionVars false
set_option linter.unusedSimpArgs false
set_option linter.unusedVariables false
open Go Go.RowKit

/-- What an int that comes in may be: known, below 0, above a bound. -/
inductive ICls where
  | is (k : Nat)
  | neg
  | big (m : Nat)

noncomputable section
def ICls.word (c : ICls) (j : Nat) : Nat := ICls.rec (motive := fun _ => Nat) (fun k => wI k) (wV j 0 549755813887) (fun m => wV j (Nat.add 549755813889 m) 0) c
def ICls.Fits (c : ICls) (z : Int) : Prop := ICls.rec (motive := fun _ => Prop) (fun k => z = (k : Int)) (z < 0) (fun m => (m : Int) < z) c
def iclasses (m : Nat) : List ICls := .neg :: .big m :: (List.range (m + 1)).map .is
end

theorem ICls.of_int (m : Nat) (z : Int) : ∃ c ∈ iclasses m, c.Fits z := by
  by_cases h0 : z < 0
  · exact ⟨.neg, by simp [iclasses], h0⟩
  by_cases h1 : (m : Int) < z
  · exact ⟨.big m, by simp [iclasses], h1⟩
  · exact ⟨.is z.toNat, by simp [iclasses]; omega, by show z = ((z.toNat : Nat) : Int); omega⟩

section
variable [E : Env]
theorem ICls.put {ρ : Rho} {L : Look} {z : Int} (c : ICls) {m : Nat} (hc : c ∈ iclasses m) (hm : m < 1000000) (j : Nat) (he : E.int j = z) (hf : c.Fits z) : VR ρ L (c.word j) (.int .i64 z) := by
  cases c with
  | is k =>
    have hz : z = (k : Int) := hf
    subst hz
    have hk : k < m + 1 := by simpa [iclasses] using hc
    exact VR.small k (by omega)
  | neg =>
    have hz : z < 0 := hf
    rw [← he]
    exact VR.var j 0 549755813887 (by omega) (by omega) (.inl rfl) (.inr (by omega))
  | big k =>
    have hz : (k : Int) < z := hf
    have hk : k = m := by simpa [iclasses] using hc
    subst hk
    rw [← he]
    have e : Nat.add 549755813889 k = 549755813889 + k := rfl
    show VR ρ L (wV j (Nat.add 549755813889 k) 0) _
    rw [e]
    exact VR.var j _ 0 (by omega) (by omega) (.inr (by omega)) (.inl rfl)
end

noncomputable section
/-- a law on a list and an int -/
def lintRun (P : Program) (S0 : Sums) (F : Fns) (fuel d f : Nat) (c1 : Cls) (c2 : ICls) : OR :=
  lrun P S0 F fuel d f [c1.word 0 0, c2.word 1] (c1.heap 0 0 .nil) (c1.next 0)
end

/-- ██ The walk of a law on a list of ints and an int, out of its runs. -/
theorem lint_walk {P : Program} {S0 : Sums} (hS0 : Always P S0) {F : Fns} {tInt fuel d f m : Nat} (hm : m < 1000000) (K : ListK P F.to F.eq F.mark F.inn F.of tInt) {w : World}
    {len1 cap1 : Nat} {a1 : Option Addr} {zs1 : List Int} (w1 : IntRow w a1 len1 cap1 zs1) {z : Int} (w2 : (Lit.int .i64 z).wf = true)
    (hs : AllL (fun c1 => AllL (fun c2 => isTrue (lintRun P S0 F fuel d f c1 c2) = true) (iclasses m)) classes) :
    Calls P f #[.slice a1 len1 cap1, .int .i64 z] w fun e w' => e = .returned (.bool true) ∧ Below w.heap.size w w' := by
  obtain ⟨k1, hk1, f1⟩ := Cls.of_row w1
  obtain ⟨k2, hk2, f2⟩ := ICls.of_int m z
  have hrun := (hs.mem k1 hk1).mem k2 hk2
  obtain ⟨t11, t12, t13⟩ := Cls.told_ok w1 f1
  letI E : Env := argEnv (fun _ => k1.told (zs1.take len1)) (fun _ => t11) (fun _ => z) (fun _ => wf_i64 w2)
  have hE : ListE (fun _ => k1.told (zs1.take len1)) := { lst := fun j hj => listL_lst _ j hj, rng := fun _ => t12, no := fun _ _ => t13 }
  obtain ⟨ρ1, L1, c1, e1, v1⟩ := k1.put (Ctx.start w) (by omega) (j := 0) (by omega) w1 f1 (hE.lst 0 (by omega))
  exact run_true (orS_sound (listS_sound K hE) (hS0 _)) c1 (.cons _ _ _ _ v1 (.cons _ _ _ _ (k2.put hk2 hm 1 rfl f2) .nil)) hrun
end Go.Eng
