/- Laws on lists: what is known beforehand of lists that are no shares. -/
import Derived.Test.YthcdiaahpodkoabEngXb
namespace Go.Eng
set_option linter.unusedSectionVars false
set_option linter.unusedSimpArgs false
set_option linter.unusedVariables false
open Go Go.RowKit

/-! ### shares -/
def lft (z : Nat → Int) : Nat → Int
  | 0 => 6
  | k + 1 => lft z k - z k
def OkAt (z : Nat → Int) (k : Nat) : Prop := 1 ≤ z k ∧ z k ≤ lft z k ∧ (0 < k → z k ≤ z (k - 1))
def ShareZ (z : Nat → Int) (n : Nat) : Prop := ∀ k, k < n → OkAt z k
def nth (l : List Int) : Nat → Int := fun i => l.getD i 0

/-- what is asked of the functions that meet a list as a whole -/
structure ListK (P : Program) (fTo fEq fMark fIn fOf tInt : Nat) : Prop where
  kTo : Known P fTo
  kEq : Known P fEq
  kMark : fMark ≠ fEq → Known P fMark
  kIn : Known P fIn
  kOf : Known P fOf
  to : ∀ (w : World) (rb d len cap : Nat) (z : Nat → Int), len ≤ 4194304 → (∀ r, r < len → w.cell? ⟨rb, d + r, none⟩ = some (.int .i64 (z r))) →
    Calls P fTo #[.slice (some ⟨rb, d, none⟩) len cap] w fun e w' => e = .returned (.slice (some ⟨w.heap.size, 0, none⟩) len len) ∧
      ∃ cs : Array Value, w'.heap = w.heap.push (.cells cs tInt (0, 0)) ∧ cs.size = len ∧ (∀ i, i < len → cs[i]? = some (.int .i64 (z i))) ∧ w'.os = w.os ∧ w'.tape = w.tape ∧ w'.output = w.output
  eq : ∀ (w : World) (rb d rb2 d2 len cap cap2 : Nat) (z : Nat → Int), len ≤ 4194304 → (∀ r, r < len → w.cell? ⟨rb, d + r, none⟩ = some (.int .i64 (z r))) → (∀ r, r < len → w.cell? ⟨rb2, d2 + r, none⟩ = some (.int .i64 (z r))) →
    Calls P fEq #[.slice (some ⟨rb, d, none⟩) len cap, .slice (some ⟨rb2, d2, none⟩) len cap2] w fun e w' => e = .returned (.bool true) ∧ ∃ m, w' = w.drewN m
  mark : fMark ≠ fEq → ∀ (w : World) (rb d len cap k0 : Nat), k0 ≤ 1099511627776 → len ≤ 4194304 → (∀ r, r < len → ∃ v, w.cell? ⟨rb, d + r, none⟩ = some v) → (∀ r, r < len → w.frozen? ⟨rb, d + r, none⟩ = false) →
    Calls P fMark #[.slice (some ⟨rb, d, none⟩) len cap, .int .i64 k0] w fun e w' => e = .returned (.int .i64 ((k0 + len : Nat) : Int)) ∧ w'.heap.size = w.heap.size ∧ (∀ b, b ≠ rb → w'.heap[b]? = w.heap[b]?) ∧ w'.os = w.os ∧ w'.tape = w.tape ∧ w'.output = w.output
  inn : ∀ (w : World) (rb d len cap : Nat) (z : Nat → Int), len ≤ 4194304 → (∀ r, r < len → w.cell? ⟨rb, d + r, none⟩ = some (.int .i64 (z r))) → ¬ ShareZ z len →
    Calls P fIn #[.slice (some ⟨rb, d, none⟩) len cap] w fun e w' => e = .returned (.bool false) ∧ ∃ m, w' = w.drewN m
  off : ∀ (w : World) (rb d len cap : Nat) (z : Nat → Int), len ≤ 4194304 → (∀ r, r < len → w.cell? ⟨rb, d + r, none⟩ = some (.int .i64 (z r))) → (∀ r, -9223372036854775808 ≤ z r ∧ z r < 9223372036854775808) → ¬ ShareZ z len →
    Calls P fOf #[.slice (some ⟨rb, d, none⟩) len cap] w fun e w' => e = .returned (.tuple #[.slice none 0 0, .bool false]) ∧ w' = w

noncomputable section
/-- is the word's block there, with the contents that the word tells? -/
def isOpq (H : Trie) (s : Nat) : Bool := match tget H (oBlk (payOf s)) with | some (.opq j _) => Nat.beq j (oIx (payOf s)) | _ => false
def ownOpq (H : Trie) (s : Nat) : Bool := match tget H (oBlk (payOf s)) with | some (.opq _ ro) => Nat.beq ro 0 | _ => false
def bounded (s : Nat) : Bool := sel (Nat.beq (oHi (payOf s)) 0) false true
def opqW (H : Trie) (s : Nat) (r : SR) : SR := gd (Nat.beq (tagOf s) 11) (gd (isOpq H s) (gd (bounded s) (gd (ltb (oIx (payOf s)) 1000) r)))
def toS (s : Nat) (H : Trie) (n : Nat) : SR := opqW H s (gd (ltb n maxBlk) (.yes (.ok (wO n (oIx (payOf s)) (oLo (payOf s)) (oHi (payOf s))) (hset H n (.opq (oIx (payOf s)) 0)) (Nat.succ n))))
def eqS (s t : Nat) (H : Trie) (n : Nat) : SR := opqW H s (opqW H t (gd (Nat.beq (oIx (payOf s)) (oIx (payOf t))) (.yes (.ok 18 H n))))
/-- the lists from 0 to 7 are no shares -/
def inS (s : Nat) (H : Trie) (n : Nat) : SR := opqW H s (gd (ltb (oIx (payOf s)) 8) (.yes (.ok 2 H n)))
def ofS (s : Nat) (H : Trie) (n : Nat) : SR := opqW H s (gd (ltb (oIx (payOf s)) 8) (.yes (newBox H n 1 2 (listW [sNil, 2]) (mk 6 n))))
def markS (s k : Nat) (H : Trie) (n : Nat) : SR :=
  opqW H s (gd (ownOpq H s)
    (sel (Nat.beq (tagOf k) 1) (gd (ltb (payOf k) 1048576) (.yes (.ok (wG (payOf k) (Nat.add (payOf k) (oHi (payOf s)))) (hset H (oBlk (payOf s)) .gone) n)))
      (gd (Nat.beq (tagOf k) 9) (gd (ltb (gHi (payOf k)) 1099511627776) (.yes (.ok (wG (gLo (payOf k)) (Nat.add (gHi (payOf k)) (oHi (payOf s)))) (hset H (oBlk (payOf s)) .gone) n))))))
def listS (fTo fEq fMark fIn fOf : Nat) : Sums := fun f args H n =>
  sel (Nat.beq f fTo) (match args with | [s] => toS s H n | _ => .no)
    (sel (Nat.beq f fEq) (match args with | [s, t] => eqS s t H n | _ => .no)
      (sel (Nat.beq f fMark) (match args with | [s, k] => markS s k H n | _ => .no)
        (sel (Nat.beq f fIn) (match args with | [s] => inS s H n | _ => .no)
          (sel (Nat.beq f fOf) (match args with | [s] => ofS s H n | _ => .no) .no))))
end

structure ListE [E : Env] (zs : Nat → List Int) : Prop where
  lst : ∀ j, j < 1000 → E.lst j = (zs j).map (Value.int .i64)
  rng : ∀ j, ∀ x ∈ zs j, -9223372036854775808 ≤ x ∧ x < 9223372036854775808
  no : ∀ j, j < 8 → ¬ ShareZ (nth (zs j)) (zs j).length

variable [E : Env]
section
variable {base : Nat} {H : Trie} {n : Nat} {ρ : Rho} {L : Look} {w : World} {zs : Nat → List Int} {P : Program}

theorem ListE.len (hE : ListE zs) (j : Nat) (hj : j < 1000) : (E.lst j).length = (zs j).length := by rw [hE.lst j hj, List.length_map]

/-- What is known of a list whose word is so. -/
theorem opqW_inv (hE : ListE zs) (c : Ctx base H n ρ L w) {s : Nat} {v : Value} {r : SR} {x : OR} (hv : VR ρ L s v) (h : opqW H s r = .yes x) :
    r = .yes x ∧ ∃ b j lo hi rb d sz cap, s = wO b j lo hi ∧ oBlk (payOf s) = b ∧ oIx (payOf s) = j ∧ oLo (payOf s) = lo ∧ oHi (payOf s) = hi ∧ ρ b = some (rb, d, sz) ∧ j < 1000 ∧ lo < 4194304 ∧ hi < 4194304 ∧ 0 < hi ∧
      lo ≤ (zs j).length ∧ (zs j).length ≤ hi ∧ (zs j).length ≤ cap ∧ cap ≤ sz ∧ cap < 9223372036854775808 ∧ v = .slice (some ⟨rb, d, none⟩) (zs j).length cap ∧ b < 16384 ∧
      (∃ ro, tget H b = some (.opq j ro)) ∧ ∃ cs ty fz ro, L b = some (.opq j ro) ∧ w.heap[rb]? = some (.cells cs ty fz) ∧ d + sz ≤ cs.size ∧ (ro = 0 → fz = (0, 0)) ∧ (∀ i, i < (zs j).length → cs[d + i]? = some (.int .i64 (nth (zs j) i))) ∧
        ∀ i, i < (zs j).length → w.cell? ⟨rb, d + i, none⟩ = some (.int .i64 (nth (zs j) i)) := by
  unfold opqW at h
  obtain ⟨g1, h⟩ := gd_inv h
  obtain ⟨g2, h⟩ := gd_inv h
  obtain ⟨g3, h⟩ := gd_inv h
  obtain ⟨g4, h⟩ := gd_inv h
  have g4 := (ltb_iff _ _).1 g4
  refine ⟨h, ?_⟩
  have g1 := Nat.eq_of_beq_eq_true g1
  obtain ⟨b, j, lo, hi, rb, d, sz, cap, hb, hj, hlo, hhi, h5, h6, h7, h8, h9, rfl, rfl⟩ := hv.opq_inv g1
  obtain ⟨p1, p2, p3, p4⟩ := o_parts b j lo hi hj hlo hhi
  unfold isOpq at g2
  rw [p3, p4] at g2
  rw [p3] at g4
  unfold bounded at g3
  rw [p1, sel_beq] at g3
  have hhi0 : hi ≠ 0 := by intro h0; rw [if_pos h0] at g3; cases g3
  have hl := hE.len j g4
  rw [hl] at h5 h6 h7 ⊢
  split at g2
  · rename_i j' ro hg
    have := Nat.eq_of_beq_eq_true g2
    subst this
    have hL := c.agree.2 _ _ hg
    have hlive : live L b := by
      unfold live
      by_cases h0 : ro = 0
      · subst h0; right; left; simp [grp, hL, info]
      · left; simp [grp, hL, h0]
    obtain ⟨k, hk, hbr⟩ := c.sim.blk b _ hb
    rw [hL] at hk; injection hk with hk; subst hk
    obtain ⟨cs, ty, fz, q1, q2, q3, q4, q5⟩ := hbr hlive
    have q6 : ∀ i, i < (zs j').length → cs[d + i]? = some (.int .i64 (nth (zs j') i)) := fun i hi => by
      have := q5 i (by rw [hl]; exact hi)
      rw [this, hE.lst _ g4, List.getElem?_map, List.getElem?_eq_getElem hi]
      simp [nth, List.getD_eq_getElem?_getD, hi]
    exact ⟨b, j', lo, hi, rb, d, sz, cap, rfl, p4, p3, p2, p1, hb, g4, hlo, hhi, by omega, h5, by omega, h7, h8, h9, rfl, c.agree.lt hg, ⟨ro, hg⟩, cs, ty, fz, ro, hL, q1, q2, q4, q6, fun i hi => by rw [cell_of_heap q1]; exact q6 i hi⟩
  · cases g2
end

theorem nth_range {zs : Nat → List Int} (hE : ListE zs) (j : Nat) (r : Nat) : -9223372036854775808 ≤ nth (zs j) r ∧ nth (zs j) r < 9223372036854775808 := by
  unfold nth
  by_cases h : r < (zs j).length
  · have : (zs j).getD r 0 ∈ zs j := by rw [List.getD_eq_getElem?_getD, List.getElem?_eq_getElem h]; exact List.getElem_mem h
    exact hE.rng j _ this
  · rw [List.getD_eq_getElem?_getD, List.getElem?_eq_none (by omega)]; simp

theorem listS_sound {P : Program} {fTo fEq fMark fIn fOf tInt : Nat} {zs : Nat → List Int} (K : ListK P fTo fEq fMark fIn fOf tInt) (hE : ListE zs) : SumS P (listS fTo fEq fMark fIn fOf) := by
  intro base H n ρ L w f args vs v H' n' cs c ha h
  unfold listS at h
  rw [sel_beq, sel_beq, sel_beq, sel_beq, sel_beq] at h
  generalize hvs : vs.toList = l at ha
  split at h
  · -- a copy
    rename_i hf
    subst hf
    split at h
    · rename_i s
      rcases ha with _ | ⟨_, v1, _, vs1, hr1, ha1⟩
      cases ha1
      have hvv : vs = #[v1] := by cases vs; simp_all
      subst hvv
      unfold toS at h
      obtain ⟨h, b, j, lo, hi, rb, d, sz, cap, hs, p1, p2, p3, p4, hb, hj, hlo, hhi, hh0, hl1, hl2, hl3, hcs, hcap, rfl, hb16, hget, cs0, ty, fz, ro, hL, hheap, hds, hfz, hcells, hrow⟩ := opqW_inv hE c hr1 h
      obtain ⟨g1, h⟩ := gd_inv h
      have hn := (ltb_iff _ _).1 g1
      rw [p2, p3, p4] at h
      injection h with h
      injection h with e1 e2 e3
      subst e1; subst e2; subst e3
      obtain ⟨e, W, ⟨he, cs1, hW, hsz, hc1, ho, ht, hou⟩, hcall⟩ := calls_at (K.to w rb d (zs j).length cap (nth (zs j)) (by omega) hrow) cs
      subst he
      have hk : OwnK n (.opq j 0) := rfl
      have hlen := hE.len j hj
      have hbr : BR (updR ρ n (w.heap.size, 0, (zs j).length)) (upd L n (.opq j 0)) W (w.heap.size, 0, (zs j).length) (.opq j 0) :=
        ⟨cs1, tInt, (0, 0), by rw [hW]; simp, by simp [hsz], by rw [hlen]; exact Nat.le_refl _, fun _ => rfl, fun i hi => by
          rw [hlen] at hi
          rw [Nat.zero_add, hc1 i hi, hE.lst _ hj, List.getElem?_map, List.getElem?_eq_getElem hi]
          simp [nth, List.getD_eq_getElem?_getD, hi]⟩
      have hbase := c.sim.bs
      refine ⟨_, _, W, _, ⟨c.sim.fresh c.fresh hW hk hbr, c.agree.hset hn _, c.fresh.upd _ _⟩, .fresh c.fresh _ _, ⟨ho, ht, hou, by rw [hW]; simp, fun i hi => by rw [hW, Array.getElem?_push, if_neg (by omega)]⟩, .fresh _ _, Nat.le_succ _, ?_, K.kTo, hcall⟩
      have := VR.opq (ρ := updR ρ n (w.heap.size, 0, (zs j).length)) (L := upd L n (.opq j 0)) n j lo hi w.heap.size 0 (zs j).length (zs j).length (updR_same _ _ _) (by omega) hlo hhi (by rw [hlen]; exact hl1) (.inr (by rw [hlen]; exact hl2)) (by rw [hlen]; exact Nat.le_refl _) (Nat.le_refl _) (by omega)
      rw [hlen] at this
      exact this
    · cases h
  · split at h
    · -- two lists held against each other
      rename_i hf
      subst hf
      split at h
      · rename_i s t
        rcases ha with _ | ⟨_, v1, _, vs1, hr1, ha1⟩
        rcases ha1 with _ | ⟨_, v2, _, vs2, hr2, ha2⟩
        cases ha2
        have hvv : vs = #[v1, v2] := by cases vs; simp_all
        subst hvv
        unfold eqS at h
        obtain ⟨h, b, j, lo, hi, rb, d, sz, cap, hs, p1, p2, p3, p4, hb, hj, hlo, hhi, hh0, hl1, hl2, hl3, hcs, hcap, rfl, hb16, hget, cs0, ty, fz, ro, hL, hheap, hds, hfz, hcells, hrow⟩ := opqW_inv hE c hr1 h
        obtain ⟨h, b2, j2, lo2, hi2, rb2, d2, sz2, cap2, hs2, q1, q2, q3, q4, hb2, hj2, hlo2, hhi2, hh02, hl12, hl22, hl32, hcs2, hcap2, rfl, hb162, hget2, cs02, ty2, fz2, ro2, hL2, hheap2, hds2, hfz2, hcells2, hrow2⟩ := opqW_inv hE c hr2 h
        obtain ⟨g1, h⟩ := gd_inv h
        have g1 := Nat.eq_of_beq_eq_true g1
        rw [p2, q2] at g1
        subst g1
        injection h with h
        injection h with e1 e2 e3
        subst e1; subst e2; subst e3
        obtain ⟨e, W, ⟨he, m, hW⟩, hcall⟩ := calls_at (K.eq w rb d rb2 d2 (zs j).length cap cap2 (nth (zs j)) (by omega) hrow hrow2) cs
        subst he; subst hW
        exact ⟨ρ, L, _, _, c.drewN m, .refl _ _, ⟨rfl, rfl, rfl, Nat.le_refl _, fun _ _ => rfl⟩, .refl _ _ _ _, Nat.le_refl _, VR.bool true, K.kEq, hcall⟩
      · cases h
    · split at h
      · -- a list is written over
        rename_i hne hf
        subst hf
        split at h
        · rename_i s k
          rcases ha with _ | ⟨_, v1, _, vs1, hr1, ha1⟩
          rcases ha1 with _ | ⟨_, v2, _, vs2, hr2, ha2⟩
          cases ha2
          have hvv : vs = #[v1, v2] := by cases vs; simp_all
          subst hvv
          unfold markS at h
          obtain ⟨h, b, j, lo, hi, rb, d, sz, cap, hs, p1, p2, p3, p4, hb, hj, hlo, hhi, hh0, hl1, hl2, hl3, hcs, hcap, rfl, hb16, hget, cs0, ty, fz, ro, hL, hheap, hds, hfz, hcells, hrow⟩ := opqW_inv hE c hr1 h
          obtain ⟨g1, h⟩ := gd_inv h
          unfold ownOpq at g1
          rw [p1] at g1 h
          rw [p4] at h
          obtain ⟨ro', hget'⟩ := hget
          rw [hget'] at g1
          have g1 : ro' = 0 := Nat.eq_of_beq_eq_true g1
          subst g1
          have hLr := c.agree.2 _ _ hget'
          rw [hL] at hLr; injection hLr with hLr; injection hLr with _ hLr
          subst hLr
          obtain rfl := hfz rfl
          have hgr : grp L b = b + 1 := by simp [grp, hL]
          have hbase : base ≤ rb := c.sim.rw b _ hb (by rw [hgr]; omega)
          have ne : ∀ i (k : Blk), L i = some k → (∀ j ro, k ≠ .opq j ro) → i ≠ b := fun i k hi hk hib => by
            subst hib; rw [hL] at hi; injection hi with hi; exact hk _ _ hi.symm
          have ext : Ext ρ L ρ (upd L b .gone) := by
            refine ⟨⟨fun _ _ h => h, fun i kd m c hi => ?_, fun i p q s d lo hi2 hi => ?_, fun i hi => ?_⟩, fun i hi => ?_⟩
            · rw [upd_ne _ _ (ne i _ hi (by intros; simp))]; exact hi
            · rw [upd_ne _ _ (ne i _ hi (by intros; simp))]; exact hi
            · rcases hi with hi | hi
              · left; rw [upd_ne _ _ (ne i _ hi (by intros; simp))]; exact hi
              · right; rw [upd_ne _ _ (ne i _ hi (by intros; simp))]; exact hi
            · rw [upd_ne _ _ (ne i _ hi (by intros; simp))]; exact hi
          have main : ∀ (k0 : Nat) (wk : Nat), k0 ≤ 1099511627776 → v2 = .int .i64 (k0 : Int) → VR ρ (upd L b .gone) wk (.int .i64 ((k0 + (zs j).length : Nat) : Int)) → OR.ok wk (hset H b .gone) n = OR.ok v H' n' →
              After base H n ρ L w v H' n' (fun x w' => Known P f ∧ CallsAt P f #[.slice (some ⟨rb, d, none⟩) (zs j).length cap, v2] w cs (fun e W => e = .returned x ∧ W = w')) := by
            intro k0 wk hk0 hv2 hwk heq
            injection heq with e1 e2 e3
            subst e1; subst e2; subst e3; subst hv2
            obtain ⟨e, W, ⟨he, hsz, hoth, ho, ht, hou⟩, hcall⟩ := calls_at (K.mark hne w rb d (zs j).length cap k0 hk0 (by omega) (fun r hr => ⟨_, hrow r hr⟩) (fun r hr => by simp [World.frozen?, hheap])) cs
            subst he
            have s1 := c.sim.swap (w' := W) hb hL (h0 := (rfl : (0 : Nat) = 0)) (k' := .gone) (h1 := trivial) ext.toExt0 (fun x hx => hoth x hx) hsz trivial
            refine ⟨ρ, _, W, _, ⟨s1, c.agree.hset hb16 _, fun i hi => ⟨by rw [upd_ne _ _ (by have := c.fresh.ltL hL; omega)]; exact (c.fresh i hi).1, (c.fresh i hi).2⟩⟩, ext, ⟨ho, ht, hou, by omega, fun i hi => hoth i (by omega)⟩,
              ⟨fun i hi hin => ⟨upd_ne _ _ (fun hh => by subst hh; rw [hb] at hin; cases hin), hin⟩⟩, Nat.le_refl _, hwk, K.kMark hne, hcall⟩
          rw [sel_beq] at h
          split at h
          · rename_i hk1
            obtain ⟨g2, h⟩ := gd_inv h
            have g2 := (ltb_iff _ _).1 g2
            obtain ⟨q, hq, _, hqp, hv2⟩ := hr2.int_inv hk1
            rw [hqp] at g2 h
            rw [sInt_small (by omega)] at hv2
            injection h with h
            have e2 : Nat.add q hi = q + hi := rfl
            exact main q _ (by omega) hv2 (.btw q _ _ (by rw [e2]; omega) (by omega) (by rw [e2]; omega)) h
          · obtain ⟨g1, h⟩ := gd_inv h
            obtain ⟨g2, h⟩ := gd_inv h
            have g1 := Nat.eq_of_beq_eq_true g1
            have g2 := (ltb_iff _ _).1 g2
            obtain ⟨tt, u, z, k1, k2, k3, _, k5, k6, hv2⟩ := hr2.btw_inv g1
            rw [k6] at g2
            rw [k5, k6] at h
            injection h with h
            have e2 : Nat.add u hi = u + hi := rfl
            obtain ⟨q, rfl⟩ : ∃ q : Nat, z = (q : Int) := ⟨z.toNat, by omega⟩
            exact main q _ (by omega) hv2 (.btw tt _ _ (by rw [e2]; omega) (by omega) (by rw [e2]; omega)) h
        · cases h
      · split at h
        · -- is it a share, by the model
          rename_i hf
          subst hf
          split at h
          · rename_i s
            rcases ha with _ | ⟨_, v1, _, vs1, hr1, ha1⟩
            cases ha1
            have hvv : vs = #[v1] := by cases vs; simp_all
            subst hvv
            unfold inS at h
            obtain ⟨h, b, j, lo, hi, rb, d, sz, cap, hs, p1, p2, p3, p4, hb, hj, hlo, hhi, hh0, hl1, hl2, hl3, hcs, hcap, rfl, hb16, hget, cs0, ty, fz, ro, hL, hheap, hds, hfz, hcells, hrow⟩ := opqW_inv hE c hr1 h
            obtain ⟨g1, h⟩ := gd_inv h
            rw [p2] at g1
            have g1 := (ltb_iff _ _).1 g1
            injection h with h
            injection h with e1 e2 e3
            subst e1; subst e2; subst e3
            obtain ⟨e, W, ⟨he, m, hW⟩, hcall⟩ := calls_at (K.inn w rb d (zs j).length cap (nth (zs j)) (by omega) hrow (hE.no j g1)) cs
            subst he; subst hW
            exact ⟨ρ, L, _, _, c.drewN m, .refl _ _, ⟨rfl, rfl, rfl, Nat.le_refl _, fun _ _ => rfl⟩, .refl _ _ _ _, Nat.le_refl _, VR.bool false, K.kIn, hcall⟩
          · cases h
        · split at h
          · -- is it a share, by the program
            rename_i hf
            subst hf
            split at h
            · rename_i s
              rcases ha with _ | ⟨_, v1, _, vs1, hr1, ha1⟩
              cases ha1
              have hvv : vs = #[v1] := by cases vs; simp_all
              subst hvv
              unfold ofS at h
              obtain ⟨h, b, j, lo, hi, rb, d, sz, cap, hs, p1, p2, p3, p4, hb, hj, hlo, hhi, hh0, hl1, hl2, hl3, hcs, hcap, rfl, hb16, hget, cs0, ty, fz, ro, hL, hheap, hds, hfz, hcells, hrow⟩ := opqW_inv hE c hr1 h
              obtain ⟨g1, h⟩ := gd_inv h
              rw [p2] at g1
              have g1 := (ltb_iff _ _).1 g1
              injection h with h
              unfold newBox at h
              rw [sel_ltb] at h
              split at h
              · rename_i hn
                injection h with e1 e2 e3
                subst e1; subst e2; subst e3
                obtain ⟨e, W, ⟨he, hW⟩, hcall⟩ := calls_at (K.off w rb d (zs j).length cap (nth (zs j)) (by omega) hrow (nth_range hE j) (hE.no j g1)) cs
                subst he; subst hW
                refine ⟨ρ, _, _, _, ⟨c.sim.box c.fresh _ _ _, c.agree.hset hn _, c.fresh.updL _⟩, .freshL c.fresh _, Below.refl _ _, .freshL _, Nat.le_succ _, ?_, K.kOf, hcall⟩
                refine .tup n 2 _ _ (upd_same _ _ _) rfl fun i hi => ?_
                match i, hi with
                | 0, _ => rw [getW_listW _ (by decide)]; exact .sliceNil
                | 1, _ => rw [getW_listW _ (by decide)]; exact VR.bool false
              · cases h
            · cases h
          · cases h
end Go.Eng
