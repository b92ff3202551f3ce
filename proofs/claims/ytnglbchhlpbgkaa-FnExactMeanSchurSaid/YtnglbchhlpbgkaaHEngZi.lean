/- Part of the evaluator: Ze Zf Zg Zh Zi. -/
import Derived.Test.YtnglbchhlpbgkaaHEngZd

/- Laws on sums: what is known beforehand of what is no sum. -/
namespace Go.Eng
set_option linter.unusedSectionVars false
set_option linter.unusedSimpArgs false
set_option linter.unusedVariables false
open Go Go.RowKit

/-- the number of shares of a degree -/
def npS (d : Nat) : Nat := [1, 1, 2, 3, 5, 7, 11].getD d 0
def SumZ (s : ByteArray) (d : Int) (l : List Int) : Prop :=
  (∃ k, k < 5 ∧ s = kText.getD k ⟨#[]⟩) ∧ (∃ e : Nat, e ≤ 6 ∧ d = (e : Int) ∧ l.length = npS e) ∧ ∀ i, i < l.length → -1000000 ≤ nth l i ∧ nth l i ≤ 1000000

/-- a slice of ints as it is held -/
def RowH (w : World) (a : Option Addr) (len cap : Nat) (l : List Int) : Prop :=
  (a = none ∧ len = 0 ∧ cap = 0 ∧ l = []) ∨ (∃ x, a = some x ∧ len = 0 ∧ cap = 0 ∧ l = []) ∨
  ∃ rb d cs ty fz, a = some ⟨rb, d, none⟩ ∧ w.heap[rb]? = some (.cells cs ty fz) ∧ d + cap ≤ cs.size ∧ len ≤ cap ∧ cap < 9223372036854775808 ∧ l.length = len ∧ 0 < len ∧
    (∀ i, i < len → cs[d + i]? = some (.int .i64 (nth l i))) ∧ ∀ x ∈ l, -9223372036854775808 ≤ x ∧ x < 9223372036854775808

/-- what a share of the room leaves -/
def szZ (z : Int) (a b : Nat) : Int := if z - a < 0 then -1 else if z - a - b < 0 then -1 else z - a - b
def noSumV : Value := .tuple #[.agg #[.string ⟨#[]⟩, .int .i64 0, .slice none 0 0], .bool false]

/-- what is asked of the functions that meet a sum as a whole -/
structure SumK (P : Program) (fSz fIn fOf fGcd : Nat) : Prop where
  kSz : Known P fSz
  kIn : Known P fIn
  kOf : Known P fOf
  kGcd : Known P fGcd
  sz : ∀ (w : World) (s : ByteArray) (d : Int) (a : Option Addr) (len cap : Nat) (z : Int), s.size < 9223372036854775808 → len < 9223372036854775808 → 0 ≤ z → z ≤ 1048576 →
    Calls P fSz #[.agg #[.string s, .int .i64 d, .slice a len cap], .int .i64 z] w fun e w' => e = .returned (.int .i64 (szZ z s.size len)) ∧ Below w.heap.size w w'
  inn : ∀ (w : World) (s : ByteArray) (d : Int) (a : Option Addr) (len cap : Nat) (l : List Int), s.size < 9223372036854775808 → -9223372036854775808 ≤ d ∧ d < 9223372036854775808 → RowH w a len cap l → ¬ SumZ s d l →
    Calls P fIn #[.agg #[.string s, .int .i64 d, .slice a len cap]] w fun e w' => e = .returned (.bool false) ∧ Below w.heap.size w w'
  off : ∀ (w : World) (s : ByteArray) (d : Int) (a : Option Addr) (len cap : Nat) (l : List Int), s.size < 9223372036854775808 → -9223372036854775808 ≤ d ∧ d < 9223372036854775808 → RowH w a len cap l → ¬ SumZ s d l →
    Calls P fOf #[.agg #[.string s, .int .i64 d, .slice a len cap]] w fun e w' => e = .returned noSumV ∧ Below w.heap.size w w'
  gcd : ∀ (w : World) (z : Int), -9223372036854775808 ≤ z → z < 9223372036854775808 →
    Calls P fGcd #[.int .i64 z, .int .i64 1] w fun e w' => e = .returned (.int .i64 1) ∧ Below w.heap.size w w'

noncomputable section
/-- are these the numbers of the thing j? an odd j has none -/
def coOk (H : Trie) (e j : Nat) : Bool :=
  sel (Nat.beq (Nat.mod j 2) 1) (sel (Nat.beq e sNil) true (sel (Nat.beq e 14) true (sel (Nat.beq (tagOf e) 4) (sel (Nat.beq (sLen (payOf e)) 0) (Nat.beq (sCap (payOf e)) 1) false) false))) (sel (Nat.beq (tagOf e) 11) (sel (isOpq H e) (sel (Nat.ble 1 (oLo (payOf e))) (Nat.beq (oIx (payOf e)) (Nat.add 16 j)) false) false) false)
/-- is their length that of the thing j? -/
def coLn (_H : Trie) (e j : Nat) : Bool :=
  sel (Nat.beq (Nat.mod j 2) 1) (sel (Nat.beq e sNil) true (sel (Nat.beq e 14) true (sel (Nat.beq (tagOf e) 4) (Nat.beq (sLen (payOf e)) 0) false))) (sel (Nat.beq (tagOf e) 11) (Nat.beq (oIx (payOf e)) (Nat.add 16 j)) false)
/-- the thing j, no sum -/
def nsW (co : Trie → Nat → Nat → Bool) (H : Trie) (s : Nat) (k : Nat → SR) : SR :=
  gd (Nat.beq (tagOf s) 6) (match tget H (payOf s) with
    | some (.box kd m c) => gd (Nat.beq kd 0) (gd (Nat.beq m 3) (gd (isOstr (getW c 0)) (gd (Nat.ble 1000 (osIx (payOf (getW c 0)))) (gd (ltb (osIx (payOf (getW c 0))) 1008)
        (gd (Nat.beq (tagOf (getW c 1)) 12) (gd (Nat.beq (vIx (payOf (getW c 1))) (pvIx (Nat.add 36 (Nat.sub (osIx (payOf (getW c 0))) 1000))))
          (gd (co H (getW c 2) (Nat.sub (osIx (payOf (getW c 0))) 1000)) (k (Nat.sub (osIx (payOf (getW c 0))) 1000)))))))))
    | _ => .no)
def isI64 (x : Nat) : Bool := sel (Nat.beq (tagOf x) 1) true (sel (Nat.beq (tagOf x) 12) true (sel (Nat.beq (tagOf x) 9) true (sel (Nat.beq (tagOf x) 7) (Nat.beq (xKind (payOf x)) 0) false)))
/-- what is known of what is no sum; R tells what is left of a room -/
def sumsS (R : Nat → Nat → Nat) (fSz fIn fOf fGcd : Nat) : Sums := fun f args H n =>
  sel (Nat.beq f fGcd) (match args with | [x, y] => gd (Nat.beq y 17) (gd (isI64 x) (.yes (.ok 17 H n))) | _ => .no)
    (sel (Nat.beq f fIn) (match args with | [s] => nsW coOk H s (fun _ => .yes (.ok 2 H n)) | _ => .no)
      (sel (Nat.beq f fOf) (match args with | [s] => nsW coOk H s (fun _ => gd (ltb (Nat.succ n) maxBlk)
          (.yes (.ok (mk 6 (Nat.succ n)) (hset (hset H n (.box 0 3 (listW [375, 1, sNil]))) (Nat.succ n) (.box 1 2 (listW [mk 6 n, 2]))) (Nat.succ (Nat.succ n))))) | _ => .no)
        (sel (Nat.beq f fSz) (match args with | [s, z] => nsW coLn H s (fun j => gd (Nat.beq (R j z) 0 |> fun b => sel b false true) (.yes (.ok (R j z) H n))) | _ => .no) .no)))
end

structure SumE [E : Env] (zs : Nat → List Int) : Prop where
  lst : ListE zs
  no : ∀ j, j < 8 → ¬ SumZ (E.txt (1000 + j)) (E.int (pvIx (36 + j))) (zs (16 + j))
  emp : ∀ j, j < 8 → j % 2 = 1 → zs (16 + j) = []

section
variable [E : Env]
variable {base : Nat} {H : Trie} {n : Nat} {ρ : Rho} {L : Look} {w : World} {zs : Nat → List Int} {P : Program}

theorem rowH_of (hE : SumE zs) (c : Ctx base H n ρ L w) {e j : Nat} {u : Value} (hu : VR ρ L e u) (hj : j < 8) (h : coOk H e j = true) :
    ∃ a len cap, u = .slice a len cap ∧ RowH w a len cap (zs (16 + j)) ∧ (zs (16 + j)).length = len ∧ len < 9223372036854775808 := by
  unfold coOk at h
  rw [sel_beq] at h
  split at h
  · rename_i hodd
    have hz := hE.emp j hj hodd
    rw [hz]
    rw [sel_beq] at h
    split at h
    · rename_i hn
      rcases hu.slice_inv (by rw [hn]; rfl) with ⟨_, h2⟩ | ⟨b, e', o, n', k', rb, d, sz, c', a, h1, h2, h3, h4, h5, _, _, _, _, h6, _⟩
      · exact ⟨none, 0, 0, h2, .inl ⟨rfl, rfl, rfl, rfl⟩, rfl, by decide⟩
      · obtain ⟨_, _, _, _, _, h7⟩ := s_parts b e' o n' k' h2 h3 h4 h5
        obtain ⟨_, _, _, _, _, h8⟩ := s_nil
        rw [← h6, hn, h8] at h7
        omega
    · rw [sel_beq] at h
      split at h
      · rename_i h14
        obtain ⟨a, ha⟩ := hu.sl0_inv (by rw [h14]; rfl)
        exact ⟨some a, 0, 0, ha, .inr (.inl ⟨a, rfl, rfl, rfl, rfl⟩), rfl, by decide⟩
      · rw [sel_beq] at h
        split at h
        rotate_left
        · cases h
        rename_i h4
        obtain ⟨hl, hk⟩ := sel_andB h
        have hl := Nat.eq_of_beq_eq_true hl
        have hk := Nat.eq_of_beq_eq_true hk
        rcases hu.slice_inv h4 with ⟨_, h2⟩ | ⟨b, e', o, n', k', rb, d, sz, c', a, h1, h2, h3, h4, h5, h6, h7, h8, _, h9, h10⟩
        · exact ⟨none, 0, 0, h2, .inl ⟨rfl, rfl, rfl, rfl⟩, rfl, by decide⟩
        · obtain ⟨_, q1, q2, _, _, _⟩ := s_parts b e' o n' k' h2 h3 h4 h5
          rw [h9, q1] at hl
          rw [h9, q2] at hk
          obtain rfl : n' = 0 := hl
          obtain rfl : c' = 0 := by omega
          exact ⟨some a, 0, 0, h10, .inr (.inl ⟨a, rfl, rfl, rfl, rfl⟩), rfl, by decide⟩
  · rw [sel_beq] at h
    split at h
    rotate_left
    · cases h
    rename_i h11
    rw [sel_eq] at h
    split at h
    rotate_left
    · cases h
    rename_i g2
    rw [sel_ble] at h
    split at h
    rotate_left
    · cases h
    rename_i g3
    obtain ⟨b, jl, lo, hi, rb, d, sz, cap, hb, hjl, hlo, hhi, h5, h6, h7, h8, h9, rfl, rfl⟩ := hu.opq_inv h11
    obtain ⟨p1, p2, p3, p4⟩ := o_parts b jl lo hi hjl hlo hhi
    rw [p2] at g3
    rw [p3] at h
    have h := Nat.eq_of_beq_eq_true h
    have ea : Nat.add 16 j = 16 + j := rfl
    rw [ea] at h
    subst h
    unfold isOpq at g2
    rw [p3, p4] at g2
    split at g2
    rotate_left
    · cases g2
    rename_i j' ro hg
    have := Nat.eq_of_beq_eq_true g2
    subst this
    have hL := c.agree.2 _ _ hg
    have hlive : live L b := by
      unfold live
      by_cases h0 : ro = 0
      · subst h0; right; left; simp [grp, hL, info]
      · left; simp [grp, hL, h0]
    obtain ⟨k, hk, hbr⟩ := c.sim.blk b _ hb
    rw [hL] at hk; injection hk with hk; subst hk
    obtain ⟨cs, ty, fz, q1, q2, q3, q4, q5⟩ := hbr hlive
    have q2' : d + sz ≤ cs.size := q2
    have hl := hE.lst.len (16 + j) (by omega)
    rw [hl] at h5 h7 ⊢
    refine ⟨_, _, _, rfl, .inr (.inr ⟨rb, d, cs, ty, fz, rfl, q1, by omega, h7, h9, rfl, by omega, fun i hi => ?_, hE.lst.rng _⟩), rfl, by omega⟩
    have := q5 i (by rw [hl]; exact hi)
    rw [this, hE.lst.lst _ (by omega), List.getElem?_map, List.getElem?_eq_getElem hi]
    simp [nth, List.getD_eq_getElem?_getD, hi]

theorem len_of (hE : SumE zs) {e j : Nat} {u : Value} (hu : VR ρ L e u) (hj : j < 8) (h : coLn H e j = true) :
    ∃ a len cap, u = .slice a len cap ∧ True ∧ (zs (16 + j)).length = len ∧ len < 9223372036854775808 := by
  unfold coLn at h
  rw [sel_beq] at h
  split at h
  · rename_i hodd
    have hz := hE.emp j hj hodd
    rw [hz]
    rw [sel_beq] at h
    split at h
    · rename_i hn
      rcases hu.slice_inv (by rw [hn]; rfl) with ⟨_, h2⟩ | ⟨b, e', o, n', k', rb, d, sz, c', a, h1, h2, h3, h4, h5, _, _, _, _, h6, _⟩
      · exact ⟨none, 0, 0, h2, trivial, rfl, by decide⟩
      · obtain ⟨_, _, _, _, _, h7⟩ := s_parts b e' o n' k' h2 h3 h4 h5
        obtain ⟨_, _, _, _, _, h8⟩ := s_nil
        rw [← h6, hn, h8] at h7
        omega
    · rw [sel_beq] at h
      split at h
      · rename_i h14
        obtain ⟨a, ha⟩ := hu.sl0_inv (by rw [h14]; rfl)
        exact ⟨some a, 0, 0, ha, trivial, rfl, by decide⟩
      · rw [sel_beq] at h
        split at h
        rotate_left
        · cases h
        rename_i h4
        have hl := Nat.eq_of_beq_eq_true h
        rcases hu.slice_inv h4 with ⟨_, h2⟩ | ⟨b, e', o, n', k', rb, d, sz, c', a, h1, h2, h3, h4, h5, h6, h7, h8, _, h9, h10⟩
        · exact ⟨none, 0, 0, h2, trivial, rfl, by decide⟩
        · obtain ⟨_, q1, q2, _, _, _⟩ := s_parts b e' o n' k' h2 h3 h4 h5
          rw [h9, q1] at hl
          obtain rfl : n' = 0 := hl
          exact ⟨some a, 0, c', h10, trivial, rfl, by decide⟩
  · rw [sel_beq] at h
    split at h
    rotate_left
    · cases h
    rename_i h11
    obtain ⟨b, jl, lo, hi, rb, d, sz, cap, hb, hjl, hlo, hhi, h5, h6, h7, h8, h9, rfl, rfl⟩ := hu.opq_inv h11
    obtain ⟨p1, p2, p3, p4⟩ := o_parts b jl lo hi hjl hlo hhi
    rw [p3] at h
    have h := Nat.eq_of_beq_eq_true h
    have ea : Nat.add 16 j = 16 + j := rfl
    rw [ea] at h
    subst h
    have hl := hE.lst.len (16 + j) (by omega)
    rw [hl] at h7 ⊢
    exact ⟨_, _, _, rfl, trivial, rfl, by omega⟩

theorem nsW_inv (hE : SumE zs) (c : Ctx base H n ρ L w) {co : Trie → Nat → Nat → Bool} {Q : Nat → Option Addr → Nat → Nat → Prop} (hco : ∀ (e j : Nat) (u : Value), VR ρ L e u → j < 8 → co H e j = true → ∃ a len cap, u = .slice a len cap ∧ Q j a len cap ∧ (zs (16 + j)).length = len ∧ len < 9223372036854775808) {s : Nat} {v : Value} {k : Nat → SR} {x : OR} (hv : VR ρ L s v) (h : nsW co H s k = .yes x) :
    ∃ j a len cap, j < 8 ∧ k j = .yes x ∧ v = .agg #[.string (E.txt (1000 + j)), .int .i64 (E.int (pvIx (36 + j))), .slice a len cap] ∧ Q j a len cap ∧ (E.txt (1000 + j)).size < 9223372036854775808 ∧ (zs (16 + j)).length = len ∧ len < 9223372036854775808 := by
  unfold nsW at h
  obtain ⟨g1, h0⟩ := gd_inv h
  clear h
  have g1 := Nat.eq_of_beq_eq_true g1
  split at h0
  rotate_left
  · cases h0
  rename_i kd m cw hget
  obtain ⟨g2, h2⟩ := gd_inv h0
  clear h0
  obtain ⟨g3, h3⟩ := gd_inv h2
  clear h2
  obtain ⟨g4, h4⟩ := gd_inv h3
  clear h3
  obtain ⟨g5, h5⟩ := gd_inv h4
  clear h4
  obtain ⟨g6, h6⟩ := gd_inv h5
  clear h5
  obtain ⟨g7, h7⟩ := gd_inv h6
  clear h6
  obtain ⟨g8, h8⟩ := gd_inv h7
  clear h7
  obtain ⟨g9, h9⟩ := gd_inv h8
  clear h8
  obtain rfl := Nat.eq_of_beq_eq_true g2
  obtain rfl := Nat.eq_of_beq_eq_true g3
  obtain ⟨vs, rfl, hs, _, hall⟩ := hv.agg_inv g1 (c.agree.2 _ _ hget)
  obtain ⟨u0, e0, r0, _⟩ := hall 0 (by omega)
  obtain ⟨u1, e1, r1, _⟩ := hall 1 (by omega)
  obtain ⟨u2, e2, r2, _⟩ := hall 2 (by omega)
  obtain ⟨jt, lo, hi, q1, q2, q3, q4, q5, q6, rfl⟩ := r0.ostr_inv g4
  obtain ⟨_, _, p3⟩ := os_parts jt lo hi q1 q2
  rw [q6, p3] at g5 g6 g8 g9 h9
  have g5 := Nat.le_of_ble_eq_true g5
  have g6 := (ltb_iff _ _).1 g6
  obtain ⟨jv, lo2, hi2, q7, q8, _, _, q9, rfl⟩ := r1.var_inv (Nat.eq_of_beq_eq_true g7)
  obtain ⟨_, _, v3⟩ := v_parts jv lo2 hi2 q7 q8
  rw [q9, v3] at g8
  have g8 := Nat.eq_of_beq_eq_true g8
  have es : Nat.sub jt 1000 = jt - 1000 := rfl
  have ea : pvIx (Nat.add 36 (Nat.sub jt 1000)) = pvIx (36 + (jt - 1000)) := rfl
  rw [ea] at g8
  rw [es] at g9 h9
  obtain ⟨j, rfl⟩ : ∃ j, jt = 1000 + j := ⟨jt - 1000, by omega⟩
  have ej : 1000 + j - 1000 = j := by omega
  rw [ej] at g8 g9 h9
  subst g8
  have hj : j < 8 := by omega
  have hsz : (E.txt (1000 + j)).size < 9223372036854775808 := by
    have := (E.wf (txtIx (1000 + j))).2
    rw [q5] at this; omega
  obtain ⟨a, len, cap, rfl, hrow, hl1, hl2⟩ := hco _ _ _ r2 hj g9
  refine ⟨j, a, len, cap, hj, h9, ?_, hrow, hsz, hl1, hl2⟩
  refine congrArg Value.agg ?_
  apply Array.ext_getElem?
  intro i
  match i with
  | 0 => rw [e0]; rfl
  | 1 => rw [e1]; rfl
  | 2 => rw [e2]; rfl
  | i + 3 => rw [Array.getElem?_eq_none (by omega), Array.getElem?_eq_none (by simp)]

theorem isI64_inv (c : Ctx base H n ρ L w) {x : Nat} {v : Value} (hv : VR ρ L x v) (h : isI64 x = true) : ∃ z, v = .int .i64 z ∧ -9223372036854775808 ≤ z ∧ z < 9223372036854775808 := by
  unfold isI64 at h
  rw [sel_beq] at h
  split at h
  · rename_i h1
    obtain ⟨p, hp, _, _, rfl⟩ := hv.int_inv h1
    refine ⟨_, rfl, ?_, ?_⟩ <;> unfold sInt <;> split <;> omega
  · rw [sel_beq] at h
    split at h
    · rename_i h1
      obtain ⟨j, _, _, _, _, _, _, _, rfl⟩ := hv.var_inv h1
      exact ⟨_, rfl, E.wf j⟩
    · rw [sel_beq] at h
      split at h
      · rename_i h1
        obtain ⟨t, u, z, k1, k2, k3, _, _, _, rfl⟩ := hv.btw_inv h1
        exact ⟨z, rfl, by omega, by omega⟩
      · rw [sel_beq] at h
        split at h
        · rename_i h1
          obtain ⟨p, q, s, d, lo, hi, z, hL, hz, rfl⟩ := hv.poly_inv h1 (Nat.eq_of_beq_eq_true h)
          have a1 := hz.low
          have a2 := hz.high
          have a3 := hz.hi_lt
          exact ⟨z, rfl, by omega, by omega⟩
        · cases h

theorem sumsS_sound {R : Nat → Nat → Nat} {fSz fIn fOf fGcd : Nat} (K : SumK P fSz fIn fOf fGcd) (hE : SumE zs)
    (hR : ∀ j lw, j < 8 → R j lw ≠ 0 → ∀ (ρ : Rho) (L : Look) (v : Value), VR ρ L lw v → ∃ z, v = .int .i64 z ∧ 0 ≤ z ∧ z ≤ 1048576 ∧ VR ρ L (R j lw) (.int .i64 (szZ z (E.txt (1000 + j)).size (zs (16 + j)).length))) : SumS P (sumsS R fSz fIn fOf fGcd) := by
  intro base H n ρ L w f args vs v H' n' cs c ha h
  unfold sumsS at h
  rw [sel_beq, sel_beq, sel_beq, sel_beq] at h
  generalize hvs : vs.toList = l at ha
  split at h
  · rename_i hf
    subst hf
    split at h
    rotate_left
    · cases h
    rename_i x y
    rcases ha with _ | ⟨_, v1, _, vs1, hr1, ha1⟩
    rcases ha1 with _ | ⟨_, v2, _, vs2, hr2, ha2⟩
    cases ha2
    have hvv : vs = #[v1, v2] := by cases vs; simp_all
    subst hvv
    obtain ⟨g1, h2⟩ := gd_inv h
    obtain ⟨g2, h3⟩ := gd_inv h2
    clear h h2
    obtain rfl := Nat.eq_of_beq_eq_true g1
    obtain ⟨z, rfl, z1, z2⟩ := isI64_inv c hr1 g2
    obtain ⟨q, _, hq, hqp, rfl⟩ := hr2.int_inv (by rfl)
    have hq1 : q = 1 := by
      have : payOf 17 = q := hqp
      rw [← this]; rfl
    subst hq1
    injection h3 with h3
    injection h3 with e1 e2 e3
    subst e1; subst e2; subst e3
    obtain ⟨e, W, ⟨he, hW⟩, hcall⟩ := calls_at (K.gcd w z z1 z2) cs
    subst he
    exact ⟨ρ, L, _, _, c.later hW, .refl _ _, hW.mono c.sim.bs, .refl _ _ _ _, Nat.le_refl _, VR.small 1 (by decide), K.kGcd, hcall⟩
  · split at h
    · rename_i hf
      subst hf
      split at h
      rotate_left
      · cases h
      rename_i s
      rcases ha with _ | ⟨_, v1, _, vs1, hr1, ha1⟩
      cases ha1
      have hvv : vs = #[v1] := by cases vs; simp_all
      subst hvv
      obtain ⟨j, a, len, cap, hj, h, rfl, hrow, hsz, hl1, hl2⟩ := nsW_inv hE c (Q := fun j a len cap => RowH w a len cap (zs (16 + j))) (fun e j u hu hj hh => rowH_of hE c hu hj hh) hr1 h
      injection h with h
      injection h with e1 e2 e3
      subst e1; subst e2; subst e3
      obtain ⟨e, W, ⟨he, hW⟩, hcall⟩ := calls_at (K.inn w _ _ a len cap _ hsz (E.wf _) hrow (hE.no j hj)) cs
      subst he
      exact ⟨ρ, L, _, _, c.later hW, .refl _ _, hW.mono c.sim.bs, .refl _ _ _ _, Nat.le_refl _, VR.bool false, K.kIn, hcall⟩
    · split at h
      · rename_i hf
        subst hf
        split at h
        rotate_left
        · cases h
        rename_i s
        rcases ha with _ | ⟨_, v1, _, vs1, hr1, ha1⟩
        cases ha1
        have hvv : vs = #[v1] := by cases vs; simp_all
        subst hvv
        obtain ⟨j, a, len, cap, hj, h, rfl, hrow, hsz, hl1, hl2⟩ := nsW_inv hE c (Q := fun j a len cap => RowH w a len cap (zs (16 + j))) (fun e j u hu hj hh => rowH_of hE c hu hj hh) hr1 h
        obtain ⟨g2, h⟩ := gd_inv h
        injection h with h
        injection h with e1 e2 e3
        subst e1; subst e2; subst e3
        have g2 : n + 1 < 16384 := (ltb_iff _ _).1 g2
        obtain ⟨e, W, ⟨he, hW⟩, hcall⟩ := calls_at (K.off w _ _ a len cap _ hsz (E.wf _) hrow (hE.no j hj)) cs
        subst he
        have cW := c.later hW
        have c1 : Ctx base (hset H n (.box 0 3 (listW [375, 1, sNil]))) (n + 1) ρ (upd L n (.box 0 3 (listW [375, 1, sNil]))) W := ⟨cW.sim.box cW.fresh _ _ _, cW.agree.hset (by omega) _, cW.fresh.updL _⟩
        have e1 : Ext ρ L ρ (upd L n (.box 0 3 (listW [375, 1, sNil]))) := .freshL c.fresh _
        have c2 : Ctx base (hset (hset H n (.box 0 3 (listW [375, 1, sNil]))) (n + 1) (.box 1 2 (listW [mk 6 n, 2]))) (n + 1 + 1) ρ (upd (upd L n (.box 0 3 (listW [375, 1, sNil]))) (n + 1) (.box 1 2 (listW [mk 6 n, 2]))) W := ⟨c1.sim.box c1.fresh _ _ _, c1.agree.hset g2 _, c1.fresh.updL _⟩
        have e2 := Ext.freshL c1.fresh (.box 1 2 (listW [mk 6 n, 2]))
        have hsl : allSlot [375, 1, sNil] = true := by decide
        have hvn : VR ρ (upd L n (.box 0 3 (listW [375, 1, sNil]))) (mk 6 n) (.agg #[.string ⟨#[]⟩, .int .i64 0, .slice none 0 0]) := by
          have hl3 := listW_lt [375, 1, sNil] hsl
          rw [show ([375, 1, sNil] : List Nat).length = 3 from rfl] at hl3
          refine .agg n 3 _ _ (upd_same _ _ _) rfl (fun i hi => ?_) hl3 (fun i hi => ?_)
          · rw [getW_listW _ hsl]
            match i, hi with
            | 0, _ => exact VR.str ⟨#[]⟩
            | 1, _ => exact VR.small 0 (by decide)
            | 2, _ => exact .sliceNil
          · rw [getW_listW _ hsl]
            match i, hi with
            | 0, _ => decide
            | 1, _ => decide
            | 2, _ => decide
        have hsl2 : allSlot [mk 6 n, 2] = true := allSlot_of _ (by
          intro x hx
          rcases List.mem_cons.1 hx with rfl | hx
          · show 16 * n + 6 < _; omega
          · rcases List.mem_cons.1 hx with rfl | hx
            · decide
            · cases hx)
        refine ⟨ρ, _, W, _, c2, e1.trans e2, hW.mono c.sim.bs, Loc.trans (H1 := hset H n (.box 0 3 (listW [375, 1, sNil]))) (.freshL _) (Nat.le_succ _) (.freshL _), by omega, ?_, K.kOf, hcall⟩
        refine .tup (n + 1) 2 _ _ (upd_same _ _ _) rfl fun i hi => ?_
        rw [getW_listW _ hsl2]
        match i, hi with
        | 0, _ => exact hvn.mono e2
        | 1, _ => exact VR.bool false
      · split at h
        · rename_i hf
          subst hf
          split at h
          rotate_left
          · cases h
          rename_i s z
          rcases ha with _ | ⟨_, v1, _, vs1, hr1, ha1⟩
          rcases ha1 with _ | ⟨_, v2, _, vs2, hr2, ha2⟩
          cases ha2
          have hvv : vs = #[v1, v2] := by cases vs; simp_all
          subst hvv
          obtain ⟨j, a, len, cap, hj, h, rfl, hrow, hsz, hl1, hl2⟩ := nsW_inv hE c (Q := fun _ _ _ _ => True) (fun e j u hu hj hh => len_of hE hu hj hh) hr1 h
          obtain ⟨g, h⟩ := gd_inv h
          injection h with h
          injection h with e1 e2 e3
          subst e1; subst e2; subst e3
          have hr0 : R j z ≠ 0 := by
            intro h0
            rw [h0] at g; cases g
          obtain ⟨zz, rfl, z1, z2, hz⟩ := hR j z hj hr0 ρ L _ hr2
          obtain ⟨e, W, ⟨he, hW⟩, hcall⟩ := calls_at (K.sz w _ _ a len cap zz hsz hl2 z1 z2) cs
          subst he
          rw [hl1] at hz
          exact ⟨ρ, L, _, _, c.later hW, .refl _ _, hW.mono c.sim.bs, .refl _ _ _ _, Nat.le_refl _, hz, K.kSz, hcall⟩
        · cases h
end
end Go.Eng

/- Laws on sums: rows between bounds; what is no sum, class by class. -/
namespace Go.Eng
set_option linter.unusedSectionVars false
set_option linter.unusedSimpArgs false
set_option linter.unusedVariables false
open Go Go.RowKit

noncomputable section
/-- variables from o on, each between its bounds -/
def rowW (bs : List (Nat × Nat)) : Nat → List Nat := List.rec (motive := fun _ => Nat → List Nat) (fun _ => []) (fun b _ ih o => wV (pvIx o) b.1 b.2 :: ih (Nat.succ o)) bs
/-- from -1000000 to 1000000, below, above, whatever -/
def bIn : Nat × Nat := (549754813888, 549756813888)
def bLow : Nat × Nat := (0, 549754813887)
def bUp : Nat × Nat := (549756813889, 0)
def bAll : Nat × Nat := (0, 0)
def repB (b : Nat × Nat) (n : Nat) : List (Nat × Nat) := Nat.rec [] (fun _ ih => b :: ih) n
/-- the first p in range, then one that isn't -/
def badB (n p : Nat) (up : Bool) : List (Nat × Nat) := repB bIn p ++ (sel2 up bUp bLow :: repB bAll (Nat.sub n (Nat.succ p)))
where sel2 (b : Bool) (x y : Nat × Nat) : Nat × Nat := Bool.rec (motive := fun _ => Nat × Nat) y x b
end
def FitsB (b : Nat × Nat) (z : Int) : Prop := (b.1 = 0 ∨ (b.1 : Int) - 549755813888 ≤ z) ∧ (b.2 = 0 ∨ z ≤ (b.2 : Int) - 549755813888)
def okB (b : Nat × Nat) : Prop := b.1 < 1099511627776 ∧ b.2 < 1099511627776
theorem rowW_len : ∀ (bs : List (Nat × Nat)) (o : Nat), (rowW bs o).length = bs.length
  | [], _ => rfl
  | b :: bs, o => by
    have e : rowW (b :: bs) o = wV (pvIx o) b.1 b.2 :: rowW bs (o + 1) := rfl
    rw [e, List.length_cons, List.length_cons, rowW_len bs]
theorem rowW_get : ∀ (bs : List (Nat × Nat)) (o r : Nat), r < bs.length → (rowW bs o).getD r 0 = wV (pvIx (o + r)) (bs.getD r bAll).1 (bs.getD r bAll).2
  | [], _, r, h => absurd h (by simp)
  | b :: bs, o, 0, _ => rfl
  | b :: bs, o, r + 1, h => by
    have e : rowW (b :: bs) o = wV (pvIx o) b.1 b.2 :: rowW bs (o + 1) := rfl
    rw [e, List.getD_cons_succ, List.getD_cons_succ, rowW_get bs (o + 1) r (by simpa using h), show o + 1 + r = o + (r + 1) from by omega]
theorem getD_mem {bs : List (Nat × Nat)} {r : Nat} (h : r < bs.length) : bs.getD r bAll ∈ bs := by
  rw [List.getD_eq_getElem?_getD, List.getElem?_eq_getElem h]; exact List.getElem_mem h
theorem wV_slot {i lo hi : Nat} (h : i < 1048576) (h1 : lo < 1099511627776) (h2 : hi < 1099511627776) : wV (pvIx i) lo hi < 2 ^ 128 := by
  show 16 * (1099511627776 * (1099511627776 * (2199023255552 + i) + lo) + hi) + 12 < _
  omega
theorem rowW_slot {bs : List (Nat × Nat)} {o : Nat} (ho : o + bs.length < 1048576) (hb : ∀ b ∈ bs, okB b) : allSlot (rowW bs o) = true := by
  letI : Env := noEnv
  refine allSlot_of _ fun x hx => ?_
  obtain ⟨r, hr, rfl⟩ := List.mem_iff_getElem.1 hx
  rw [rowW_len] at hr
  have := rowW_get bs o r hr
  rw [List.getD_eq_getElem?_getD, List.getElem?_eq_getElem (by rw [rowW_len]; exact hr)] at this
  simp only [Option.getD_some] at this
  rw [this]
  exact wV_slot (by omega) (hb _ (getD_mem hr)).1 (hb _ (getD_mem hr)).2

section
variable [E : Env]
variable {H : Trie} {n : Nat} {ρ : Rho} {L : Look} {w : World}

/-- A row that came in, each number between its bounds. -/
theorem put_row {o len cap : Nat} {a : Option Addr} {l : List Int} {bs : List (Nat × Nat)} (c : Ctx w.heap.size H n ρ L w) (hn : n < 16384) (h : RowH w a len cap l) (hl : 0 < l.length) (hlen : l.length < 1048576) (ho : o < 1000) (hbl : bs.length = l.length)
    (hb : ∀ b ∈ bs, okB b) (hz : ∀ i, i < bs.length → FitsB (bs.getD i bAll) (nth l i)) (hv : ∀ i, i < l.length → E.int (pvIx (o + i)) = nth l i) (hs : l.length < 1000000) :
    ∃ ρ' L', Ctx w.heap.size (hset H n (.cells bs.length (listW (rowW bs o)) 0 0 0 0)) (n + 1) ρ' L' w ∧ Ext ρ L ρ' L' ∧ VR ρ' L' (wS n 1 0 bs.length 0) (.slice a len cap) := by
  rcases h with ⟨rfl, rfl, rfl, rfl⟩ | ⟨x, rfl, rfl, rfl, rfl⟩ | ⟨rb, d, cs, ty, fz, rfl, hh, hsz, hle, hcap, hll, h0, hall, hwf⟩
  · simp at hl
  · simp at hl
  have hrb : rb < w.heap.size := (Array.getElem?_eq_some_iff.1 hh).1
  have hso := rowW_slot (bs := bs) (o := o) (by omega) hb
  refine ⟨_, _, c.arg (nb := bs.length) (ch := listW (rowW bs o)) (sz := cap) (d := d) hn hh hrb hsz (by omega) (fun i hi => ?_), .fresh c.fresh _ _, ?_⟩
  · refine ⟨_, hall i (by omega), ?_⟩
    rw [getW_listW _ hso, rowW_get bs o i hi]
    have hbi := hb _ (getD_mem hi)
    have hzi := hz i hi
    have hvi := hv i (by omega)
    refine ⟨?_, ?_⟩
    · rw [← hvi] at hzi ⊢
      exact .var _ _ _ hbi.1 hbi.2 hzi.1 hzi.2
    · rw [storable_iff, tag_wV]
      exact ⟨by decide, by decide, by decide, wV_slot (by omega) hbi.1 hbi.2⟩
  · have hbl2 : bs.length = len := by omega
    rw [hbl2]
    exact .slice n 1 0 len 0 rb d cap cap _ (updR_same _ _ _) (by omega) (by omega) (by omega) (by omega) hle hcap (.inl rfl) (.inr ⟨rfl, by omega⟩)

/-- A list that came in whose elements are not known. -/
theorem put_opq {j len cap lo hi : Nat} {a : Option Addr} {l : List Int} (c : Ctx w.heap.size H n ρ L w) (hn : n < 16384) (hj : j < 1048576) (h : RowH w a len cap l) (hl : 0 < l.length)
    (he : E.lst j = l.map (Value.int .i64)) (hlo : lo < 4194304) (hhi : hi < 4194304) (h1 : lo ≤ l.length) (h2 : hi = 0 ∨ l.length ≤ hi) :
    ∃ ρ' L', Ctx w.heap.size (hset H n (.opq j 1)) (n + 1) ρ' L' w ∧ Ext ρ L ρ' L' ∧ VR ρ' L' (wO n j lo hi) (.slice a len cap) := by
  rcases h with ⟨rfl, rfl, rfl, rfl⟩ | ⟨x, rfl, rfl, rfl, rfl⟩ | ⟨rb, d, cs, ty, fz, rfl, hh, hsz, hle, hcap, hll, h0, hall, hwf⟩
  · simp at hl
  · simp at hl
  have hrb : rb < w.heap.size := (Array.getElem?_eq_some_iff.1 hh).1
  have hel : (E.lst j).length = len := by rw [he, List.length_map, hll]
  refine ⟨_, _, c.opq (j := j) (sz := cap) (d := d) hn hh hrb hsz (by omega) (fun i hi => by
    rw [hall i (by omega), he, List.getElem?_map, List.getElem?_eq_getElem (by omega)]
    have hi3 : i < l.length := by omega
    simp [nth, List.getD_eq_getElem?_getD, hi3]), .fresh c.fresh _ _, ?_⟩
  have := VR.opq (ρ := updR ρ n (rb, d, cap)) (L := upd L n (.opq j 1)) n j lo hi rb d cap cap (updR_same _ _ _) hj hlo hhi (by rw [hel]; omega) (by rw [hel]; omega) (by rw [hel]; exact hle) (Nat.le_refl _) hcap
  rw [hel] at this
  exact this

/-- A struct of a text, an int and a slice. -/
theorem put_agg {x y z : Nat} {s : ByteArray} {d : Int} {v : Value} {base : Nat} (c : Ctx base H n ρ L w) (hn : n < 16384) (h0 : VR ρ L x (.string s)) (h1 : VR ρ L y (.int .i64 d)) (h2 : VR ρ L z v) (s0 : storable x = true) (s1 : storable y = true) (s2 : storable z = true) :
    ∃ L', Ctx base (hset H n (.box 0 3 (listW [x, y, z]))) (n + 1) ρ L' w ∧ Ext ρ L ρ L' ∧ VR ρ L' (mk 6 n) (.agg #[.string s, .int .i64 d, v]) := by
  have e : Ext ρ L ρ (upd L n (.box 0 3 (listW [x, y, z]))) := .freshL c.fresh _
  have hlt : ∀ q, storable q = true → q < 2 ^ 128 := fun q hq => ((storable_iff q).1 hq).2.2.2
  have hsl : allSlot [x, y, z] = true := allSlot_of _ (by
    intro q hq
    simp at hq
    rcases hq with rfl | rfl | rfl
    · exact hlt _ s0
    · exact hlt _ s1
    · exact hlt _ s2)
  refine ⟨_, ⟨c.sim.box c.fresh _ _ _, c.agree.hset hn _, c.fresh.updL _⟩, e, ?_⟩
  have hl3 := listW_lt [x, y, z] hsl
  rw [show ([x, y, z] : List Nat).length = 3 from rfl] at hl3
  refine .agg n 3 _ _ (upd_same _ _ _) rfl (fun i hi => ?_) hl3 (fun i hi => ?_)
  · rw [getW_listW _ hsl]
    match i, hi with
    | 0, _ => exact h0.mono e
    | 1, _ => exact h1.mono e
    | 2, _ => exact h2.mono e
  · rw [getW_listW _ hsl]
    match i, hi with
    | 0, _ => exact s0
    | 1, _ => exact s1
    | 2, _ => exact s2
end

/-! ### the surroundings -/
theorem wf_of_nth {l : List Int} (h : ∀ x ∈ l, -9223372036854775808 ≤ x ∧ x < 9223372036854775808) (i : Nat) : -9223372036854775808 ≤ nth l i ∧ nth l i < 9223372036854775808 := by
  unfold nth
  by_cases hi : i < l.length
  · rw [List.getD_eq_getElem?_getD, List.getElem?_eq_getElem hi]; exact h _ (List.getElem_mem hi)
  · rw [List.getD_eq_getElem?_getD, List.getElem?_eq_none (by omega)]; simp
def nsOf (A C : Nat → Int) (tx : Nat → ByteArray) : Nat → Int := fun x => if x < 1000 then A x else if x < 2199023255552 then ((tx (x - 1099512676352)).size : Int) else C (x - 2199023255552)
theorem nsOf_wf {A C : Nat → Int} {tx : Nat → ByteArray} (hA : ∀ j, -9223372036854775808 ≤ A j ∧ A j < 9223372036854775808) (hC : ∀ j, -9223372036854775808 ≤ C j ∧ C j < 9223372036854775808) (ht : ∀ j, (tx j).size < 9223372036854775808) (j : Nat) :
    -9223372036854775808 ≤ nsOf A C tx j ∧ nsOf A C tx j < 9223372036854775808 := by
  unfold nsOf
  split
  · exact hA j
  · split
    · have := ht (j - 1099512676352); omega
    · exact hC _
@[reducible] noncomputable def sEnv (A C : Nat → Int) (tx : Nat → ByteArray) (zs : Nat → List Int) (hA : ∀ j, -9223372036854775808 ≤ A j ∧ A j < 9223372036854775808) (hC : ∀ j, -9223372036854775808 ≤ C j ∧ C j < 9223372036854775808)
    (ht : ∀ j, (tx j).size < 9223372036854775808) (htx : ∀ j, j < 1000 → inT knownT (strW (tx j)) = false) (hz : ∀ j, (zs j).length < 9223372036854775808) : Env := argEnvT zs hz (nsOf A C tx) (nsOf_wf hA hC ht) tx htx
section
variable {A C : Nat → Int} {tx : Nat → ByteArray} {zs : Nat → List Int} {hA : ∀ j, -9223372036854775808 ≤ A j ∧ A j < 9223372036854775808} {hC : ∀ j, -9223372036854775808 ≤ C j ∧ C j < 9223372036854775808}
    {ht : ∀ j, (tx j).size < 9223372036854775808} {htx : ∀ j, j < 1000 → inT knownT (strW (tx j)) = false} {hz : ∀ j, (zs j).length < 9223372036854775808}
theorem sEnv_int {j : Nat} (h : j < 1000) : (sEnv A C tx zs hA hC ht htx hz).int j = A j := by
  show (if 1099511627776 ≤ j ∧ j < 1099511627776 + 1048576 then _ else nsOf A C tx j) = _
  rw [if_neg (by omega)]; unfold nsOf; rw [if_pos h]
theorem sEnv_txt {j : Nat} (h : j < 1000000) : (sEnv A C tx zs hA hC ht htx hz).int (txtIx j) = ((tx j).size : Int) := by
  have e : txtIx j = 1099512676352 + j := rfl
  show (if 1099511627776 ≤ txtIx j ∧ txtIx j < 1099511627776 + 1048576 then _ else nsOf A C tx (txtIx j)) = _
  rw [e, if_neg (by omega)]; unfold nsOf; rw [if_neg (by omega), if_pos (by omega), show 1099512676352 + j - 1099512676352 = j from by omega]
theorem sEnv_pv (i : Nat) : (sEnv A C tx zs hA hC ht htx hz).int (pvIx i) = C i := by
  have e : pvIx i = 2199023255552 + i := rfl
  show (if 1099511627776 ≤ pvIx i ∧ pvIx i < 1099511627776 + 1048576 then _ else nsOf A C tx (pvIx i)) = _
  rw [e, if_neg (by omega)]; unfold nsOf; rw [if_neg (by omega), if_neg (by omega), show 2199023255552 + i - 2199023255552 = i from by omega]
theorem sEnv_lst {j : Nat} (h : j < 1000) : (sEnv A C tx zs hA hC ht htx hz).lst j = (zs j).map (Value.int .i64) := listL_lst _ j h
theorem sEnv_tx (j : Nat) : (sEnv A C tx zs hA hC ht htx hz).txt j = tx j := rfl
end

/-! ### what is no sum, class by class -/
/-- the numbers: nil, no room, too few, too many, so many with one out of range, whatever -/
inductive CoC where
  | nil
  | zero
  | less (n : Nat)
  | more (n : Nat)
  | bad (n p : Nat) (up : Bool)
  | any
noncomputable section
def CoC.word (c : CoC) : Nat := CoC.rec (motive := fun _ => Nat) sNil 14 (fun n => wO 0 16 1 (Nat.pred n)) (fun n => wO 0 16 (Nat.succ n) 0) (fun n p up => wS 0 1 0 (badB n p up).length 0) (wO 0 16 1 0) c
def CoC.heap (c : CoC) : Trie := CoC.rec (motive := fun _ => Trie) .nil .nil (fun n => hset .nil 0 (.opq 16 1)) (fun n => hset .nil 0 (.opq 16 1)) (fun n p up => hset .nil 0 (.cells (badB n p up).length (listW (rowW (badB n p up) 8)) 0 0 0 0)) (hset .nil 0 (.opq 16 1)) c
def CoC.Fits (c : CoC) (a : Option Addr) (cap : Nat) (l : List Int) : Prop :=
  CoC.rec (motive := fun _ => Prop) (a = none ∧ cap = 0 ∧ l = []) (a ≠ none ∧ cap = 0 ∧ l = []) (fun n => 1 ≤ l.length ∧ l.length < n ∧ n < 1000) (fun n => n < l.length ∧ n < 1000)
    (fun n p up => l.length = n ∧ p < n ∧ n < 1000 ∧ (∀ i, i < p → -1000000 ≤ nth l i ∧ nth l i ≤ 1000000) ∧ if up then 1000000 < nth l p else nth l p < -1000000) (1 ≤ l.length) c
/-- a call with what is no sum -/
def noRun (P : Program) (S0 : Sums) (fuel d f : Nat) (x y : Nat) (co : CoC) : OR := funE P (callN P S0 fuel d) fuel f [mk 6 1] (hset co.heap 1 (.box 0 3 (listW [x, y, co.word]))) 2
def isNo (r : OR) : Bool := match r with | .ok v _ _ => Nat.beq v 2 | .bad _ => false
/-- the sum that is none -/
def isNone (r : OR) : Bool := match r with
  | .ok v H _ => sel (Nat.beq (tagOf v) 6) (match tget H (payOf v) with
      | some (.box kd m c) => sel (sel (Nat.beq kd 1) (sel (Nat.beq m 2) (sel (Nat.beq (getW c 1) 2) (Nat.beq (tagOf (getW c 0)) 6) false) false) false) (match tget H (payOf (getW c 0)) with
        | some (.box kd m c) => sel (Nat.beq kd 0) (sel (Nat.beq m 3) (sel (Nat.beq (getW c 0) 375) (sel (Nat.beq (getW c 1) 1) (Nat.beq (getW c 2) sNil) false) false) false) false
        | _ => false) false
      | _ => false) false
  | .bad _ => false
def coAny : List CoC := [.nil, .zero, .any]
end


noncomputable section
def bads (n m : Nat) : List CoC := Nat.rec (motive := fun _ => List CoC) [] (fun m ih => .bad n m false :: .bad n m true :: ih) m
def coOf (n : Nat) : List CoC := .nil :: .zero :: .more n :: (Bool.rec (motive := fun _ => List CoC) (bads n n) (.less n :: bads n n) (ltb 1 n))
def allBo {α : Type} (g : α → Bool) (l : List α) : Bool := List.rec (motive := fun _ => Bool) true (fun x _ ih => sel (g x) ih false) l
def ways5 : List Nat := [23671, 23159, 23351, 23863, 24055]
def degs7 : List Nat := [0, 1, 2, 3, 4, 5, 6]
end
theorem allBo_all {α : Type} {g : α → Bool} : ∀ {l : List α}, allBo g l = true → ∀ x ∈ l, g x = true
  | y :: l, h, x, hx => by
    have e : allBo g (y :: l) = sel (g y) (allBo g l) false := rfl
    rw [e, sel_eq] at h
    split at h
    · rename_i h1
      rcases List.mem_cons.1 hx with rfl | hx
      · exact h1
      · exact allBo_all h x hx
    · cases h
theorem bads_mem {n p : Nat} (b : Bool) : ∀ {m : Nat}, p < m → CoC.bad n p b ∈ bads n m
  | 0, h => by omega
  | m + 1, h => by
    have e : bads n (m + 1) = .bad n m false :: .bad n m true :: bads n m := rfl
    rw [e]
    by_cases hp : p = m
    · subst hp
      cases b <;> simp
    · have := bads_mem (n := n) b (m := m) (p := p) (by omega)
      simp [this]
theorem coOf_bad {n p : Nat} (b : Bool) (h : p < n) : CoC.bad n p b ∈ coOf n := by
  have := bads_mem (n := n) b h
  unfold coOf
  cases ltb 1 n <;> simp [this]
theorem coOf_less {n : Nat} (h : 1 < n) : CoC.less n ∈ coOf n := by
  have e : ltb 1 n = true := (ltb_iff _ _).2 h
  unfold coOf
  rw [e]; simp
theorem coOf_more {n : Nat} : CoC.more n ∈ coOf n := by
  unfold coOf
  cases ltb 1 n <;> simp
theorem coOf_nil {n : Nat} : CoC.nil ∈ coOf n := by
  unfold coOf
  cases ltb 1 n <;> simp
theorem coOf_zero {n : Nat} : CoC.zero ∈ coOf n := by
  unfold coOf
  cases ltb 1 n <;> simp

theorem repB_len (b : Nat × Nat) : ∀ n, (repB b n).length = n
  | 0 => rfl
  | n + 1 => by
    have e : repB b (n + 1) = b :: repB b n := rfl
    rw [e, List.length_cons, repB_len b n]
theorem repB_get (b : Nat × Nat) : ∀ n i, i < n → (repB b n).getD i bAll = b
  | 0, i, h => by omega
  | n + 1, 0, h => rfl
  | n + 1, i + 1, h => by
    have e : repB b (n + 1) = b :: repB b n := rfl
    rw [e, List.getD_cons_succ]
    exact repB_get b n i (by omega)
theorem repB_mem {b c : Nat × Nat} : ∀ {n : Nat}, c ∈ repB b n → c = b
  | 0, h => by cases h
  | n + 1, h => by
    have e : repB b (n + 1) = b :: repB b n := rfl
    rw [e] at h
    rcases List.mem_cons.1 h with h | h
    · exact h
    · exact repB_mem h
theorem badB_len {n p : Nat} {up : Bool} (h : p < n) : (badB n p up).length = n := by
  unfold badB
  rw [List.length_append, List.length_cons, repB_len, repB_len]
  have : Nat.sub n (Nat.succ p) = n - (p + 1) := rfl
  omega
theorem fits_in {z : Int} (h : -1000000 ≤ z ∧ z ≤ 1000000) : FitsB bIn z := by
  refine ⟨.inr ?_, .inr ?_⟩ <;> show _ ≤ _ <;> simp only [bIn] <;> omega
theorem badB_fits {n p : Nat} {up : Bool} {l : List Int} (hp : p < n) (h1 : ∀ i, i < p → -1000000 ≤ nth l i ∧ nth l i ≤ 1000000) (h2 : if up then 1000000 < nth l p else nth l p < -1000000) (i : Nat) (h : i < (badB n p up).length) : FitsB ((badB n p up).getD i bAll) (nth l i) := by
  rw [badB_len hp] at h
  have e : badB n p up = repB bIn p ++ badB.sel2 up bUp bLow :: repB bAll (Nat.sub n (Nat.succ p)) := rfl
  rw [e, List.getD_eq_getElem?_getD, List.getElem?_append, repB_len]
  by_cases hi : i < p
  · rw [if_pos hi, ← List.getD_eq_getElem?_getD, repB_get _ _ _ hi]
    exact fits_in (h1 i hi)
  · rw [if_neg hi]
    by_cases he : i = p
    · subst he
      rw [Nat.sub_self, List.getElem?_cons_zero]
      cases up with
      | true =>
        simp only [if_true] at h2
        exact ⟨.inr (by show ((549756813889 : Nat) : Int) - _ ≤ _; omega), .inl rfl⟩
      | false =>
        simp at h2
        exact ⟨.inl rfl, .inr (by show _ ≤ ((549754813887 : Nat) : Int) - _; omega)⟩
    · obtain ⟨q, hq⟩ : ∃ q, i - p = q + 1 := ⟨i - p - 1, by omega⟩
      have e2 : Nat.sub n (Nat.succ p) = n - (p + 1) := rfl
      rw [hq, List.getElem?_cons_succ, ← List.getD_eq_getElem?_getD, repB_get _ _ _ (by omega)]
      exact ⟨.inl rfl, .inl rfl⟩
theorem badB_ok {n p : Nat} {up : Bool} : ∀ b ∈ badB n p up, okB b := by
  intro b hb
  unfold badB at hb
  rcases List.mem_append.1 hb with hb | hb
  · rw [repB_mem hb]; exact ⟨by decide, by decide⟩
  · rcases List.mem_cons.1 hb with rfl | hb
    · cases up
      · exact ⟨by decide, by decide⟩
      · exact ⟨by decide, by decide⟩
    · rw [repB_mem hb]; exact ⟨by decide, by decide⟩

theorem RowH.nil_of {w : World} {a : Option Addr} {len cap : Nat} {l : List Int} (h : RowH w a len cap l) (hl : l = []) : (a = none ∧ cap = 0 ∧ len = 0) ∨ (∃ x, a = some x ∧ cap = 0 ∧ len = 0) := by
  rcases h with ⟨rfl, rfl, rfl, rfl⟩ | ⟨x, rfl, rfl, rfl, rfl⟩ | ⟨rb, d, cs, ty, fz, rfl, hh, hsz, hle, hcap, hll, h0, hall, hwf⟩
  · exact .inl ⟨rfl, rfl, rfl⟩
  · exact .inr ⟨x, rfl, rfl, rfl⟩
  · subst hl
    simp at hll; omega
theorem RowH.wf {w : World} {a : Option Addr} {len cap : Nat} {l : List Int} (h : RowH w a len cap l) : (∀ x ∈ l, -9223372036854775808 ≤ x ∧ x < 9223372036854775808) ∧ l.length < 9223372036854775808 ∧ l.length = len := by
  rcases h with ⟨rfl, rfl, rfl, rfl⟩ | ⟨x, rfl, rfl, rfl, rfl⟩ | ⟨rb, d, cs, ty, fz, rfl, hh, hsz, hle, hcap, hll, h0, hall, hwf⟩
  · exact ⟨fun x hx => by simp at hx, by decide, rfl⟩
  · exact ⟨fun x hx => by simp at hx, by decide, rfl⟩
  · exact ⟨hwf, by omega, hll⟩

section
variable [E : Env]
theorem CoC.put {co : CoC} {w : World} (hkn : ∀ k o, E.kept k ≠ some o) {a : Option Addr} {len cap : Nat} {l : List Int} (h : RowH w a len cap l) (hf : co.Fits a cap l) (he : E.lst 16 = l.map (Value.int .i64)) (hv : ∀ i, i < 1000 → E.int (pvIx (8 + i)) = nth l i) :
    ∃ ρ L, Ctx w.heap.size co.heap 1 ρ L w ∧ VR ρ L co.word (.slice a len cap) ∧ storable co.word = true := by
  have c0 := Ctx.start (E := E) w (fun k o h => absurd h (hkn k o))
  have c1 : Ctx w.heap.size .nil 1 (fun _ => none) (fun _ => none) w := ⟨c0.sim, c0.agree, fun b _ => ⟨rfl, rfl⟩⟩
  have opq : ∀ lo hi : Nat, 0 < l.length → lo < 4194304 → hi < 4194304 → lo ≤ l.length → (hi = 0 ∨ l.length ≤ hi) → ∃ ρ L, Ctx w.heap.size (hset .nil 0 (.opq 16 1)) 1 ρ L w ∧ VR ρ L (wO 0 16 lo hi) (.slice a len cap) ∧ storable (wO 0 16 lo hi) = true := by
    intro lo hi hl hlo hhi h1 h2
    obtain ⟨ρ, L, c, _, hv⟩ := put_opq c0 (by omega) (j := 16) (by omega) h hl he hlo hhi h1 h2
    refine ⟨ρ, L, c, hv, ?_⟩
    rw [storable_iff, tag_wO]
    refine ⟨by decide, by decide, by decide, ?_⟩
    show 16 * (4194304 * (4194304 * (1048576 * 0 + 16) + lo) + hi) + 11 < _
    omega
  cases co with
  | nil =>
    obtain ⟨rfl, rfl, rfl⟩ := hf
    rcases h.nil_of rfl with ⟨_, _, rfl⟩ | ⟨x, h1, _⟩
    · exact ⟨_, _, c1, .sliceNil, by decide⟩
    · cases h1
  | zero =>
    obtain ⟨h0, rfl, rfl⟩ := hf
    rcases h.nil_of rfl with ⟨h1, _⟩ | ⟨x, rfl, _, rfl⟩
    · exact absurd h1 h0
    · exact ⟨_, _, c1, .sl0 x, by decide⟩
  | less n =>
    obtain ⟨h1, h2, h3⟩ := hf
    exact opq 1 (Nat.pred n) (by omega) (by omega) (by show n - 1 < _; omega) h1 (.inr (by show _ ≤ n - 1; omega))
  | more n =>
    obtain ⟨h1, h2⟩ := hf
    exact opq (Nat.succ n) 0 (by omega) (by omega) (by omega) (by omega) (.inl rfl)
  | any =>
    have h1 : 1 ≤ l.length := hf
    exact opq 1 0 (by omega) (by omega) (by omega) h1 (.inl rfl)
  | bad n p up =>
    obtain ⟨h1, h2, h3, h4, h5⟩ := hf
    have hbl : (badB n p up).length = n := badB_len h2
    obtain ⟨ρ, L, c, _, hv⟩ := put_row (o := 8) (bs := badB n p up) c0 (by omega) h (by omega) (by omega) (by omega) (by omega) badB_ok (fun i hi => badB_fits h2 h4 h5 i hi) (fun i hi => hv i (by omega)) (by omega)
    refine ⟨ρ, L, c, hv, ?_⟩
    show storable (wS 0 1 0 (badB n p up).length 0) = true
    rw [hbl, storable_iff, tag_wS]
    refine ⟨by decide, by decide, by decide, ?_⟩
    show 16 * (1048576 * (1048576 * (1048576 * (256 * (0 + 1) + 1) + 0) + 0) + n) + 4 < _
    omega
end

/-- What a run gives, out of a check of it. -/
theorem run_is {E : Env} {P : Program} {fuel d f base n : Nat} {args : List Nat} {vs : Array Value} {H : Trie} {ρ : Rho} {L : Look} {w : World} {g : OR → Bool} {V : Value}
    (hb : ∀ q, g (.bad q) = false) (hg : ∀ (v : Nat) (H' : Trie) (n' : Nat) (ρ' : Rho) (L' : Look) (w' : World) (x : Value), Ctx base H' n' ρ' L' w' → VR ρ' L' v x → g (.ok v H' n') = true → x = V)
    {S : Sums} (hS : SumS P S) (c : Ctx base H n ρ L w) (ha : AR ρ L args vs.toList) (h : g (funE P (callN P S fuel d) fuel f args H n) = true) :
    Calls P f vs w fun e w' => e = .returned V ∧ Below base w w' := by
  intro cs
  cases hr : funE P (callN P S fuel d) fuel f args H n with
  | bad q => rw [hr, hb] at h; cases h
  | ok v H' n' =>
    rw [hr] at h
    obtain ⟨ρ', L', w', x, hc', _, hbel, _, _, hx, _, hc⟩ := funE_sound (callN_sound P hS fuel d) cs c ha hr
    obtain rfl := hg v H' n' ρ' L' w' x hc' hx h
    obtain ⟨e, W, fr, ⟨h1, h2⟩, h3⟩ := hc
    subst h2
    exact ⟨e, W, fr, ⟨h1, hbel⟩, h3⟩
theorem isNo_ok {E : Env} {base : Nat} : ∀ (v : Nat) (H' : Trie) (n' : Nat) (ρ' : Rho) (L' : Look) (w' : World) (x : Value), Ctx base H' n' ρ' L' w' → VR ρ' L' v x → isNo (.ok v H' n') = true → x = .bool false := by
  intro v H' n' ρ' L' w' x _ hx h
  have h : v = 2 := Nat.eq_of_beq_eq_true h
  subst h
  exact hx.false_inv
theorem isNone_ok {E : Env} {base : Nat} : ∀ (v : Nat) (H' : Trie) (n' : Nat) (ρ' : Rho) (L' : Look) (w' : World) (x : Value), Ctx base H' n' ρ' L' w' → VR ρ' L' v x → isNone (.ok v H' n') = true → x = noSumV := by
  intro v H' n' ρ' L' w' x c hx h
  unfold isNone at h
  dsimp only at h
  rw [sel_beq] at h
  split at h
  rotate_left
  · cases h
  rename_i h6
  split at h
  rotate_left
  · cases h
  rename_i kd m cw hget
  rw [sel_eq] at h
  split at h
  rotate_left
  · cases h
  rename_i hc
  obtain ⟨k1, hc⟩ := sel_andB hc
  obtain ⟨k2, hc⟩ := sel_andB hc
  obtain ⟨k3, k4⟩ := sel_andB hc
  have k1 := Nat.eq_of_beq_eq_true k1
  have k2 := Nat.eq_of_beq_eq_true k2
  have k3 := Nat.eq_of_beq_eq_true k3
  have k4 := Nat.eq_of_beq_eq_true k4
  subst k1; subst k2
  split at h
  rotate_left
  · cases h
  rename_i kd m c2 hget2
  obtain ⟨j1, h⟩ := sel_andB h
  obtain ⟨j2, h⟩ := sel_andB h
  obtain ⟨j3, h⟩ := sel_andB h
  obtain ⟨j4, j5⟩ := sel_andB h
  have j1 := Nat.eq_of_beq_eq_true j1
  have j2 := Nat.eq_of_beq_eq_true j2
  have j3 := Nat.eq_of_beq_eq_true j3
  have j4 := Nat.eq_of_beq_eq_true j4
  have j5 := Nat.eq_of_beq_eq_true j5
  subst j1; subst j2
  have hL := c.agree.2 _ _ hget
  have hL2 := c.agree.2 _ _ hget2
  obtain ⟨id, kd, m, cc, vs, hv, hp, hLi, hk, hsz, hall⟩ := hx.box_inv h6
  rw [hp, hLi] at hL
  injection hL with hL
  injection hL with e1 e2 e3
  subst e1; subst e2; subst e3
  rcases hk with ⟨h0, _⟩ | ⟨_, rfl⟩
  · cases h0
  have r0 := hall 0 (by omega)
  have r1 := hall 1 (by omega)
  obtain ⟨us, hu, hs2, _, hall2⟩ := r0.agg_inv k4 hL2
  obtain ⟨u0, a0, b0, _⟩ := hall2 0 (by omega)
  obtain ⟨u1, a1, b1, _⟩ := hall2 1 (by omega)
  obtain ⟨u2, a2, b2, _⟩ := hall2 2 (by omega)
  rw [k3] at r1
  rw [j3] at b0
  rw [j4] at b1
  rw [j5] at b2
  have g1 := r1.false_inv
  have g2 : u0 = .string ⟨#[]⟩ := by
    obtain ⟨s, hs, rfl⟩ := b0.str_inv (by rfl)
    have : s = ⟨#[]⟩ := strW_inj (hs.symm.trans rfl)
    rw [this]
  have g3 : u1 = .int .i64 0 := by
    obtain ⟨p, _, _, hpp, rfl⟩ := b1.int_inv (by rfl)
    have : p = 0 := by rw [← hpp]; rfl
    subst this; rfl
  have g4 : u2 = .slice none 0 0 := by
    rcases b2.slice_inv (by rfl) with ⟨_, h2⟩ | ⟨b, e', o, n', k', rb, d, sz, c', a, h1, h2, h3, h4, h5, _, _, _, _, h6, _⟩
    · exact h2
    · obtain ⟨_, _, _, _, _, h7⟩ := s_parts b e' o n' k' h2 h3 h4 h5
      obtain ⟨_, _, _, _, _, h8⟩ := s_nil
      rw [← h6, h8] at h7
      omega
  have hus : us = #[.string ⟨#[]⟩, .int .i64 0, .slice none 0 0] := by
    apply Array.ext_getElem?
    intro i
    match i with
    | 0 => rw [a0, g2]; rfl
    | 1 => rw [a1, g3]; rfl
    | 2 => rw [a2, g4]; rfl
    | i + 3 => rw [Array.getElem?_eq_none (by omega), Array.getElem?_eq_none (by simp)]
  unfold noSumV
  congr 1
  apply Array.ext_getElem?
  intro i
  match i with
  | 0 => rw [Array.getElem?_eq_getElem (by omega), hu, hus]; rfl
  | 1 => rw [Array.getElem?_eq_getElem (by omega), g1]; rfl
  | i + 2 => rw [Array.getElem?_eq_none (by omega), Array.getElem?_eq_none (by simp)]

/-- ██ What is no sum, out of the runs on its classes. -/
theorem no_calls {P : Program} {S0 : Sums} (hS0 : Always P S0) {fuel dd f : Nat} {g : OR → Bool} {V : Value} (hb : ∀ q, g (.bad q) = false)
    (hg : ∀ (E : Env) (base v : Nat) (H' : Trie) (n' : Nat) (ρ' : Rho) (L' : Look) (w' : World) (x : Value), @Ctx E base H' n' ρ' L' w' → @VR E ρ' L' v x → g (.ok v H' n') = true → x = V)
    (h1 : ∀ x ∈ [375, ostrW 0 0 0], allBo (fun co => g (noRun P S0 fuel dd f x (wV 1 0 0) co)) coAny = true)
    (h2 : ∀ x ∈ ways5, ∀ y ∈ [wV 1 0 549755813887, wV 1 549755813895 0], allBo (fun co => g (noRun P S0 fuel dd f x y co)) coAny = true)
    (h3 : ∀ x ∈ ways5, ∀ e ∈ degs7, allBo (fun co => g (noRun P S0 fuel dd f x (wI e) co)) (coOf (npS e)) = true)
    (w : World) (s : ByteArray) (d : Int) (a : Option Addr) (len cap : Nat) (l : List Int) (hs : s.size < 9223372036854775808) (hd : -9223372036854775808 ≤ d ∧ d < 9223372036854775808) (hr : RowH w a len cap l) (hno : ¬ SumZ s d l) :
    Calls P f #[.agg #[.string s, .int .i64 d, .slice a len cap]] w fun e w' => e = .returned V ∧ Below w.heap.size w w' := by
  obtain ⟨hwf, hll, hlen⟩ := hr.wf
  obtain ⟨k0, hk0, f0⟩ := SCls.of_text s
  have ht : ∀ j : Nat, ((fun _ : Nat => k0.told s) j).size < 9223372036854775808 := fun _ => by
    cases k0 with
    | known k => exact (by decide : (1 : Nat) < 9223372036854775808)
    | other => exact hs
    | long => exact hs
  letI E : Env := sEnv (fun _ => d) (fun i => nth l (i - 8)) (fun _ => k0.told s) (fun _ => l) (fun _ => hd) (fun i => wf_of_nth hwf _) ht (fun _ _ => SCls.told_ok f0) (fun _ => hll)
  have hE1 : E.int 1 = d := sEnv_int (by omega)
  have hlst : E.lst 16 = l.map (Value.int .i64) := sEnv_lst (by omega)
  have hpv : ∀ i, i < 1000 → E.int (pvIx (8 + i)) = nth l i := fun i _ => by
    have : E.int (pvIx (8 + i)) = nth l (8 + i - 8) := sEnv_pv _
    rw [this, show 8 + i - 8 = i from by omega]
  -- the run, for words of the text and of the int
  have go : ∀ (x y : Nat) (co : CoC), co.Fits a cap l → (∀ ρ L, VR ρ L x (.string s)) → (∀ ρ L, VR ρ L y (.int .i64 d)) → storable x = true → storable y = true → g (noRun P S0 fuel dd f x y co) = true →
      Calls P f #[.agg #[.string s, .int .i64 d, .slice a len cap]] w fun e w' => e = .returned V ∧ Below w.heap.size w w' := by
    intro x y co hf hx hy sx sy hrun
    obtain ⟨ρ, L, c, hv, sv⟩ := CoC.put (fun _ _ h => by cases h) hr hf hlst hpv
    obtain ⟨L', c', _, hv'⟩ := put_agg c (by omega) (hx ρ L) (hy ρ L) hv sx sy sv
    exact run_is hb (fun v H' n' ρ' L' w' x => hg E _ v H' n' ρ' L' w' x) (hS0 _) c' (.cons _ _ _ _ hv' .nil) hrun
  -- whatever numbers
  have any : ∃ co ∈ coAny, co.Fits a cap l := by
    by_cases h0 : l = []
    · rcases hr.nil_of h0 with ⟨g1, g2, _⟩ | ⟨q, g1, g2, _⟩
      · exact ⟨.nil, by simp [coAny], g1, g2, h0⟩
      · exact ⟨.zero, by simp [coAny], by rw [g1]; simp, g2, h0⟩
    · refine ⟨.any, by simp [coAny], ?_⟩
      show 1 ≤ l.length
      rcases l with _ | ⟨q, l⟩
      · exact absurd rfl h0
      · simp
  have o0 : storable (ostrW 0 0 0) = true := by decide
  have v0 : storable (wV 1 0 0) = true := by decide
  have vAll : ∀ ρ L, VR ρ L (wV 1 0 0) (.int .i64 d) := fun ρ L => by
    rw [← hE1]; exact .var 1 0 0 (by omega) (by omega) (.inl rfl) (.inl rfl)
  have other : (k0.told s) = s → Calls P f #[.agg #[.string s, .int .i64 d, .slice a len cap]] w fun e w' => e = .returned V ∧ Below w.heap.size w w' := by
    intro hts
    obtain ⟨co, hco, hf⟩ := any
    refine go (ostrW 0 0 0) (wV 1 0 0) co hf (fun ρ L => ?_) vAll o0 v0 (allBo_all (h1 _ (by simp)) co hco)
    have hx : E.txt 0 = s := hts
    rw [← hx]
    exact .ostr 0 0 0 (by omega) (by omega) (by omega) (.inl rfl) (by rw [hx]; exact (sEnv_txt (by omega)).trans (by rw [hts]))
  have known : ∀ k, k < 6 → s = kText.getD k ⟨#[]⟩ → ∀ ρ L, VR ρ L (knownT.getD k 0) (.string s) := fun k hk hks ρ L => by
    rw [hks, ← kText_word k hk]; exact .str _
  have wk : ∀ k, k < 5 → knownT.getD k 0 ∈ ways5 ∧ storable (knownT.getD k 0) = true := by
    intro k hk
    have : k = 0 ∨ k = 1 ∨ k = 2 ∨ k = 3 ∨ k = 4 := by omega
    rcases this with rfl | rfl | rfl | rfl | rfl <;> exact ⟨by decide, by decide⟩
  cases k0 with
  | other => exact other rfl
  | long => exact other rfl
  | known k =>
    obtain ⟨hk, hks⟩ := f0
    by_cases h5 : k = 5
    · subst h5
      obtain ⟨co, hco, hf⟩ := any
      exact go 375 (wV 1 0 0) co hf (known 5 (by omega) hks) vAll (by decide) v0 (allBo_all (h1 _ (by simp)) co hco)
    · obtain ⟨hw, hst⟩ := wk k (by omega)
      by_cases hneg : d < 0
      · obtain ⟨co, hco, hf⟩ := any
        refine go _ (wV 1 0 549755813887) co hf (known k hk hks) (fun ρ L => ?_) hst (by decide) (allBo_all (h2 _ hw _ (by simp)) co hco)
        rw [← hE1]; exact .var 1 0 549755813887 (by omega) (by omega) (.inl rfl) (.inr (by rw [hE1]; omega))
      · by_cases hbig : 6 < d
        · obtain ⟨co, hco, hf⟩ := any
          refine go _ (wV 1 549755813895 0) co hf (known k hk hks) (fun ρ L => ?_) hst (by decide) (allBo_all (h2 _ hw _ (by simp)) co hco)
          rw [← hE1]; exact .var 1 549755813895 0 (by omega) (by omega) (.inr (by rw [hE1]; omega)) (.inl rfl)
        · obtain ⟨e, rfl⟩ : ∃ e : Nat, d = (e : Int) := ⟨d.toNat, by omega⟩
          have he : e ≤ 6 := by omega
          have hee : e = 0 ∨ e = 1 ∨ e = 2 ∨ e = 3 ∨ e = 4 ∨ e = 5 ∨ e = 6 := by omega
          have hmem : e ∈ degs7 := by rcases hee with h | h | h | h | h | h | h <;> rw [h] <;> decide
          have hnp : 1 ≤ npS e ∧ npS e < 1000 := by rcases hee with h | h | h | h | h | h | h <;> rw [h] <;> decide
          have fin : ∀ co ∈ coOf (npS e), co.Fits a cap l → Calls P f #[.agg #[.string s, .int .i64 (e : Int), .slice a len cap]] w fun e w' => e = .returned V ∧ Below w.heap.size w w' := by
            intro co hco hf
            refine go _ (wI e) co hf (known k hk hks) (fun ρ L => VR.small e (by omega)) hst ?_ (allBo_all (h3 _ hw _ hmem) co hco)
            rcases hee with h | h | h | h | h | h | h <;> rw [h] <;> decide
          by_cases h0 : l = []
          · rcases hr.nil_of h0 with ⟨g1, g2, _⟩ | ⟨q, g1, g2, _⟩
            · exact fin .nil coOf_nil ⟨g1, g2, h0⟩
            · exact fin .zero coOf_zero ⟨by rw [g1]; simp, g2, h0⟩
          · have hl1 : 1 ≤ l.length := by
              rcases l with _ | ⟨q, l⟩
              · exact absurd rfl h0
              · simp
            by_cases hlt : l.length < npS e
            · exact fin (.less (npS e)) (coOf_less (by omega)) ⟨hl1, hlt, hnp.2⟩
            · by_cases hgt : npS e < l.length
              · exact fin (.more (npS e)) coOf_more ⟨hgt, hnp.2⟩
              · have hle : l.length = npS e := by omega
                -- the first that is out of range
                have : ∃ p, p < l.length ∧ (∀ i, i < p → -1000000 ≤ nth l i ∧ nth l i ≤ 1000000) ∧ ¬ (-1000000 ≤ nth l p ∧ nth l p ≤ 1000000) := by
                  have hex : ∃ p, p < l.length ∧ ¬ (-1000000 ≤ nth l p ∧ nth l p ≤ 1000000) := by
                    by_cases hq : ∃ p, p < l.length ∧ ¬ (-1000000 ≤ nth l p ∧ nth l p ≤ 1000000)
                    · exact hq
                    · exfalso
                      apply hno
                      refine ⟨⟨k, by omega, hks⟩, ⟨e, he, rfl, hle⟩, fun i hi => ?_⟩
                      by_cases hz : -1000000 ≤ nth l i ∧ nth l i ≤ 1000000
                      · exact hz
                      · exact absurd ⟨i, hi, hz⟩ hq
                  obtain ⟨p, hp⟩ := hex
                  induction p using Nat.strongRecOn with
                  | _ p ih =>
                    by_cases hq : ∃ i, i < p ∧ ¬ (-1000000 ≤ nth l i ∧ nth l i ≤ 1000000)
                    · obtain ⟨i, hi, hz⟩ := hq
                      exact ih i hi ⟨by omega, hz⟩
                    · refine ⟨p, hp.1, fun i hi => ?_, hp.2⟩
                      by_cases hz : -1000000 ≤ nth l i ∧ nth l i ≤ 1000000
                      · exact hz
                      · exact absurd ⟨i, hi, hz⟩ hq
                obtain ⟨p, hp, hin, hout⟩ := this
                by_cases hup : 1000000 < nth l p
                · exact fin (.bad (npS e) p true) (coOf_bad true (by omega)) ⟨hle, by omega, hnp.2, hin, by simp; exact hup⟩
                · exact fin (.bad (npS e) p false) (coOf_bad false (by omega)) ⟨hle, by omega, hnp.2, hin, by simp; omega⟩
end Go.Eng

/- Laws on sums: what a sum that comes in may be; the walks. -/
namespace Go.Eng
set_option linter.unusedSectionVars false
set_option linter.unusedSimpArgs false
set_option linter.unusedVariables false
open Go Go.RowKit

/-- What a sum that comes in may be: one of a way and a degree, none: no numbers, no room, numbers. -/
inductive MC where
  | sum (k e : Nat)
  | nil
  | zero
  | emp
  | opq
/-- What it leaves of a room: 12 and more, so much, nothing. -/
inductive RC where
  | wide
  | is (k : Nat)
  | long
noncomputable section
def RC.word (r : RC) (q : Nat) : Nat := RC.rec (motive := fun _ => Nat) (wV (Nat.add 950 q) 549755813900 549756862464) (fun k => wI k) (wI 18446744073709551615) r
def RC.isLong (r : RC) : Bool := RC.rec (motive := fun _ => Bool) false (fun _ => false) true r
def RC.Fits (r : RC) (z : Int) : Prop := RC.rec (motive := fun _ => Prop) (12 ≤ z ∧ z ≤ 1048576) (fun k => z = (k : Int) ∧ k < 12) (z = -1) r
def rooms : List RC := [.wide, .long, .is 0, .is 1, .is 2, .is 3, .is 4, .is 5, .is 6, .is 7, .is 8, .is 9, .is 10, .is 11]
def MC.j (c : MC) (q : Nat) : Nat := MC.rec (motive := fun _ => Nat) (fun _ _ => Nat.mul 2 q) (Nat.succ (Nat.mul 2 q)) (Nat.succ (Nat.mul 2 q)) (Nat.succ (Nat.mul 2 q)) (Nat.mul 2 q) c
def oHiOf (long : Bool) : Nat := Bool.rec (motive := fun _ => Nat) 1048576 0 long
def MC.list (c : MC) (q n : Nat) (H : Trie) : Trie :=
  MC.rec (motive := fun _ => Trie) (fun _ e => hset H n (.cells (repB bIn (npS e)).length (listW (rowW (repB bIn (npS e)) (Nat.add 8 (Nat.mul 16 q)))) 0 0 0 0)) H H (hset H n (.cells 0 0 0 0 0 0)) (hset H n (.opq (Nat.add 16 (Nat.mul 2 q)) 1)) c
def MC.words (c : MC) (q n : Nat) (long : Bool) : List Nat :=
  MC.rec (motive := fun _ => List Nat) (fun k e => [knownT.getD k 0, wI e, wS n 1 0 (repB bIn (npS e)).length 0]) [ostrW (Nat.add 1000 (Nat.succ (Nat.mul 2 q))) 0 0, wV (pvIx (Nat.add 36 (Nat.succ (Nat.mul 2 q)))) 0 0, sNil]
    [ostrW (Nat.add 1000 (Nat.succ (Nat.mul 2 q))) 0 0, wV (pvIx (Nat.add 36 (Nat.succ (Nat.mul 2 q)))) 0 0, 14] [ostrW (Nat.add 1000 (Nat.succ (Nat.mul 2 q))) 0 0, wV (pvIx (Nat.add 36 (Nat.succ (Nat.mul 2 q)))) 0 0, wS n 1 0 0 0] [ostrW (Nat.add 1000 (Nat.mul 2 q)) 0 0, wV (pvIx (Nat.add 36 (Nat.mul 2 q))) 0 0, wO n (Nat.add 16 (Nat.mul 2 q)) 1 (oHiOf long)] c
def MC.heap (c : MC) (q n : Nat) (long : Bool) (H : Trie) : Trie := hset (c.list q n H) (Nat.succ n) (.box 0 3 (listW (c.words q n long)))
def MC.Fits (c : MC) (s : ByteArray) (d : Int) (a : Option Addr) (cap : Nat) (l : List Int) : Prop :=
  MC.rec (motive := fun _ => Prop) (fun k e => k < 5 ∧ e ≤ 6 ∧ s = kText.getD k ⟨#[]⟩ ∧ d = (e : Int) ∧ l.length = npS e ∧ ∀ i, i < l.length → -1000000 ≤ nth l i ∧ nth l i ≤ 1000000)
    (a = none ∧ cap = 0 ∧ l = [] ∧ ¬ SumZ s d l) (a ≠ none ∧ cap = 0 ∧ l = [] ∧ ¬ SumZ s d l) (0 < cap ∧ l = [] ∧ ¬ SumZ s d l) (1 ≤ l.length ∧ ¬ SumZ s d l) c
def MC.isSum (c : MC) : Bool := MC.rec (motive := fun _ => Bool) (fun _ _ => true) false false false false c
/-- the text that the surroundings tell for it -/
def MC.tx (c : MC) (s : ByteArray) : ByteArray := MC.rec (motive := fun _ => ByteArray) (fun _ _ => ⟨#[0]⟩) s s s s c
end

/-- a slice of ints that came in -/
def RowA (w : World) (a : Option Addr) (len cap : Nat) (l : List Int) : Prop :=
  RowH w a len cap l ∨ (len = 0 ∧ 0 < cap ∧ l = [] ∧ ∃ rb d cs ty fz, a = some ⟨rb, d, none⟩ ∧ w.heap[rb]? = some (.cells cs ty fz) ∧ d + cap ≤ cs.size ∧ cap < 9223372036854775808)
theorem RowA.wf {w : World} {a : Option Addr} {len cap : Nat} {l : List Int} (h : RowA w a len cap l) : (∀ x ∈ l, -9223372036854775808 ≤ x ∧ x < 9223372036854775808) ∧ l.length < 9223372036854775808 ∧ l.length = len := by
  rcases h with h | ⟨rfl, _, rfl, _⟩
  · exact h.wf
  · exact ⟨fun x hx => by simp at hx, by decide, rfl⟩
theorem MC.of (s : ByteArray) (d : Int) (w : World) (a : Option Addr) (len cap : Nat) (l : List Int) (hr : RowA w a len cap l) :
    (∃ k, k < 5 ∧ ∃ e, e ≤ 6 ∧ (MC.sum k e).Fits s d a cap l) ∨ (∃ c ∈ [MC.nil, MC.zero, MC.emp, MC.opq], c.Fits s d a cap l) := by
  by_cases h : SumZ s d l
  · obtain ⟨⟨k, hk, hs⟩, ⟨e, he, hd, hl⟩, hb⟩ := h
    exact .inl ⟨k, hk, e, he, hk, he, hs, hd, hl, hb⟩
  · right
    rcases hr with hr | ⟨_, h1, h2, _⟩
    · by_cases h0 : l = []
      · rcases hr.nil_of h0 with ⟨g1, g2, _⟩ | ⟨q, g1, g2, _⟩
        · exact ⟨.nil, by simp, g1, g2, h0, h⟩
        · exact ⟨.zero, by simp, by rw [g1]; simp, g2, h0, h⟩
      · refine ⟨.opq, by simp, ?_, h⟩
        rcases l with _ | ⟨q, l⟩
        · exact absurd rfl h0
        · simp
    · exact ⟨.emp, by simp, h1, h2, h⟩

theorem szZ_range {z : Int} {a b : Nat} (h : z ≤ 1048576) : szZ z a b = -1 ∨ (0 ≤ szZ z a b ∧ szZ z a b ≤ 1048576 ∧ (b : Int) ≤ 1048576) := by
  unfold szZ
  split
  · exact .inl rfl
  · split
    · exact .inl rfl
    · right; omega
theorem RC.of {z : Int} {a b : Nat} (h : z ≤ 1048576) : ∃ r ∈ rooms, r.Fits (szZ z a b) := by
  rcases szZ_range (a := a) (b := b) h with h | ⟨h1, h2, _⟩
  · exact ⟨.long, by simp [rooms], h⟩
  · by_cases h3 : 12 ≤ szZ z a b
    · exact ⟨.wide, by simp [rooms], h3, h2⟩
    · refine ⟨.is (szZ z a b).toNat, ?_, by omega, by omega⟩
      have : (szZ z a b).toNat < 12 := by omega
      generalize (szZ z a b).toNat = m at this
      have hm : m = 0 ∨ m = 1 ∨ m = 2 ∨ m = 3 ∨ m = 4 ∨ m = 5 ∨ m = 6 ∨ m = 7 ∨ m = 8 ∨ m = 9 ∨ m = 10 ∨ m = 11 := by omega
      rcases hm with h | h | h | h | h | h | h | h | h | h | h | h <;> rw [h] <;> simp [rooms]
theorem RC.short {r : RC} {z : Int} {a b : Nat} (h : z ≤ 1048576) (hf : r.Fits (szZ z a b)) (hl : r.isLong = false) : (b : Int) ≤ 1048576 := by
  rcases szZ_range (a := a) (b := b) h with h | ⟨_, _, h⟩
  · rw [h] at hf
    cases r with
    | wide => exact absurd hf.1 (by omega)
    | is k => exact absurd hf.1 (by omega)
    | long => cases hl
  · exact h
theorem RC.put [E : Env] {ρ : Rho} {L : Look} {r : RC} {q : Nat} {z : Int} (hf : r.Fits z) (hq : E.int (950 + q) = z) : VR ρ L (r.word q) (.int .i64 z) := by
  cases r with
  | wide =>
    obtain ⟨h1, h2⟩ := hf
    rw [← hq]
    exact .var (950 + q) _ _ (by omega) (by omega) (.inr (by rw [hq]; omega)) (.inr (by rw [hq]; omega))
  | is k =>
    obtain ⟨rfl, hk⟩ := hf
    exact VR.small k (by omega)
  | long =>
    have hf : z = -1 := hf
    subst hf
    exact .int 18446744073709551615 (by omega)

/-- what the surroundings tell of the thing at the place q -/
structure MFacts [E : Env] (c : MC) (q : Nat) (s : ByteArray) (d : Int) (l : List Int) : Prop where
  txt : c.isSum = false → E.txt (1000 + c.j q) = s ∧ E.int (txtIx (1000 + c.j q)) = (s.size : Int) ∧ E.int (pvIx (36 + c.j q)) = d ∧ E.lst (16 + c.j q) = l.map (Value.int .i64)
  pv : ∀ i, i < 12 → E.int (pvIx (8 + 16 * q + i)) = nth l i

theorem npS_bound {e : Nat} (h : e ≤ 6) : 1 ≤ npS e ∧ npS e ≤ 11 := by
  have : e = 0 ∨ e = 1 ∨ e = 2 ∨ e = 3 ∨ e = 4 ∨ e = 5 ∨ e = 6 := by omega
  rcases this with h | h | h | h | h | h | h <;> rw [h] <;> decide

section
variable [E : Env]
theorem MC.put {c : MC} {q n : Nat} {long : Bool} {H : Trie} {ρ : Rho} {L : Look} {w : World} {s : ByteArray} {d : Int} {a : Option Addr} {len cap : Nat} {l : List Int} (cx : Ctx w.heap.size H n ρ L w) (hn : n + 1 < 16384) (hq : q < 2)
    (hr : RowA w a len cap l) (hf : c.Fits s d a cap l) (hF : MFacts c q s d l) (hlong : long = false → l.length ≤ 1048576) :
    ∃ ρ' L', Ctx w.heap.size (c.heap q n long H) (n + 2) ρ' L' w ∧ Ext ρ L ρ' L' ∧ VR ρ' L' (mk 6 (n + 1)) (.agg #[.string s, .int .i64 d, .slice a len cap]) := by
  have skip : Ctx w.heap.size H (n + 1) ρ L w := ⟨cx.sim, cx.agree, fun b hb => cx.fresh b (by omega)⟩
  have ost : ∀ j, j < 4 → storable (ostrW (1000 + j) 0 0) = true ∧ storable (wV (pvIx (36 + j)) 0 0) = true := by
    intro j hj
    have : j = 0 ∨ j = 1 ∨ j = 2 ∨ j = 3 := by omega
    rcases this with rfl | rfl | rfl | rfl <;> exact ⟨by decide, by decide⟩
  have texts : ∀ (ρ : Rho) (L : Look), c.isSum = false → VR ρ L (ostrW (1000 + c.j q) 0 0) (.string s) ∧ VR ρ L (wV (pvIx (36 + c.j q)) 0 0) (.int .i64 d) := by
    intro ρ L hc
    obtain ⟨h1, h2, h3, _⟩ := hF.txt hc
    refine ⟨?_, ?_⟩
    · rw [← h1]
      exact .ostr _ 0 0 (by omega) (by omega) (by omega) (.inl rfl) (by rw [h2, h1])
    · rw [← h3]
      exact .var _ 0 0 (by omega) (by omega) (.inl rfl) (.inl rfl)
  have hj : c.j q < 4 := by
    cases c
    · show 2 * q < 4; omega
    · show 2 * q + 1 < 4; omega
    · show 2 * q + 1 < 4; omega
    · show 2 * q + 1 < 4; omega
    · show 2 * q < 4; omega
  cases c with
  | nil =>
    obtain ⟨rfl, rfl, rfl, _⟩ := hf
    obtain ⟨t1, t2⟩ := texts ρ L rfl
    have hr := hr.resolve_right (fun ⟨_, h, _⟩ => by omega)
    rcases hr.nil_of rfl with ⟨_, _, rfl⟩ | ⟨x, h1, _⟩
    · obtain ⟨L', c', e', v'⟩ := put_agg skip (by omega) t1 t2 .sliceNil (ost _ hj).1 (ost _ hj).2 (by decide)
      exact ⟨ρ, L', c', e', v'⟩
    · cases h1
  | zero =>
    obtain ⟨h0, rfl, rfl, _⟩ := hf
    obtain ⟨t1, t2⟩ := texts ρ L rfl
    have hr := hr.resolve_right (fun ⟨_, h, _⟩ => by omega)
    rcases hr.nil_of rfl with ⟨h1, _⟩ | ⟨x, rfl, _, rfl⟩
    · exact absurd h1 h0
    · obtain ⟨L', c', e', v'⟩ := put_agg skip (by omega) t1 t2 (.sl0 x) (ost _ hj).1 (ost _ hj).2 (by decide)
      exact ⟨ρ, L', c', e', v'⟩
  | emp =>
    obtain ⟨h0, rfl, _⟩ := hf
    rcases hr with hr | ⟨rfl, _, _, rb, dd, cs, ty, fz, rfl, hh, hsz, hcap⟩
    · rcases hr.nil_of rfl with ⟨_, h1, _⟩ | ⟨x, _, h1, _⟩ <;> omega
    have hrb : rb < w.heap.size := (Array.getElem?_eq_some_iff.1 hh).1
    have c1 := cx.arg (nb := 0) (ch := 0) (sz := cap) (d := dd) (by omega) hh hrb hsz (by omega) (fun i hi => by omega)
    have e1 : Ext ρ L (updR ρ n (rb, dd, cap)) (upd L n (.cells 0 0 0 0 0 0)) := .fresh cx.fresh _ _
    obtain ⟨t1, t2⟩ := texts (updR ρ n (rb, dd, cap)) (upd L n (.cells 0 0 0 0 0 0)) rfl
    have v1 : VR (updR ρ n (rb, dd, cap)) (upd L n (.cells 0 0 0 0 0 0)) (wS n 1 0 0 0) (.slice (some ⟨rb, dd, none⟩) 0 cap) := .slice n 1 0 0 0 rb dd cap cap _ (updR_same _ _ _) (by omega) (by omega) (by omega) (by omega) (by omega) hcap (.inl rfl) (.inr ⟨rfl, by omega⟩)
    have hst : storable (wS n 1 0 0 0) = true := by
      rw [storable_iff, tag_wS]
      refine ⟨by decide, by decide, by decide, ?_⟩
      show 16 * (1048576 * (1048576 * (1048576 * (256 * (n + 1) + 1) + 0) + 0) + 0) + 4 < _
      omega
    obtain ⟨L', c', e', v'⟩ := put_agg c1 (by omega) t1 t2 v1 (ost _ hj).1 (ost _ hj).2 hst
    exact ⟨_, L', c', e1.trans e', v'⟩
  | opq =>
    obtain ⟨h1, _⟩ := hf
    have hr := hr.resolve_right (fun ⟨_, _, h, _⟩ => by rw [h] at h1; simp at h1)
    obtain ⟨_, _, _, hlst⟩ := hF.txt rfl
    have hj2 : 16 + MC.opq.j q = 16 + 2 * q := rfl
    rw [hj2] at hlst
    have hhi : oHiOf long < 4194304 ∧ (oHiOf long = 0 ∨ l.length ≤ oHiOf long) := by
      cases long with
      | true => exact ⟨by decide, .inl rfl⟩
      | false => exact ⟨by decide, .inr (hlong rfl)⟩
    obtain ⟨ρ1, L1, c1, e1, v1⟩ := put_opq cx (by omega) (j := 16 + 2 * q) (by omega) hr (by omega) hlst (lo := 1) (by omega) hhi.1 h1 hhi.2
    obtain ⟨t1, t2⟩ := texts ρ1 L1 rfl
    have hst : storable (wO n (16 + 2 * q) 1 (oHiOf long)) = true := by
      rw [storable_iff, tag_wO]
      refine ⟨by decide, by decide, by decide, ?_⟩
      have := hhi.1
      show 16 * (4194304 * (4194304 * (1048576 * n + (16 + 2 * q)) + 1) + oHiOf long) + 11 < _
      omega
    obtain ⟨L', c', e', v'⟩ := put_agg c1 (by omega) t1 t2 v1 (ost _ hj).1 (ost _ hj).2 hst
    exact ⟨ρ1, L', c', e1.trans e', v'⟩
  | sum k e =>
    obtain ⟨hk, he, hs, hd, hl, hb⟩ := hf
    have hnp := npS_bound he
    have hr := hr.resolve_right (fun ⟨_, _, h, _⟩ => by rw [h] at hl; simp at hl; omega)
    have hbl : (repB bIn (npS e)).length = npS e := repB_len _ _
    obtain ⟨ρ1, L1, c1, e1, v1⟩ := put_row (o := 8 + 16 * q) (bs := repB bIn (npS e)) cx (by omega) hr (by omega) (by omega) (by omega) (by omega) (fun b hb' => by rw [repB_mem hb']; exact ⟨by decide, by decide⟩) (fun i hi => by rw [repB_get _ _ _ (by omega)]; exact fits_in (hb i (by omega))) (fun i hi => hF.pv i (by omega)) (by omega)
    have hst : storable (wS n 1 0 (repB bIn (npS e)).length 0) = true := by
      rw [hbl, storable_iff, tag_wS]
      refine ⟨by decide, by decide, by decide, ?_⟩
      show 16 * (1048576 * (1048576 * (1048576 * (256 * (n + 1) + 1) + 0) + 0) + npS e) + 4 < _
      omega
    have hwk : storable (knownT.getD k 0) = true := by
      have : k = 0 ∨ k = 1 ∨ k = 2 ∨ k = 3 ∨ k = 4 := by omega
      rcases this with rfl | rfl | rfl | rfl | rfl <;> decide
    have hwe : storable (wI e) = true := by
      have : e = 0 ∨ e = 1 ∨ e = 2 ∨ e = 3 ∨ e = 4 ∨ e = 5 ∨ e = 6 := by omega
      rcases this with h | h | h | h | h | h | h <;> rw [h] <;> decide
    have hvk : VR ρ1 L1 (knownT.getD k 0) (.string s) := by rw [hs, ← kText_word k (by omega)]; exact .str _
    have hve : VR ρ1 L1 (wI e) (.int .i64 d) := by rw [hd]; exact VR.small e (by omega)
    obtain ⟨L', c', e', v'⟩ := put_agg c1 (by omega) hvk hve v1 hwk hwe hst
    exact ⟨ρ1, L', c', e1.trans e', v'⟩
end

/-! ### what is known beforehand of sums of products -/
noncomputable section
/-- a sum, and its bounds -/
def factH (fs : List (Nat × Nat × Nat × Nat)) : Nat → Trie → Trie := List.rec (motive := fun _ => Nat → Trie → Trie) (fun _ H => H) (fun f _ ih n H => ih (Nat.succ n) (hset H n (.poly f.1 0 f.2.1 73 f.2.2.1 f.2.2.2))) fs
end
theorem put_facts [E : Env] : ∀ (fs : List (Nat × Nat × Nat × Nat)) (n : Nat) (H : Trie) (ρ : Rho) (L : Look) (base : Nat) (w : World), Ctx base H n ρ L w → n + fs.length < 16384 → (∀ f ∈ fs, ∃ z, PolyZ f.1 0 f.2.1 73 f.2.2.1 f.2.2.2 z) →
    ∃ L', Ctx base (factH fs n H) (n + fs.length) ρ L' w ∧ Ext ρ L ρ L'
  | [], n, H, ρ, L, base, w, c, _, _ => ⟨L, c, .refl _ _⟩
  | f :: fs, n, H, ρ, L, base, w, c, hn, hf => by
    have c1 : Ctx base (hset H n (.poly f.1 0 f.2.1 73 f.2.2.1 f.2.2.2)) (n + 1) ρ (upd L n (.poly f.1 0 f.2.1 73 f.2.2.1 f.2.2.2)) w := ⟨c.sim.boxG c.fresh (fun _ => hf f (by simp)), c.agree.hset (by simp at hn; omega) _, c.fresh.updL _⟩
    obtain ⟨L', c', e'⟩ := put_facts fs (n + 1) (hset H n (.poly f.1 0 f.2.1 73 f.2.2.1 f.2.2.2)) ρ _ base w c1 (by simp at hn; omega) (fun g hg => hf g (by simp [hg]))
    refine ⟨L', ?_, (Ext.freshL c.fresh _).trans e'⟩
    have : n + (f :: fs).length = n + 1 + fs.length := by simp; omega
    rw [this]
    exact c'
end Go.Eng

/- Laws on sums: the walks. -/
namespace Go.Eng
set_option linter.unusedSectionVars false
set_option linter.unusedSimpArgs false
set_option linter.unusedVariables false
open Go Go.RowKit

theorem IntRow.ra {w : World} {a : Option Addr} {len cap : Nat} {zs : List Int} (h : IntRow w a len cap zs) : RowA w a len cap (zs.take len) := by
  rcases h with ⟨rfl, rfl, rfl, rfl⟩ | ⟨x, rfl, hl, hm, hzl, hcell, hwz⟩
  · exact .inl (.inl ⟨rfl, rfl, rfl, rfl⟩)
  by_cases hc : cap = 0
  · subst hc
    obtain rfl : len = 0 := by omega
    exact .inl (.inr (.inl ⟨x, rfl, rfl, rfl, by simp⟩))
  unfold maxLen at hm
  have hrow : RowOf .i64 w x cap zs := ⟨hzl, hcell⟩
  obtain ⟨hsp, cs, ty, fz, hh, hsz, hall⟩ := hrow.block (by omega)
  have hx : x = ⟨x.block, x.off, none⟩ := by
    cases x with
    | mk b o s => simp at hsp ⊢; exact hsp
  by_cases h0 : len = 0
  · subst h0
    exact .inr ⟨rfl, by omega, by simp, x.block, x.off, cs, ty, fz, by rw [← hx], hh, hsz, by omega⟩
  have hcl : (zs.take len).length = len := by simp; omega
  refine .inl (.inr (.inr ⟨x.block, x.off, cs, ty, fz, by rw [← hx], hh, hsz, hl, by omega, hcl, by omega, fun i hi => ?_, fun y hy => wf_i64 (hwz y (List.mem_of_mem_take hy))⟩))
  rw [hall i (by omega)]
  have hi3 : i < zs.length := by omega
  simp [nth, List.getD_eq_getElem?_getD, hi, hi3]

/-- A sum that came in. -/
structure SumArg (w : World) (s : ByteArray) (d : Int) (a : Option Addr) (len cap : Nat) (l : List Int) : Prop where
  size : s.size < 9223372036854775808
  deg : -9223372036854775808 ≤ d ∧ d < 9223372036854775808
  row : RowA w a len cap l
theorem SumArg.of {w : World} {s : ByteArray} {d : Int} {a : Option Addr} {len cap : Nat} {zs : List Int} (h0 : s.size ≤ maxLen) (h1 : (Lit.int .i64 d).wf = true) (h2 : IntRow w a len cap zs) : SumArg w s d a len cap (zs.take len) := by
  unfold maxLen at h0
  exact ⟨by omega, wf_i64 h1, h2.ra⟩

/-! ### the surroundings of two sums, a point and some ints -/
def zero0 : ByteArray := ⟨#[0]⟩
structure Two where
  c0 : MC
  c1 : MC
  s0 : ByteArray
  s1 : ByteArray
  d0 : Int
  d1 : Int
  l0 : List Int
  l1 : List Int
  z0 : Int
  z1 : Int
  pv : Nat → Int
  zp : List Int
def Rng (z : Int) : Prop := -9223372036854775808 ≤ z ∧ z < 9223372036854775808
structure Two.Ok (t : Two) : Prop where
  s0 : t.s0.size < 9223372036854775808
  s1 : t.s1.size < 9223372036854775808
  d0 : Rng t.d0
  d1 : Rng t.d1
  l0 : (∀ x ∈ t.l0, Rng x) ∧ t.l0.length < 9223372036854775808
  l1 : (∀ x ∈ t.l1, Rng x) ∧ t.l1.length < 9223372036854775808
  z0 : Rng t.z0
  z1 : Rng t.z1
  pv : ∀ i, Rng (t.pv i)
  zp : (∀ x ∈ t.zp, Rng x) ∧ t.zp.length < 9223372036854775808
def Two.A (t : Two) : Nat → Int := fun x => if x = 950 then t.z0 else if x = 951 then t.z1 else 0
noncomputable def Two.C (t : Two) : Nat → Int := fun i => if i < 8 then t.pv i else if i < 24 then nth t.l0 (i - 8) else if i < 36 then nth t.l1 (i - 24) else if i = 36 + t.c1.j 1 then t.d1 else t.d0
noncomputable def Two.tx (t : Two) : Nat → ByteArray := fun j => if j = 1000 + t.c0.j 0 then t.c0.tx t.s0 else if j = 1000 + t.c1.j 1 then t.c1.tx t.s1 else zero0
noncomputable def Two.zs (t : Two) : Nat → List Int := fun j => if j < 8 then [7] else if j < 16 then t.zp else if j = 16 + t.c0.j 0 then t.l0 else if j = 16 + t.c1.j 1 then t.l1 else []
theorem zero0_size : zero0.size < 9223372036854775808 := by decide
theorem seven_rng : (∀ x ∈ ([7] : List Int), Rng x) ∧ ([7] : List Int).length < 9223372036854775808 := ⟨fun x hx => by simp at hx; subst hx; exact ⟨by omega, by omega⟩, by decide⟩
theorem MC.tx_size {c : MC} {s : ByteArray} (h : s.size < 9223372036854775808) : (c.tx s).size < 9223372036854775808 := by
  cases c with
  | sum => exact zero0_size
  | _ => exact h
theorem MC.j_lt (c : MC) (q : Nat) (hq : q < 2) : c.j q < 2 * q + 2 ∧ 2 * q ≤ c.j q := by
  cases c
  · exact ⟨by show 2 * q < _; omega, by show _ ≤ 2 * q; omega⟩
  · exact ⟨by show 2 * q + 1 < _; omega, by show _ ≤ 2 * q + 1; omega⟩
  · exact ⟨by show 2 * q + 1 < _; omega, by show _ ≤ 2 * q + 1; omega⟩
  · exact ⟨by show 2 * q + 1 < _; omega, by show _ ≤ 2 * q + 1; omega⟩
  · exact ⟨by show 2 * q < _; omega, by show _ ≤ 2 * q; omega⟩
section
variable {t : Two} (h : t.Ok)
include h
theorem Two.A_wf (j : Nat) : Rng (t.A j) := by
  unfold Two.A
  split
  · exact h.z0
  · split
    · exact h.z1
    · exact ⟨by omega, by omega⟩
theorem Two.C_wf (j : Nat) : Rng (t.C j) := by
  unfold Two.C
  split
  · exact h.pv _
  · split
    · exact wf_of_nth h.l0.1 _
    · split
      · exact wf_of_nth h.l1.1 _
      · split
        · exact h.d1
        · exact h.d0
theorem Two.tx_size (j : Nat) : (t.tx j).size < 9223372036854775808 := by
  unfold Two.tx
  split
  · exact MC.tx_size h.s0
  · split
    · exact MC.tx_size h.s1
    · exact zero0_size
theorem Two.zs_ok (j : Nat) : (∀ x ∈ t.zs j, Rng x) ∧ (t.zs j).length < 9223372036854775808 := by
  unfold Two.zs
  split
  · exact seven_rng
  · split
    · exact h.zp
    · split
      · exact h.l0
      · split
        · exact h.l1
        · exact ⟨fun x hx => by simp at hx, by decide⟩
end
theorem Two.tx_low (t : Two) (j : Nat) (hj : j < 1000) : inT knownT (strW (t.tx j)) = false := by
  unfold Two.tx
  rw [if_neg (by omega), if_neg (by omega)]
  exact txt0_ok
@[reducible] noncomputable def Two.env (t : Two) (h : t.Ok) : Env := sEnv t.A t.C t.tx t.zs (Two.A_wf h) (Two.C_wf h) (Two.tx_size h) (t.tx_low) (fun j => (Two.zs_ok h j).2)
section
variable {t : Two} (h : t.Ok)
theorem Two.e950 : (t.env h).int 950 = t.z0 := (sEnv_int (by omega)).trans (by unfold Two.A; rw [if_pos rfl])
theorem Two.e951 : (t.env h).int 951 = t.z1 := (sEnv_int (by omega)).trans (by unfold Two.A; rw [if_neg (by omega), if_pos rfl])
theorem Two.ePv {i : Nat} (hi : i < 8) : (t.env h).int (pvIx i) = t.pv i := (sEnv_pv i).trans (by unfold Two.C; rw [if_pos hi])
theorem Two.eZp {j : Nat} (h1 : 8 ≤ j) (h2 : j < 16) : t.zs j = t.zp := by unfold Two.zs; rw [if_neg (by omega), if_pos h2]
theorem Two.facts0 : @MFacts (t.env h) t.c0 0 t.s0 t.d0 t.l0 := by
  letI := t.env h
  have hj := t.c0.j_lt 0 (by omega)
  have hj1 := t.c1.j_lt 1 (by omega)
  refine { txt := fun hs => ?_, pv := fun i hi => ?_ }
  · have ht : t.tx (1000 + t.c0.j 0) = t.s0 := by
      unfold Two.tx
      rw [if_pos rfl]
      cases hc : t.c0 with
      | sum => rw [hc] at hs; cases hs
      | _ => rfl
    refine ⟨ht, (sEnv_txt (by omega)).trans (by rw [ht]), (sEnv_pv _).trans ?_, (sEnv_lst (by omega)).trans ?_⟩
    · unfold Two.C; rw [if_neg (by omega), if_neg (by omega), if_neg (by omega), if_neg (by omega)]
    · unfold Two.zs; rw [if_neg (by omega), if_neg (by omega), if_pos rfl]
  · have : (t.env h).int (pvIx (8 + 16 * 0 + i)) = t.C (8 + 16 * 0 + i) := sEnv_pv _
    rw [this]
    unfold Two.C
    rw [if_neg (by omega), if_pos (by omega), show 8 + 16 * 0 + i - 8 = i from by omega]
theorem Two.facts1 : @MFacts (t.env h) t.c1 1 t.s1 t.d1 t.l1 := by
  letI := t.env h
  have hj := t.c0.j_lt 0 (by omega)
  have hj1 := t.c1.j_lt 1 (by omega)
  refine { txt := fun hs => ?_, pv := fun i hi => ?_ }
  · have ht : t.tx (1000 + t.c1.j 1) = t.s1 := by
      unfold Two.tx
      rw [if_neg (by omega), if_pos rfl]
      cases hc : t.c1 with
      | sum => rw [hc] at hs; cases hs
      | _ => rfl
    refine ⟨ht, (sEnv_txt (by omega)).trans (by rw [ht]), (sEnv_pv _).trans ?_, (sEnv_lst (by omega)).trans ?_⟩
    · unfold Two.C; rw [if_neg (by omega), if_neg (by omega), if_neg (by omega), if_pos rfl]
    · unfold Two.zs; rw [if_neg (by omega), if_neg (by omega), if_neg (by omega), if_pos rfl]
  · have : (t.env h).int (pvIx (8 + 16 * 1 + i)) = t.C (8 + 16 * 1 + i) := sEnv_pv _
    rw [this]
    unfold Two.C
    rw [if_neg (by omega), if_neg (by omega), if_pos (by omega), show 8 + 16 * 1 + i - 24 = i from by omega]
theorem Two.listE : @ListE (t.env h) t.zs :=
  letI := t.env h
  { lst := fun j hj => sEnv_lst hj
    rng := fun j => (Two.zs_ok h j).1
    no := fun j hj => by unfold Two.zs; rw [if_pos hj]; exact ten_no }
theorem zero0_no {d : Int} {l : List Int} : ¬ SumZ zero0 d l := by
  rintro ⟨⟨k, hk, hs⟩, _⟩
  have : k = 0 ∨ k = 1 ∨ k = 2 ∨ k = 3 ∨ k = 4 := by omega
  have h2 : zero0.data.toList = (kText.getD k ⟨#[]⟩).data.toList := by rw [← hs]
  rcases this with rfl | rfl | rfl | rfl | rfl <;> exact absurd h2 (by decide)
theorem MC.tx_no {c : MC} {s : ByteArray} {d d' : Int} {a : Option Addr} {cap : Nat} {l : List Int} (hf : c.Fits s d a cap l) (hd : c.isSum = false → d' = d) : ¬ SumZ (c.tx s) d' l := by
  cases c with
  | sum => exact zero0_no
  | nil => rw [hd rfl]; exact hf.2.2.2
  | zero => rw [hd rfl]; exact hf.2.2.2
  | emp => rw [hd rfl]; exact hf.2.2
  | opq => rw [hd rfl]; exact hf.2
theorem MC.odd_nil {c : MC} {q : Nat} {s : ByteArray} {d : Int} {a : Option Addr} {cap : Nat} {l : List Int} (hf : c.Fits s d a cap l) (h : c.j q % 2 = 1) : l = [] := by
  cases c with
  | sum => have h : (2 * q) % 2 = 1 := h; omega
  | nil => exact hf.2.2.1
  | zero => exact hf.2.2.1
  | emp => exact hf.2.1
  | opq => have h : (2 * q) % 2 = 1 := h; omega
theorem Two.sumE {a0 a1 : Option Addr} {cap0 cap1 : Nat} (f0 : t.c0.Fits t.s0 t.d0 a0 cap0 t.l0) (f1 : t.c1.Fits t.s1 t.d1 a1 cap1 t.l1) : @SumE (t.env h) t.zs := by
  letI := t.env h
  have hj := t.c0.j_lt 0 (by omega)
  have hj1 := t.c1.j_lt 1 (by omega)
  refine { lst := Two.listE h, no := fun j hj8 => ?_, emp := fun j hj8 hodd => ?_ }
  · have e1 : (t.env h).int (pvIx (36 + j)) = t.C (36 + j) := sEnv_pv _
    show ¬ SumZ (t.tx (1000 + j)) ((t.env h).int (pvIx (36 + j))) (t.zs (16 + j))
    rw [e1]
    unfold Two.tx
    by_cases h0 : j = t.c0.j 0
    · rw [if_pos (by omega)]
      have ez : t.zs (16 + j) = t.l0 := by unfold Two.zs; rw [if_neg (by omega), if_neg (by omega), if_pos (by omega)]
      rw [ez]
      refine MC.tx_no f0 (fun _ => ?_)
      unfold Two.C; rw [if_neg (by omega), if_neg (by omega), if_neg (by omega), if_neg (by omega)]
    · rw [if_neg (by omega)]
      by_cases h1 : j = t.c1.j 1
      · rw [if_pos (by omega)]
        have ez : t.zs (16 + j) = t.l1 := by unfold Two.zs; rw [if_neg (by omega), if_neg (by omega), if_neg (by omega), if_pos (by omega)]
        rw [ez]
        refine MC.tx_no f1 (fun _ => ?_)
        unfold Two.C; rw [if_neg (by omega), if_neg (by omega), if_neg (by omega), if_pos (by omega)]
      · rw [if_neg (by omega)]
        exact zero0_no
  · unfold Two.zs
    rw [if_neg (by omega), if_neg (by omega)]
    split
    · rename_i he
      exact MC.odd_nil (q := 0) f0 (by omega)
    · split
      · exact MC.odd_nil (q := 1) f1 (by omega)
      · rfl
end

/-! ### runs -/
structure SFns where
  sz : Nat
  inn : Nat
  of : Nat
  gcd : Nat
noncomputable section
/-- what is left of a room -/
def R1 (j rw : Nat) : Nat → Nat → Nat := fun i lw => sel (Nat.beq i j) (sel (Nat.beq lw (wI 1048576)) rw 0) 0
def R2 (j0 rw0 j1 lw1 rw1 : Nat) : Nat → Nat → Nat := fun i lw => sel (Nat.beq i j0) (sel (Nat.beq lw (wI 1048576)) rw0 0) (sel (Nat.beq i j1) (sel (Nat.beq lw lw1) rw1 0) 0)
def sRun (P : Program) (S0 : Sums) (F : Fns) (G : SFns) (R : Nat → Nat → Nat) (fuel d f : Nat) (args : List Nat) (H : Trie) (n : Nat) : OR := funE P (callN P (orS (orS F.S (sumsS R G.sz G.inn G.of G.gcd)) S0) fuel d) fuel f args H n
/-- a law on one sum -/
def oneSum (P : Program) (S0 : Sums) (F : Fns) (G : SFns) (fuel d f k e : Nat) : OR := sRun P S0 F G (fun _ _ => 0) fuel d f [mk 6 1] ((MC.sum k e).heap 0 0 false .nil) 2
def oneNoS (P : Program) (S0 : Sums) (F : Fns) (G : SFns) (fuel d f : Nat) (c : MC) (r : RC) : OR := sRun P S0 F G (R1 (c.j 0) (r.word 0)) fuel d f [mk 6 1] (c.heap 0 0 r.isLong .nil) 2
end
def mNo : List MC := [.nil, .zero, .emp, .opq]
def ks5 : List Nat := [0, 1, 2, 3, 4]
theorem ks5_mem {k : Nat} (h : k < 5) : k ∈ ks5 := by
  have : k = 0 ∨ k = 1 ∨ k = 2 ∨ k = 3 ∨ k = 4 := by omega
  rcases this with h | h | h | h | h <;> rw [h] <;> decide
theorem degs7_mem {k : Nat} (h : k ≤ 6) : k ∈ degs7 := by
  have : k = 0 ∨ k = 1 ∨ k = 2 ∨ k = 3 ∨ k = 4 ∨ k = 5 ∨ k = 6 := by omega
  rcases this with h | h | h | h | h | h | h <;> rw [h] <;> decide
theorem rng0 : Rng 0 := ⟨by omega, by omega⟩
theorem szZ_rng {z : Int} {a b : Nat} (h : z ≤ 1048576) : Rng (szZ z a b) := by
  rcases szZ_range (a := a) (b := b) h with h | ⟨h1, h2, _⟩
  · rw [h]; exact ⟨by omega, by omega⟩
  · exact ⟨by omega, by omega⟩
theorem mNo_sum {c : MC} (h : c ∈ mNo) : c.isSum = false := by
  simp only [mNo, List.mem_cons, List.not_mem_nil, or_false] at h
  rcases h with rfl | rfl | rfl | rfl <;> rfl
theorem RC.long_of {r : RC} {z : Int} {s : ByteArray} {l : List Int} (hz : z ≤ 1048576) (hf : r.Fits (szZ z s.size l.length)) : r.isLong = false → l.length ≤ 1048576 := fun h => by
  have := RC.short hz hf h; omega

theorem dummy_fits : (MC.sum 0 0).Fits (kText.getD 0 ⟨#[]⟩) 0 none 0 [0] := ⟨by omega, by omega, rfl, rfl, rfl, fun i hi => by
  have : i = 0 := by simp at hi; omega
  subst this; exact ⟨by decide, by decide⟩⟩
/-- one sum, and no other -/
def oneT (c : MC) (s : ByteArray) (d : Int) (l : List Int) (z : Int) (pv : Nat → Int) (zp : List Int) : Two := ⟨c, .sum 0 0, s, kText.getD 0 ⟨#[]⟩, d, 0, l, [0], z, 0, pv, zp⟩
theorem oneT_ok {w : World} {s : ByteArray} {d : Int} {a : Option Addr} {len cap : Nat} {l : List Int} (h : SumArg w s d a len cap l) {c : MC} {z : Int} {pv : Nat → Int} {zp : List Int} (hz : Rng z) (hp : ∀ i, Rng (pv i)) (hzp : (∀ x ∈ zp, Rng x) ∧ zp.length < 9223372036854775808) :
    (oneT c s d l z pv zp).Ok :=
  ⟨h.size, by show (kText.getD 0 ⟨#[]⟩).size < _; decide, h.deg, rng0, ⟨h.row.wf.1, h.row.wf.2.1⟩, ⟨fun x hx => by simp [oneT] at hx; subst hx; exact rng0, by show ([0] : List Int).length < _; decide⟩, hz, rng0, hp, hzp⟩
/-- what is left of the whole room by the first sum -/
theorem R1_ok {t : Two} (ok : t.Ok) {r : RC} {s : ByteArray} {d : Int} {l : List Int} (hc : t.c0.isSum = false) (hs : t.s0 = s) (hd : t.d0 = d) (hl : t.l0 = l) (hz : t.z0 = szZ 1048576 s.size l.length) (hr : r.Fits (szZ 1048576 s.size l.length)) :
    letI := t.env ok
    ∀ lw, lw = wI 1048576 → ∀ (ρ : Rho) (L : Look) (v : Value), VR ρ L lw v → ∃ z, v = .int .i64 z ∧ 0 ≤ z ∧ z ≤ 1048576 ∧ VR ρ L (r.word 0) (.int .i64 (szZ z (Env.txt (1000 + t.c0.j 0)).size (t.zs (16 + t.c0.j 0)).length)) := by
  letI := t.env ok
  rintro lw rfl ρ L v hv
  obtain ⟨q, _, _, hp, rfl⟩ := hv.int_inv (tag_wI _)
  have hq : q = 1048576 := by rw [← hp]; rfl
  subst hq
  have e0 : sInt 1048576 = 1048576 := by unfold sInt; rw [if_pos (by omega)]; rfl
  rw [e0]
  have hj := t.c0.j_lt 0 (by omega)
  have F := Two.facts0 ok
  have ht : (Env.txt (1000 + t.c0.j 0)) = s := (F.txt hc).1.trans hs
  have hzs : t.zs (16 + t.c0.j 0) = l := by
    unfold Two.zs; rw [if_neg (by omega), if_neg (by omega), if_pos rfl]; exact hl
  refine ⟨1048576, rfl, by omega, by omega, ?_⟩
  rw [ht, hzs]
  exact RC.put (q := 0) hr ((Two.e950 ok).trans hz)

/-- ██ The walk of a law on one sum, out of its runs. -/
theorem sum_walk {P : Program} {S0 : Sums} (hS0 : Always P S0) {F : Fns} {G : SFns} {tInt fuel dd f : Nat} (K : ListK P F.to F.eq F.mark F.inn F.of tInt) (KS : SumK P G.sz G.inn G.of G.gcd) {w : World}
    {s : ByteArray} {d : Int} {a : Option Addr} {len cap : Nat} {l : List Int} (h : SumArg w s d a len cap l)
    (h1 : ∀ k ∈ ks5, ∀ e ∈ degs7, isTrue (oneSum P S0 F G fuel dd f k e) = true) (h2 : ∀ c ∈ mNo, ∀ r ∈ rooms, isTrue (oneNoS P S0 F G fuel dd f c r) = true) :
    Calls P f #[.agg #[.string s, .int .i64 d, .slice a len cap]] w fun e w' => e = .returned (.bool true) ∧ Below w.heap.size w w' := by
  rcases MC.of s d w a len cap l h.row with ⟨k, hk, e, he, hf⟩ | ⟨c, hc, hf⟩
  · have ok : (oneT (.sum k e) s d l 0 (fun _ => 0) [7]).Ok := oneT_ok h rng0 (fun _ => rng0) seven_rng
    letI E : Env := Two.env _ ok
    have hE := Two.sumE ok (a0 := a) (cap0 := cap) hf dummy_fits
    obtain ⟨ρ, L, c, _, hv⟩ := MC.put (q := 0) (n := 0) (long := false) (Ctx.start w) (by omega) (by omega) h.row hf (Two.facts0 ok) (fun _ => by have := npS_bound he; have := hf.2.2.2.2.1; omega)
    exact run_true (orS_sound (orS_sound (listS_sound K hE.lst) (sumsS_sound KS hE (fun j lw _ h0 => absurd rfl h0))) (hS0 _)) c (.cons _ _ _ _ hv .nil) (h1 k (ks5_mem hk) e (degs7_mem he))
  · have hlen : (1048576 : Int) ≤ 1048576 := Int.le_refl _
    obtain ⟨r, hrm, hr⟩ := RC.of (a := s.size) (b := l.length) hlen
    have ok : (oneT c s d l (szZ 1048576 s.size l.length) (fun _ => 0) [7]).Ok := oneT_ok h (szZ_rng hlen) (fun _ => rng0) seven_rng
    letI E : Env := Two.env _ ok
    have hE := Two.sumE ok (a0 := a) (cap0 := cap) hf dummy_fits
    have hcs := mNo_sum hc
    obtain ⟨ρ, L, cx, _, hv⟩ := MC.put (q := 0) (n := 0) (long := r.isLong) (Ctx.start w) (by omega) (by omega) h.row hf (Two.facts0 ok) (RC.long_of hlen hr)
    refine run_true (orS_sound (orS_sound (listS_sound K hE.lst) (sumsS_sound KS hE (R := R1 (c.j 0) (r.word 0)) (fun j lw _ h0 => ?_))) (hS0 _)) cx (.cons _ _ _ _ hv .nil) (h2 c hc r hrm)
    unfold R1 at h0 ⊢
    rw [sel_beq, sel_beq] at h0 ⊢
    by_cases hj : j = c.j 0
    · rw [if_pos hj] at h0 ⊢
      by_cases hw : lw = wI 1048576
      · rw [if_pos hw]
        subst hj
        exact R1_ok ok hcs rfl rfl rfl rfl hr lw hw
      · rw [if_neg hw] at h0; exact absurd rfl h0
    · rw [if_neg hj] at h0; exact absurd rfl h0
end Go.Eng

/- Laws on two sums, on a sum and an int, on a sum and a point: the walks. -/
namespace Go.Eng
set_option linter.unusedSectionVars false
set_option linter.unusedSimpArgs false
set_option linter.unusedVariables false
open Go Go.RowKit

/-! ### facts: what is known beforehand of sums of products -/
theorem PolyR.up {x : Nat → Int} {p s d : Nat} {z : Int} (h : PolyR x p 0 s d z) (h1 : d % 12 ≤ 1) (h2 : d / 12 ≤ 1) : PolyR x p 0 s 73 z := by
  have := h.add (PolyR.const (x := x) (s := 0) (p := 0) (n := 0) 0 (by decide) (by decide)) (D := 73) ⟨by omega, by omega⟩ ⟨by omega, by omega⟩
  simpa using this
/-- bounds of an int of 64 bits -/
def inF : Nat × Nat := (9223372036853775808, 9223372036855775808)
def upF : Nat × Nat := (9223372036855775809, 9223373036854775808)
def lowF : Nat × Nat := (9223371036854775808, 9223372036853775807)
def FitsF (b : Nat × Nat) (z : Int) : Prop := b.1 < 18446744073709551616 ∧ b.2 < 18446744073709551616 ∧ (b.1 : Int) - 9223372036854775808 ≤ z ∧ z ≤ (b.2 : Int) - 9223372036854775808
theorem fact_add [E : Env] {i j : Nat} {b : Nat × Nat} (hi : pvOk i = true) (hj : pvOk j = true) (di : pvDeg i = 12) (dj : pvDeg j = 12) (hz : FitsF b (E.int (pvIx i) + E.int (pvIx j))) :
    ∃ z, PolyZ (Nat.add (pvPow i) (pvPow j)) 0 2 73 b.1 b.2 z := by
  have h1 := PolyR.var (x := fun i => E.int (pvIx i)) hi
  have h2 := PolyR.var (x := fun i => E.int (pvIx i)) hj
  have h3 := h1.add h2 (D := 12) (by rw [di]; decide) (by rw [dj]; decide)
  exact ⟨_, hz.1, hz.2.1, hz.2.2.1, hz.2.2.2, _, PolyR.up h3 (by decide) (by decide), by omega⟩
theorem fact_mul [E : Env] {i j : Nat} {b : Nat × Nat} (hi : pvOk i = true) (hj : pvOk j = true) (di : pvDeg i = 1) (dj : pvDeg j = 12) (hz : FitsF b (E.int (pvIx i) * E.int (pvIx j))) :
    ∃ z, PolyZ (Nat.mul (pvPow i) (pvPow j)) 0 1 73 b.1 b.2 z := by
  have h1 := PolyR.var (x := fun i => E.int (pvIx i)) hi
  have h2 := PolyR.var (x := fun i => E.int (pvIx i)) hj
  have h3 := h1.mul h2 (by rw [di, dj]; decide) (by rw [di, dj]; decide)
  rw [di, dj] at h3
  have h4 : PolyR (fun i => E.int (pvIx i)) (pvPow i * pvPow j) 0 1 13 (E.int (pvIx i) * E.int (pvIx j)) := by simpa using h3
  exact ⟨_, hz.1, hz.2.1, hz.2.2.1, hz.2.2.2, _, PolyR.up h4 (by decide) (by decide), by omega⟩

/-- Which numbers of a result are in range: all; so many, and then one that isn't. -/
inductive OC where
  | all
  | bad (p : Nat) (up : Bool)
noncomputable section
def selF (up : Bool) : Nat × Nat := Bool.rec (motive := fun _ => Nat × Nat) lowF upF up
/-- facts on the first m places: in range -/
def inFs (P : Nat → Nat) (s m : Nat) : List (Nat × Nat × Nat × Nat) := Nat.rec (motive := fun _ => List (Nat × Nat × Nat × Nat)) [] (fun i ih => (P i, s, inF.1, inF.2) :: ih) m
def OC.facts (o : OC) (P : Nat → Nat) (s n : Nat) : List (Nat × Nat × Nat × Nat) :=
  OC.rec (motive := fun _ => List (Nat × Nat × Nat × Nat)) (inFs P s n) (fun p up => (P p, s, (selF up).1, (selF up).2) :: inFs P s p) o
def ocBads (m : Nat) : List OC := Nat.rec (motive := fun _ => List OC) [] (fun m ih => .bad m false :: .bad m true :: ih) m
def ocs (n : Nat) : List OC := .all :: ocBads n
def OC.len (o : OC) (n : Nat) : Nat := OC.rec (motive := fun _ => Nat) n (fun p _ => Nat.succ p) o
end
theorem inFs_len (P : Nat → Nat) (s : Nat) : ∀ m, (inFs P s m).length = m
  | 0 => rfl
  | m + 1 => by
    have e : inFs P s (m + 1) = (P m, s, inF.1, inF.2) :: inFs P s m := rfl
    rw [e, List.length_cons, inFs_len P s m]
theorem OC.facts_len (o : OC) (P : Nat → Nat) (s n : Nat) : (o.facts P s n).length = o.len n := by
  cases o with
  | all => exact inFs_len P s n
  | bad p up =>
    have e : (OC.bad p up).facts P s n = (P p, s, (selF up).1, (selF up).2) :: inFs P s p := rfl
    rw [e, List.length_cons, inFs_len]; rfl
theorem inFs_mem {P : Nat → Nat} {s : Nat} {f : Nat × Nat × Nat × Nat} : ∀ {m : Nat}, f ∈ inFs P s m → ∃ i, i < m ∧ f = (P i, s, inF.1, inF.2)
  | 0, h => by cases h
  | m + 1, h => by
    have e : inFs P s (m + 1) = (P m, s, inF.1, inF.2) :: inFs P s m := rfl
    rw [e] at h
    rcases List.mem_cons.1 h with h | h
    · exact ⟨m, by omega, h⟩
    · obtain ⟨i, hi, h⟩ := inFs_mem h
      exact ⟨i, by omega, h⟩
theorem ocBads_mem {p : Nat} (b : Bool) : ∀ {m : Nat}, p < m → OC.bad p b ∈ ocBads m
  | 0, h => by omega
  | m + 1, h => by
    have e : ocBads (m + 1) = .bad m false :: .bad m true :: ocBads m := rfl
    rw [e]
    by_cases hp : p = m
    · subst hp; cases b <;> simp
    · have := ocBads_mem b (m := m) (p := p) (by omega)
      simp [this]
/-- the class of a result, and what is known of it -/
theorem OC.of (n : Nat) (v : Nat → Int) (hb : ∀ i, i < n → -1000000000000 ≤ v i ∧ v i ≤ 1000000000000) (P : Nat → Nat) (s : Nat) (Q : Nat × Nat × Nat × Nat → Prop) (hQ : ∀ i b, i < n → FitsF b (v i) → Q (P i, s, b.1, b.2)) :
    ∃ o ∈ ocs n, (∀ f ∈ o.facts P s n, Q f) ∧ o.len n ≤ n := by
  have fin : ∀ z : Int, -1000000 ≤ z → z ≤ 1000000 → FitsF inF z := fun z h1 h2 => by
    refine ⟨by decide, by decide, ?_, ?_⟩ <;> simp only [inF] <;> omega
  by_cases hex : ∃ p, p < n ∧ ¬ (-1000000 ≤ v p ∧ v p ≤ 1000000)
  · have : ∃ p, p < n ∧ (∀ i, i < p → -1000000 ≤ v i ∧ v i ≤ 1000000) ∧ ¬ (-1000000 ≤ v p ∧ v p ≤ 1000000) := by
      obtain ⟨p, hp⟩ := hex
      induction p using Nat.strongRecOn with
      | _ p ih =>
        by_cases hq : ∃ i, i < p ∧ ¬ (-1000000 ≤ v i ∧ v i ≤ 1000000)
        · obtain ⟨i, hi, hz⟩ := hq
          exact ih i hi ⟨by omega, hz⟩
        · refine ⟨p, hp.1, fun i hi => ?_, hp.2⟩
          by_cases hz : -1000000 ≤ v i ∧ v i ≤ 1000000
          · exact hz
          · exact absurd ⟨i, hi, hz⟩ hq
    obtain ⟨p, hp, hin, hout⟩ := this
    have hpb := hb p hp
    have hsel : ∃ up : Bool, FitsF (selF up) (v p) := by
      by_cases hup : 1000000 < v p
      · refine ⟨true, by decide, by decide, ?_, ?_⟩
        · show ((9223372036855775809 : Nat) : Int) - _ ≤ _; omega
        · show _ ≤ ((9223373036854775808 : Nat) : Int) - _; omega
      · refine ⟨false, by decide, by decide, ?_, ?_⟩
        · show ((9223371036854775808 : Nat) : Int) - _ ≤ _; omega
        · show _ ≤ ((9223372036853775807 : Nat) : Int) - _; omega
    obtain ⟨up, hup⟩ := hsel
    refine ⟨.bad p up, List.mem_cons_of_mem _ (ocBads_mem up hp), fun f hf => ?_, hp⟩
    have e : (OC.bad p up).facts P s n = (P p, s, (selF up).1, (selF up).2) :: inFs P s p := rfl
    rw [e] at hf
    rcases List.mem_cons.1 hf with rfl | hf
    · exact hQ p _ hp hup
    · obtain ⟨i, hi, rfl⟩ := inFs_mem hf
      exact hQ i inF (by omega) (fin _ (hin i hi).1 (hin i hi).2)
  · refine ⟨.all, List.mem_cons_self, fun f hf => ?_, Nat.le_refl _⟩
    obtain ⟨i, hi, rfl⟩ := inFs_mem (show f ∈ inFs P s n from hf)
    have : -1000000 ≤ v i ∧ v i ≤ 1000000 := by
      by_cases hz : -1000000 ≤ v i ∧ v i ≤ 1000000
      · exact hz
      · exact absurd ⟨i, hi, hz⟩ hex
    exact hQ i inF hi (fin _ this.1 this.2)

/-! ### a sum and an int -/
/-- An int that comes in as a factor: in range, below, above. -/
inductive KC where
  | mid
  | low
  | up
noncomputable section
def KC.word (c : KC) : Nat := KC.rec (motive := fun _ => Nat) (wV (pvIx 0) bIn.1 bIn.2) (wV (pvIx 0) bLow.1 bLow.2) (wV (pvIx 0) bUp.1 bUp.2) c
def KC.Fits (c : KC) (z : Int) : Prop := KC.rec (motive := fun _ => Prop) (-1000000 ≤ z ∧ z ≤ 1000000) (z < -1000000) (1000000 < z) c
def kcs : List KC := [.mid, .low, .up]
/-- the products of the factor and the numbers -/
def mulPz (i : Nat) : Nat := Nat.mul (pvPow 0) (pvPow (Nat.add 8 i))
def addP (i : Nat) : Nat := Nat.add (pvPow (Nat.add 8 i)) (pvPow (Nat.add 24 i))
def sumInt (P : Program) (S0 : Sums) (F : Fns) (G : SFns) (fuel d f k e : Nat) (c : KC) : OR := sRun P S0 F G (fun _ _ => 0) fuel d f [mk 6 1, c.word] ((MC.sum k e).heap 0 0 false .nil) 2
def sumIntO (P : Program) (S0 : Sums) (F : Fns) (G : SFns) (fuel d f k e : Nat) (o : OC) : OR :=
  sRun P S0 F G (fun _ _ => 0) fuel d f [mk 6 (Nat.succ (o.len (npS e))), KC.word .mid] ((MC.sum k e).heap 0 (o.len (npS e)) false (factH (o.facts mulPz 1 (npS e)) 0 .nil)) (Nat.succ (Nat.succ (o.len (npS e))))
def noInt (P : Program) (S0 : Sums) (F : Fns) (G : SFns) (fuel d f : Nat) (c : MC) (r : RC) (k : KC) : OR := sRun P S0 F G (R1 (c.j 0) (r.word 0)) fuel d f [mk 6 1, k.word] (c.heap 0 0 r.isLong .nil) 2
end
theorem KC.of (z : Int) : ∃ c ∈ kcs, c.Fits z := by
  by_cases h1 : z < -1000000
  · exact ⟨.low, by simp [kcs], h1⟩
  · by_cases h2 : 1000000 < z
    · exact ⟨.up, by simp [kcs], h2⟩
    · exact ⟨.mid, by simp [kcs], by show _ ∧ _; omega⟩
theorem KC.put [E : Env] {ρ : Rho} {L : Look} {c : KC} {z : Int} (hf : c.Fits z) (he : E.int (pvIx 0) = z) : VR ρ L c.word (.int .i64 z) := by
  cases c with
  | mid =>
    have hf : -1000000 ≤ z ∧ z ≤ 1000000 := hf
    rw [← he]
    exact .var _ _ _ (by decide) (by decide) (.inr (by rw [he]; show ((549754813888 : Nat) : Int) - _ ≤ _; omega)) (.inr (by rw [he]; show _ ≤ ((549756813888 : Nat) : Int) - _; omega))
  | low =>
    have hf : z < -1000000 := hf
    rw [← he]
    exact .var _ _ _ (by decide) (by decide) (.inl rfl) (.inr (by rw [he]; show _ ≤ ((549754813887 : Nat) : Int) - _; omega))
  | up =>
    have hf : 1000000 < z := hf
    rw [← he]
    exact .var _ _ _ (by decide) (by decide) (.inr (by rw [he]; show ((549756813889 : Nat) : Int) - _ ≤ _; omega)) (.inl rfl)

theorem pv_rows {i : Nat} (h : i < 11) : pvOk (8 + i) = true ∧ pvDeg (8 + i) = 12 ∧ pvOk (24 + i) = true ∧ pvDeg (24 + i) = 12 := by
  have : i = 0 ∨ i = 1 ∨ i = 2 ∨ i = 3 ∨ i = 4 ∨ i = 5 ∨ i = 6 ∨ i = 7 ∨ i = 8 ∨ i = 9 ∨ i = 10 := by omega
  rcases this with h | h | h | h | h | h | h | h | h | h | h <;> rw [h] <;> exact ⟨by decide, by decide, by decide, by decide⟩
theorem mul_range {a b : Int} (h1 : -1000000 ≤ a ∧ a ≤ 1000000) (h2 : -1000000 ≤ b ∧ b ≤ 1000000) : -1000000000000 ≤ a * b ∧ a * b ≤ 1000000000000 := by
  have h3 : (a * b).natAbs ≤ 1000000 * 1000000 := by
    rw [Int.natAbs_mul]
    exact Nat.mul_le_mul (by omega) (by omega)
  omega

/-- ██ The walk of a law on a sum and an int, out of its runs. -/
theorem sumint_walk {P : Program} {S0 : Sums} (hS0 : Always P S0) {F : Fns} {G : SFns} {tInt fuel dd f : Nat} (K : ListK P F.to F.eq F.mark F.inn F.of tInt) (KS : SumK P G.sz G.inn G.of G.gcd) {w : World}
    {s : ByteArray} {d : Int} {a : Option Addr} {len cap : Nat} {l : List Int} (h : SumArg w s d a len cap l) {z : Int} (hz : (Lit.int .i64 z).wf = true)
    (h1 : ∀ k ∈ ks5, ∀ e ∈ degs7, ∀ c ∈ [KC.low, KC.up], isTrue (sumInt P S0 F G fuel dd f k e c) = true) (h2 : ∀ k ∈ ks5, ∀ e ∈ degs7, ∀ o ∈ ocs (npS e), isTrue (sumIntO P S0 F G fuel dd f k e o) = true)
    (h3 : ∀ c ∈ mNo, ∀ r ∈ rooms, ∀ k ∈ kcs, isTrue (noInt P S0 F G fuel dd f c r k) = true) :
    Calls P f #[.agg #[.string s, .int .i64 d, .slice a len cap], .int .i64 z] w fun e w' => e = .returned (.bool true) ∧ Below w.heap.size w w' := by
  have hzr : Rng z := wf_i64 hz
  obtain ⟨kc, hkc, hkf⟩ := KC.of z
  rcases MC.of s d w a len cap l h.row with ⟨k, hk, e, he, hf⟩ | ⟨c, hc, hf⟩
  · have ok : (oneT (.sum k e) s d l 0 (fun _ => z) [7]).Ok := oneT_ok h rng0 (fun _ => hzr) seven_rng
    letI E : Env := Two.env _ ok
    have hE := Two.sumE ok (a0 := a) (cap0 := cap) hf dummy_fits
    have hnp := npS_bound he
    have hll := hf.2.2.2.2.1
    have hpz : E.int (pvIx 0) = z := Two.ePv ok (by omega)
    have sums : SumS P (orS (orS F.S (sumsS (fun _ _ => 0) G.sz G.inn G.of G.gcd)) S0) := orS_sound (orS_sound (listS_sound K hE.lst) (sumsS_sound KS hE (fun j lw _ h0 => absurd rfl h0))) (hS0 _)
    by_cases hmid : kc = .mid
    · subst hmid
      have hkf : -1000000 ≤ z ∧ z ≤ 1000000 := hkf
      obtain ⟨o, ho, hof, hol⟩ := OC.of (npS e) (fun i => z * nth l i) (fun i hi => mul_range hkf (hf.2.2.2.2.2 i (by omega))) mulPz 1 (fun f => ∃ z, PolyZ f.1 0 f.2.1 73 f.2.2.1 f.2.2.2 z) (fun i b hi hb => by
        have hr := pv_rows (i := i) (by omega)
        have hv : E.int (pvIx (8 + i)) = nth l i := by
          have := (Two.facts0 ok).pv i (by omega)
          rw [show 8 + 16 * 0 + i = 8 + i from by omega] at this
          exact this
        exact fact_mul (i := 0) (j := 8 + i) (by decide) hr.1 (by decide) hr.2.1 (by rw [hpz, hv]; exact hb))
      have hfl := o.facts_len mulPz 1 (npS e)
      obtain ⟨L0, c0, _⟩ := put_facts (o.facts mulPz 1 (npS e)) 0 .nil _ _ w.heap.size w (Ctx.start w) (by rw [hfl]; omega) hof
      rw [hfl, Nat.zero_add] at c0
      obtain ⟨ρ, L, c, _, hv⟩ := MC.put (q := 0) (long := false) c0 (by omega) (by omega) h.row hf (Two.facts0 ok) (fun _ => by omega)
      exact run_true sums c (.cons _ _ _ _ hv (.cons _ _ _ _ (KC.put (c := .mid) hkf hpz) .nil)) (h2 k (ks5_mem hk) e (degs7_mem he) o ho)
    · obtain ⟨ρ, L, c, _, hv⟩ := MC.put (q := 0) (n := 0) (long := false) (Ctx.start w) (by omega) (by omega) h.row hf (Two.facts0 ok) (fun _ => by omega)
      refine run_true sums c (.cons _ _ _ _ hv (.cons _ _ _ _ (KC.put hkf hpz) .nil)) (h1 k (ks5_mem hk) e (degs7_mem he) kc ?_)
      cases kc with
      | mid => exact absurd rfl hmid
      | low => simp
      | up => simp
  · have hlen : (1048576 : Int) ≤ 1048576 := Int.le_refl _
    obtain ⟨r, hrm, hr⟩ := RC.of (a := s.size) (b := l.length) hlen
    have ok : (oneT c s d l (szZ 1048576 s.size l.length) (fun _ => z) [7]).Ok := oneT_ok h (szZ_rng hlen) (fun _ => hzr) seven_rng
    letI E : Env := Two.env _ ok
    have hE := Two.sumE ok (a0 := a) (cap0 := cap) hf dummy_fits
    have hcs := mNo_sum hc
    have hpz : E.int (pvIx 0) = z := Two.ePv ok (by omega)
    obtain ⟨ρ, L, cx, _, hv⟩ := MC.put (q := 0) (n := 0) (long := r.isLong) (Ctx.start w) (by omega) (by omega) h.row hf (Two.facts0 ok) (RC.long_of hlen hr)
    refine run_true (orS_sound (orS_sound (listS_sound K hE.lst) (sumsS_sound KS hE (R := R1 (c.j 0) (r.word 0)) (fun j lw _ h0 => ?_))) (hS0 _)) cx (.cons _ _ _ _ hv (.cons _ _ _ _ (KC.put hkf hpz) .nil)) (h3 c hc r hrm kc hkc)
    unfold R1 at h0 ⊢
    rw [sel_beq, sel_beq] at h0 ⊢
    by_cases hj : j = c.j 0
    · rw [if_pos hj] at h0 ⊢
      by_cases hw : lw = wI 1048576
      · rw [if_pos hw]
        subst hj
        exact R1_ok ok hcs rfl rfl rfl rfl hr lw hw
      · rw [if_neg hw] at h0; exact absurd rfl h0
    · rw [if_neg hj] at h0; exact absurd rfl h0

/-! ### a sum and a point -/
noncomputable section
def sptRun (P : Program) (S0 : Sums) (F : Fns) (G : SFns) (fi fo : Nat) (R : Nat → Nat → Nat) (fuel d f : Nat) (args : List Nat) (H : Trie) (n : Nat) : OR := funE P (callN P (orS (orS (orS F.S (pointS fi fo)) (sumsS R G.sz G.inn G.of G.gcd)) S0) fuel d) fuel f args H n
def sumPt (P : Program) (S0 : Sums) (F : Fns) (G : SFns) (fi fo fuel d f k e : Nat) (x : PCls) : OR :=
  sptRun P S0 F G fi fo (fun _ _ => 0) fuel d f [mk 6 1, x.word 2 8] (x.heap 2 8 ((MC.sum k e).heap 0 0 false .nil)) (x.next 2)
def noPt (P : Program) (S0 : Sums) (F : Fns) (G : SFns) (fi fo fuel d f : Nat) (c : MC) (r : RC) (x : PCls) : OR :=
  sptRun P S0 F G fi fo (R1 (c.j 0) (r.word 0)) fuel d f [mk 6 1, x.word 2 8] (x.heap 2 8 (c.heap 0 0 r.isLong .nil)) (x.next 2)
end
theorem R1_okq {t : Two} (ok : t.Ok) {r : RC} {q : Nat} {s : ByteArray} {l : List Int} (hc : t.c0.isSum = false) (hs : t.s0 = s) (hl : t.l0 = l) (hr : r.Fits (szZ 1048576 s.size l.length)) (hq : (t.env ok).int (950 + q) = szZ 1048576 s.size l.length) :
    letI := t.env ok
    ∀ (j lw : Nat), j < 8 → R1 (t.c0.j 0) (r.word q) j lw ≠ 0 → ∀ (ρ : Rho) (L : Look) (v : Value), VR ρ L lw v → ∃ z, v = .int .i64 z ∧ 0 ≤ z ∧ z ≤ 1048576 ∧ VR ρ L (R1 (t.c0.j 0) (r.word q) j lw) (.int .i64 (szZ z (Env.txt (1000 + j)).size (t.zs (16 + j)).length)) := by
  letI := t.env ok
  intro j lw _ h0
  unfold R1 at h0 ⊢
  rw [sel_beq, sel_beq] at h0 ⊢
  by_cases hj : j = t.c0.j 0
  · rw [if_pos hj] at h0 ⊢
    by_cases hw : lw = wI 1048576
    · rw [if_pos hw]
      subst hj
      subst hw
      intro ρ L v hv
      obtain ⟨m, _, _, hp, rfl⟩ := hv.int_inv (tag_wI _)
      have hm : m = 1048576 := by rw [← hp]; rfl
      subst hm
      have e0 : sInt 1048576 = 1048576 := by unfold sInt; rw [if_pos (by omega)]; rfl
      rw [e0]
      have hjl := t.c0.j_lt 0 (by omega)
      have ht : (Env.txt (1000 + t.c0.j 0)) = s := ((Two.facts0 ok).txt hc).1.trans hs
      have hzs : t.zs (16 + t.c0.j 0) = l := by
        unfold Two.zs; rw [if_neg (by omega), if_neg (by omega), if_pos rfl]; exact hl
      refine ⟨1048576, rfl, by omega, by omega, ?_⟩
      rw [ht, hzs]
      exact RC.put (q := q) hr hq
    · rw [if_neg hw] at h0; exact absurd rfl h0
  · rw [if_neg hj] at h0; exact absurd rfl h0
theorem R1_sound {t : Two} (ok : t.Ok) {r : RC} {s : ByteArray} {l : List Int} (hc : t.c0.isSum = false) (hs : t.s0 = s) (hl : t.l0 = l) (hz : t.z0 = szZ 1048576 s.size l.length) (hr : r.Fits (szZ 1048576 s.size l.length)) :
    letI := t.env ok
    ∀ (j lw : Nat), j < 8 → R1 (t.c0.j 0) (r.word 0) j lw ≠ 0 → ∀ (ρ : Rho) (L : Look) (v : Value), VR ρ L lw v → ∃ z, v = .int .i64 z ∧ 0 ≤ z ∧ z ≤ 1048576 ∧ VR ρ L (R1 (t.c0.j 0) (r.word 0) j lw) (.int .i64 (szZ z (Env.txt (1000 + j)).size (t.zs (16 + j)).length)) :=
  R1_okq ok (q := 0) hc hs hl hr ((Two.e950 ok).trans hz)

/-- ██ The walk of a law on a sum and a point, out of its runs. -/
theorem sumpt_walk {P : Program} {S0 : Sums} (hS0 : Always P S0) {F : Fns} {G : SFns} {tInt fi fo fuel dd f : Nat} (K : ListK P F.to F.eq F.mark F.inn F.of tInt) (KP : PointK P fi fo) (KS : SumK P G.sz G.inn G.of G.gcd) {w : World}
    {s : ByteArray} {d : Int} {a : Option Addr} {len cap : Nat} {l : List Int} (h : SumArg w s d a len cap l) {len2 cap2 : Nat} {a2 : Option Addr} {zs2 : List Int} (w2 : IntRow w a2 len2 cap2 zs2)
    (h1 : ∀ k ∈ ks5, ∀ e ∈ degs7, ∀ x ∈ pclasses, isTrue (sumPt P S0 F G fi fo fuel dd f k e x) = true) (h2 : ∀ c ∈ mNo, ∀ r ∈ rooms, ∀ x ∈ pclasses, isTrue (noPt P S0 F G fi fo fuel dd f c r x) = true) :
    Calls P f #[.agg #[.string s, .int .i64 d, .slice a len cap], .slice a2 len2 cap2] w fun e w' => e = .returned (.bool true) ∧ Below w.heap.size w w' := by
  obtain ⟨x, hx, fx⟩ := PCls.of_row w2
  obtain ⟨t21, t22, t23⟩ := PCls.told_ok w2 fx
  have hpv : ∀ i, Rng (nth (zs2.take len2) i) := fun i => nth_wf w2.wf i
  have hzp : (∀ y ∈ x.told (zs2.take len2), Rng y) ∧ (x.told (zs2.take len2)).length < 9223372036854775808 := ⟨t22, t21⟩
  rcases MC.of s d w a len cap l h.row with ⟨k, hk, e, he, hf⟩ | ⟨c, hc, hf⟩
  · have ok : (oneT (.sum k e) s d l 0 (fun i => nth (zs2.take len2) i) (x.told (zs2.take len2))).Ok := oneT_ok h rng0 hpv hzp
    letI E : Env := Two.env _ ok
    have hE := Two.sumE ok (a0 := a) (cap0 := cap) hf dummy_fits
    have hP : ∀ j, 8 ≤ j → j < 16 → ¬ PtZ (nth ((oneT (.sum k e) s d l 0 (fun i => nth (zs2.take len2) i) (x.told (zs2.take len2))).zs j)) ((oneT (.sum k e) s d l 0 (fun i => nth (zs2.take len2) i) (x.told (zs2.take len2))).zs j).length := fun j h8 h16 => by
      rw [Two.eZp h8 h16]; exact t23
    obtain ⟨ρ, L, c, _, hv⟩ := MC.put (q := 0) (n := 0) (long := false) (Ctx.start w) (by omega) (by omega) h.row hf (Two.facts0 ok) (fun _ => by have := npS_bound he; have := hf.2.2.2.2.1; omega)
    obtain ⟨ρ2, L2, c2, e2, v2⟩ := x.put c (by omega) (j := 8) (by omega) w2 fx ((hE.lst.lst 8 (by omega)).trans (by rw [Two.eZp (by omega) (by omega)]; rfl)) (fun i hi => Two.ePv ok hi)
    exact run_true (orS_sound (orS_sound (orS_sound (listS_sound K hE.lst) (pointS_sound KP hE.lst hP)) (sumsS_sound KS hE (fun j lw _ h0 => absurd rfl h0))) (hS0 _)) c2 (.cons _ _ _ _ (hv.mono e2) (.cons _ _ _ _ v2 .nil)) (h1 k (ks5_mem hk) e (degs7_mem he) x hx)
  · have hlen : (1048576 : Int) ≤ 1048576 := Int.le_refl _
    obtain ⟨r, hrm, hr⟩ := RC.of (a := s.size) (b := l.length) hlen
    have ok : (oneT c s d l (szZ 1048576 s.size l.length) (fun i => nth (zs2.take len2) i) (x.told (zs2.take len2))).Ok := oneT_ok h (szZ_rng hlen) hpv hzp
    letI E : Env := Two.env _ ok
    have hE := Two.sumE ok (a0 := a) (cap0 := cap) hf dummy_fits
    have hcs := mNo_sum hc
    have hP : ∀ j, 8 ≤ j → j < 16 → ¬ PtZ (nth ((oneT c s d l (szZ 1048576 s.size l.length) (fun i => nth (zs2.take len2) i) (x.told (zs2.take len2))).zs j)) ((oneT c s d l (szZ 1048576 s.size l.length) (fun i => nth (zs2.take len2) i) (x.told (zs2.take len2))).zs j).length := fun j h8 h16 => by
      rw [Two.eZp h8 h16]; exact t23
    obtain ⟨ρ, L, cx, _, hv⟩ := MC.put (q := 0) (n := 0) (long := r.isLong) (Ctx.start w) (by omega) (by omega) h.row hf (Two.facts0 ok) (RC.long_of hlen hr)
    obtain ⟨ρ2, L2, c2, e2, v2⟩ := x.put cx (by omega) (j := 8) (by omega) w2 fx ((hE.lst.lst 8 (by omega)).trans (by rw [Two.eZp (by omega) (by omega)]; rfl)) (fun i hi => Two.ePv ok hi)
    exact run_true (orS_sound (orS_sound (orS_sound (listS_sound K hE.lst) (pointS_sound KP hE.lst hP)) (sumsS_sound KS hE (R := R1 (c.j 0) (r.word 0)) (R1_sound ok hcs rfl rfl rfl hr))) (hS0 _)) c2 (.cons _ _ _ _ (hv.mono e2) (.cons _ _ _ _ v2 .nil)) (h2 c hc r hrm x hx)

/-! ### two sums -/
/-- What the second sum leaves: something, nothing. -/
inductive FC where
  | fit
  | long
noncomputable section
def FC.word (r : FC) : Nat := FC.rec (motive := fun _ => Nat) (wV 951 549755813888 549756862464) (wI 18446744073709551615) r
def FC.isLong (r : FC) : Bool := FC.rec (motive := fun _ => Bool) false true r
def FC.Fits (r : FC) (z : Int) : Prop := FC.rec (motive := fun _ => Prop) (0 ≤ z ∧ z ≤ 1048576) (z = -1) r
/-- the room that a first sum leaves is the variable 1 of sums of products -/
def qP : Nat := 2199023254603
/-- the room ahead of the second sum, behind a first that is none -/
def RC.left (r : RC) : Nat := RC.rec (motive := fun _ => Nat) (RC.word .wide qP) (fun k => wI k) 15 r
def sumSum (P : Program) (S0 : Sums) (F : Fns) (G : SFns) (fuel d f k e k' e' : Nat) : OR := sRun P S0 F G (fun _ _ => 0) fuel d f [mk 6 1, mk 6 3] ((MC.sum k' e').heap 1 2 false ((MC.sum k e).heap 0 0 false .nil)) 4
def sumSumO (P : Program) (S0 : Sums) (F : Fns) (G : SFns) (fuel d f k e : Nat) (o : OC) : OR :=
  sRun P S0 F G (fun _ _ => 0) fuel d f [mk 6 (Nat.succ (o.len (npS e))), mk 6 (Nat.add (o.len (npS e)) 3)] ((MC.sum k e).heap 1 (Nat.add (o.len (npS e)) 2) false ((MC.sum k e).heap 0 (o.len (npS e)) false (factH (o.facts addP 2 (npS e)) 0 .nil))) (Nat.add (o.len (npS e)) 4)
def sumNo (P : Program) (S0 : Sums) (F : Fns) (G : SFns) (fuel d f k e : Nat) (c : MC) (r : FC) : OR :=
  sRun P S0 F G (R2 100 0 (c.j 1) (wI (Nat.sub 1048575 (npS e))) r.word) fuel d f [mk 6 1, mk 6 3] (c.heap 1 2 r.isLong ((MC.sum k e).heap 0 0 false .nil)) 4
def noSum (P : Program) (S0 : Sums) (F : Fns) (G : SFns) (fuel d f : Nat) (c : MC) (r : RC) (k e : Nat) : OR :=
  sRun P S0 F G (R1 (c.j 0) (r.word qP)) fuel d f [mk 6 1, mk 6 3] ((MC.sum k e).heap 1 2 false (c.heap 0 0 r.isLong .nil)) 4
def noNo (P : Program) (S0 : Sums) (F : Fns) (G : SFns) (fuel d f : Nat) (c : MC) (r : RC) (c' : MC) (r' : FC) : OR :=
  sRun P S0 F G (R2 (c.j 0) (r.word qP) (c'.j 1) r.left r'.word) fuel d f [mk 6 1, mk 6 3] (c'.heap 1 2 r'.isLong (c.heap 0 0 r.isLong .nil)) 4
end
def fcs : List FC := [.fit, .long]
theorem FC.of {z : Int} {a b : Nat} (h : z ≤ 1048576) : ∃ r ∈ fcs, r.Fits (szZ z a b) := by
  rcases szZ_range (a := a) (b := b) h with h | ⟨h1, h2, _⟩
  · exact ⟨.long, by simp [fcs], h⟩
  · exact ⟨.fit, by simp [fcs], h1, h2⟩
theorem FC.put [E : Env] {ρ : Rho} {L : Look} {r : FC} {z : Int} (hf : r.Fits z) (hq : E.int 951 = z) : VR ρ L r.word (.int .i64 z) := by
  cases r with
  | fit =>
    obtain ⟨h1, h2⟩ := hf
    rw [← hq]
    exact .var 951 _ _ (by omega) (by omega) (.inr (by rw [hq]; omega)) (.inr (by rw [hq]; omega))
  | long =>
    have hf : z = -1 := hf
    subst hf
    exact .int 18446744073709551615 (by omega)
theorem FC.long_of {r : FC} {z : Int} {s : ByteArray} {l : List Int} (hz : z ≤ 1048576) (hf : r.Fits (szZ z s.size l.length)) : r.isLong = false → l.length ≤ 1048576 := fun h => by
  rcases szZ_range (a := s.size) (b := l.length) hz with h2 | ⟨_, _, h2⟩
  · rw [h2] at hf
    cases r with
    | fit => exact absurd hf.1 (by omega)
    | long => cases h
  · omega
/-- two sums -/
def twoT (c c' : MC) (s s' : ByteArray) (d d' : Int) (l l' : List Int) (z z' : Int) : Two := ⟨c, c', s, s', d, d', l, l', z, z', fun _ => z, [7]⟩
theorem twoT_ok {w : World} {s : ByteArray} {d : Int} {a : Option Addr} {len cap : Nat} {l : List Int} (h : SumArg w s d a len cap l) {s' : ByteArray} {d' : Int} {a' : Option Addr} {len' cap' : Nat} {l' : List Int} (h' : SumArg w s' d' a' len' cap' l') {c c' : MC} {z z' : Int} (hz : Rng z) (hz' : Rng z') :
    (twoT c c' s s' d d' l l' z z').Ok := ⟨h.size, h'.size, h.deg, h'.deg, ⟨h.row.wf.1, h.row.wf.2.1⟩, ⟨h'.row.wf.1, h'.row.wf.2.1⟩, hz, hz', fun _ => hz, seven_rng⟩
/-- what is left of what the first sum left -/
theorem R2_sound {t : Two} (ok : t.Ok) {j0 rw0 lw1 : Nat} {r : FC} (hc : t.c1.isSum = false) {z : Int} (hz0 : 0 ≤ z) (hz1 : z ≤ 1048576) (hz : t.z1 = szZ z t.s1.size t.l1.length) (hr : r.Fits (szZ z t.s1.size t.l1.length))
    (hl : letI := t.env ok; ∀ (ρ : Rho) (L : Look) (v : Value), VR ρ L lw1 v → v = .int .i64 z)
    (h0 : letI := t.env ok; ∀ (j lw : Nat), j < 8 → R1 j0 rw0 j lw ≠ 0 → ∀ (ρ : Rho) (L : Look) (v : Value), VR ρ L lw v → ∃ z, v = .int .i64 z ∧ 0 ≤ z ∧ z ≤ 1048576 ∧ VR ρ L (R1 j0 rw0 j lw) (.int .i64 (szZ z (Env.txt (1000 + j)).size (t.zs (16 + j)).length))) :
    letI := t.env ok
    ∀ (j lw : Nat), j < 8 → R2 j0 rw0 (t.c1.j 1) lw1 r.word j lw ≠ 0 → ∀ (ρ : Rho) (L : Look) (v : Value), VR ρ L lw v → ∃ z, v = .int .i64 z ∧ 0 ≤ z ∧ z ≤ 1048576 ∧ VR ρ L (R2 j0 rw0 (t.c1.j 1) lw1 r.word j lw) (.int .i64 (szZ z (Env.txt (1000 + j)).size (t.zs (16 + j)).length)) := by
  letI := t.env ok
  intro j lw hj8 h
  have e : R2 j0 rw0 (t.c1.j 1) lw1 r.word j lw = if j = j0 then (sel (Nat.beq lw (wI 1048576)) rw0 0) else (if j = t.c1.j 1 then (if lw = lw1 then r.word else 0) else 0) := by
    unfold R2; rw [sel_beq, sel_beq, sel_beq, sel_beq]
  rw [e] at h ⊢
  by_cases hj : j = j0
  · rw [if_pos hj] at h ⊢
    have e1 : R1 j0 rw0 j lw = sel (Nat.beq lw (wI 1048576)) rw0 0 := by unfold R1; rw [sel_beq, if_pos hj]
    have := h0 j lw hj8 (by rw [e1]; exact h)
    rw [e1] at this
    exact this
  · rw [if_neg hj] at h ⊢
    by_cases hj1 : j = t.c1.j 1
    · rw [if_pos hj1] at h ⊢
      by_cases hw : lw = lw1
      · rw [if_pos hw]
        intro ρ L v hv
        subst hw
        have hjt := t.c0.j_lt 0 (by omega)
        have hjt1 := t.c1.j_lt 1 (by omega)
        have Fc := Two.facts1 ok
        have ht : (Env.txt (1000 + t.c1.j 1)) = t.s1 := (Fc.txt hc).1
        have hzs : t.zs (16 + t.c1.j 1) = t.l1 := by
          unfold Two.zs; rw [if_neg (by omega), if_neg (by omega), if_neg (by omega), if_pos rfl]
        refine ⟨z, hl ρ L v hv, hz0, hz1, ?_⟩
        subst hj1
        rw [ht, hzs]
        exact FC.put hr ((Two.e951 ok).trans hz)
      · rw [if_neg hw] at h; exact absurd rfl h
    · rw [if_neg hj1] at h; exact absurd rfl h
theorem wI_val {E : Env} {ρ : Rho} {L : Look} {k : Nat} (hk : k < 9223372036854775808) {v : Value} (h : VR ρ L (wI k) v) : v = .int .i64 (k : Int) := by
  obtain ⟨q, _, _, hp, rfl⟩ := h.int_inv (tag_wI _)
  have hq : q = k := by rw [← hp, pay_wI]
  subst hq
  unfold sInt; rw [if_pos hk]

/-- ██ The walk of a law on two sums, out of its runs. -/
theorem sumsum_walk {P : Program} {S0 : Sums} (hS0 : Always P S0) {F : Fns} {G : SFns} {tInt fuel dd f : Nat} (K : ListK P F.to F.eq F.mark F.inn F.of tInt) (KS : SumK P G.sz G.inn G.of G.gcd) {w : World}
    {s : ByteArray} {d : Int} {a : Option Addr} {len cap : Nat} {l : List Int} (h : SumArg w s d a len cap l) {s' : ByteArray} {d' : Int} {a' : Option Addr} {len' cap' : Nat} {l' : List Int} (h' : SumArg w s' d' a' len' cap' l')
    (h1 : ∀ k ∈ ks5, ∀ e ∈ degs7, ∀ k' ∈ ks5, ∀ e' ∈ degs7, (k = k' ∧ e = e') ∨ isTrue (sumSum P S0 F G fuel dd f k e k' e') = true)
    (h2 : ∀ k ∈ ks5, ∀ e ∈ degs7, ∀ o ∈ ocs (npS e), isTrue (sumSumO P S0 F G fuel dd f k e o) = true)
    (h3 : ∀ k ∈ ks5, ∀ e ∈ degs7, ∀ c ∈ mNo, ∀ r ∈ fcs, isTrue (sumNo P S0 F G fuel dd f k e c r) = true)
    (h4 : ∀ c ∈ mNo, ∀ r ∈ rooms, ∀ k ∈ ks5, ∀ e ∈ degs7, isTrue (noSum P S0 F G fuel dd f c r k e) = true)
    (h5 : ∀ c ∈ mNo, ∀ r ∈ rooms, ∀ c' ∈ mNo, ∀ r' ∈ fcs, isTrue (noNo P S0 F G fuel dd f c r c' r') = true) :
    Calls P f #[.agg #[.string s, .int .i64 d, .slice a len cap], .agg #[.string s', .int .i64 d', .slice a' len' cap']] w fun e w' => e = .returned (.bool true) ∧ Below w.heap.size w w' := by
  have hlen : (1048576 : Int) ≤ 1048576 := Int.le_refl _
  rcases MC.of s d w a len cap l h.row with ⟨k, hk, e, he, hf⟩ | ⟨c, hc, hf⟩
  · have hnp := npS_bound he
    have hll := hf.2.2.2.2.1
    rcases MC.of s' d' w a' len' cap' l' h'.row with ⟨k', hk', e', he', hf'⟩ | ⟨c', hc', hf'⟩
    · have hnp' := npS_bound he'
      have hll' := hf'.2.2.2.2.1
      have ok : (twoT (.sum k e) (.sum k' e') s s' d d' l l' 0 0).Ok := twoT_ok h h' rng0 rng0
      letI E : Env := Two.env _ ok
      have hE := Two.sumE ok (a0 := a) (cap0 := cap) (a1 := a') (cap1 := cap') hf hf'
      have sums : SumS P (orS (orS F.S (sumsS (fun _ _ => 0) G.sz G.inn G.of G.gcd)) S0) := orS_sound (orS_sound (listS_sound K hE.lst) (sumsS_sound KS hE (fun j lw _ h0 => absurd rfl h0))) (hS0 _)
      rcases h1 k (ks5_mem hk) e (degs7_mem he) k' (ks5_mem hk') e' (degs7_mem he') with ⟨rfl, rfl⟩ | hrun
      · have hv0 : ∀ i, i < 11 → E.int (pvIx (8 + i)) = nth l i := fun i hi => by
          have := (Two.facts0 ok).pv i (by omega)
          rw [show 8 + 16 * 0 + i = 8 + i from by omega] at this
          exact this
        have hv1 : ∀ i, i < 11 → E.int (pvIx (24 + i)) = nth l' i := fun i hi => by
          have := (Two.facts1 ok).pv i (by omega)
          rw [show 8 + 16 * 1 + i = 24 + i from by omega] at this
          exact this
        obtain ⟨o, ho, hof, hol⟩ := OC.of (npS e) (fun i => nth l i + nth l' i) (fun i hi => by
          have a1 := hf.2.2.2.2.2 i (by omega)
          have a2 := hf'.2.2.2.2.2 i (by omega)
          show _ ≤ nth l i + nth l' i ∧ nth l i + nth l' i ≤ _
          omega) addP 2 (fun f => ∃ z, PolyZ f.1 0 f.2.1 73 f.2.2.1 f.2.2.2 z) (fun i b hi hb => by
          have hr := pv_rows (i := i) (by omega)
          exact fact_add (i := 8 + i) (j := 24 + i) hr.1 hr.2.2.1 hr.2.1 hr.2.2.2 (by rw [hv0 i (by omega), hv1 i (by omega)]; exact hb))
        have hfl := o.facts_len addP 2 (npS e)
        obtain ⟨L0, c0, _⟩ := put_facts (o.facts addP 2 (npS e)) 0 .nil _ _ w.heap.size w (Ctx.start w) (by rw [hfl]; omega) hof
        rw [hfl, Nat.zero_add] at c0
        obtain ⟨ρ, L, c1, e1, v1⟩ := MC.put (q := 0) (long := false) c0 (by omega) (by omega) h.row hf (Two.facts0 ok) (fun _ => by omega)
        obtain ⟨ρ2, L2, c2, e2, v2⟩ := MC.put (q := 1) (long := false) c1 (by omega) (by omega) h'.row hf' (Two.facts1 ok) (fun _ => by omega)
        exact run_true sums c2 (.cons _ _ _ _ (v1.mono e2) (.cons _ _ _ _ v2 .nil)) (h2 k (ks5_mem hk) e (degs7_mem he) o ho)
      · obtain ⟨ρ, L, c1, e1, v1⟩ := MC.put (q := 0) (n := 0) (long := false) (Ctx.start w) (by omega) (by omega) h.row hf (Two.facts0 ok) (fun _ => by omega)
        obtain ⟨ρ2, L2, c2, e2, v2⟩ := MC.put (q := 1) (long := false) c1 (by omega) (by omega) h'.row hf' (Two.facts1 ok) (fun _ => by omega)
        exact run_true sums c2 (.cons _ _ _ _ (v1.mono e2) (.cons _ _ _ _ v2 .nil)) hrun
    · have hz : ((1048575 - npS e : Nat) : Int) ≤ 1048576 := by omega
      obtain ⟨r, hrm, hr⟩ := FC.of (a := s'.size) (b := l'.length) hz
      have ok : (twoT (.sum k e) c' s s' d d' l l' 0 (szZ ((1048575 - npS e : Nat) : Int) s'.size l'.length)).Ok := twoT_ok h h' rng0 (szZ_rng hz)
      letI E : Env := Two.env _ ok
      have hE := Two.sumE ok (a0 := a) (cap0 := cap) (a1 := a') (cap1 := cap') hf hf'
      obtain ⟨ρ, L, c1, e1, v1⟩ := MC.put (q := 0) (n := 0) (long := false) (Ctx.start w) (by omega) (by omega) h.row hf (Two.facts0 ok) (fun _ => by omega)
      obtain ⟨ρ2, L2, c2, e2, v2⟩ := MC.put (q := 1) (long := r.isLong) c1 (by omega) (by omega) h'.row hf' (Two.facts1 ok) (FC.long_of hz hr)
      refine run_true (orS_sound (orS_sound (listS_sound K hE.lst) (sumsS_sound KS hE (R := R2 100 0 (c'.j 1) (wI (Nat.sub 1048575 (npS e))) r.word) (R2_sound ok (mNo_sum hc') (z := ((1048575 - npS e : Nat) : Int)) (by omega) hz rfl hr (fun ρ L v hv => wI_val (k := 1048575 - npS e) (by omega) hv) (fun j lw hj h0 => ?_)))) (hS0 _)) c2 (.cons _ _ _ _ (v1.mono e2) (.cons _ _ _ _ v2 .nil)) (h3 k (ks5_mem hk) e (degs7_mem he) c' hc' r hrm)
      unfold R1 at h0
      rw [sel_beq, if_neg (by omega)] at h0
      exact absurd rfl h0
  · obtain ⟨r, hrm, hr⟩ := RC.of (a := s.size) (b := l.length) hlen
    have hcs := mNo_sum hc
    rcases MC.of s' d' w a' len' cap' l' h'.row with ⟨k', hk', e', he', hf'⟩ | ⟨c', hc', hf'⟩
    · have hnp' := npS_bound he'
      have hll' := hf'.2.2.2.2.1
      have ok : (twoT c (.sum k' e') s s' d d' l l' (szZ 1048576 s.size l.length) 0).Ok := twoT_ok h h' (szZ_rng hlen) rng0
      letI E : Env := Two.env _ ok
      have hE := Two.sumE ok (a0 := a) (cap0 := cap) (a1 := a') (cap1 := cap') hf hf'
      obtain ⟨ρ, L, c1, e1, v1⟩ := MC.put (q := 0) (n := 0) (long := r.isLong) (Ctx.start w) (by omega) (by omega) h.row hf (Two.facts0 ok) (RC.long_of hlen hr)
      obtain ⟨ρ2, L2, c2, e2, v2⟩ := MC.put (q := 1) (long := false) c1 (by omega) (by omega) h'.row hf' (Two.facts1 ok) (fun _ => by omega)
      exact run_true (orS_sound (orS_sound (listS_sound K hE.lst) (sumsS_sound KS hE (R := R1 (c.j 0) (r.word qP)) (R1_okq ok (q := qP) hcs rfl rfl hr (Two.ePv ok (i := 1) (by omega))))) (hS0 _)) c2 (.cons _ _ _ _ (v1.mono e2) (.cons _ _ _ _ v2 .nil)) (h4 c hc r hrm k' (ks5_mem hk') e' (degs7_mem he'))
    · have hz0 : szZ 1048576 s.size l.length ≤ 1048576 := by
        rcases szZ_range (a := s.size) (b := l.length) hlen with h | h <;> omega
      obtain ⟨r', hrm', hr'⟩ := FC.of (a := s'.size) (b := l'.length) hz0
      have ok : (twoT c c' s s' d d' l l' (szZ 1048576 s.size l.length) (szZ (szZ 1048576 s.size l.length) s'.size l'.length)).Ok := twoT_ok h h' (szZ_rng hlen) (szZ_rng hz0)
      letI E : Env := Two.env _ ok
      have hE := Two.sumE ok (a0 := a) (cap0 := cap) (a1 := a') (cap1 := cap') hf hf'
      obtain ⟨ρ, L, c1, e1, v1⟩ := MC.put (q := 0) (n := 0) (long := r.isLong) (Ctx.start w) (by omega) (by omega) h.row hf (Two.facts0 ok) (RC.long_of hlen hr)
      obtain ⟨ρ2, L2, c2, e2, v2⟩ := MC.put (q := 1) (long := r'.isLong) c1 (by omega) (by omega) h'.row hf' (Two.facts1 ok) (FC.long_of hz0 hr')
      have hR1 := R1_okq ok (r := r) (q := qP) hcs rfl rfl hr (Two.ePv ok (i := 1) (by omega))
      have key : ∀ (j lw : Nat), j < 8 → R2 (c.j 0) (r.word qP) (c'.j 1) r.left r'.word j lw ≠ 0 → ∀ (ρ : Rho) (L : Look) (v : Value), VR ρ L lw v → ∃ z, v = .int .i64 z ∧ 0 ≤ z ∧ z ≤ 1048576 ∧
          VR ρ L (R2 (c.j 0) (r.word qP) (c'.j 1) r.left r'.word j lw) (.int .i64 (szZ z (Env.txt (1000 + j)).size ((twoT c c' s s' d d' l l' (szZ 1048576 s.size l.length) (szZ (szZ 1048576 s.size l.length) s'.size l'.length)).zs (16 + j)).length)) := by
        by_cases hlong : szZ 1048576 s.size l.length = -1
        · -- nothing is left: what is asked of the second one never comes
          have hrl : r = .long := by
            cases r with
            | wide => have := hr.1; omega
            | is k => have := hr.1; omega
            | long => rfl
          subst hrl
          intro j lw hj8 h0 ρ L v hv
          have e : R2 (c.j 0) (RC.long.word qP) (c'.j 1) RC.long.left r'.word j lw = if j = c.j 0 then (sel (Nat.beq lw (wI 1048576)) (RC.long.word qP) 0) else (if j = c'.j 1 then (if lw = 15 then r'.word else 0) else 0) := by
            unfold R2; rw [sel_beq, sel_beq, sel_beq, sel_beq]; rfl
          rw [e] at h0 ⊢
          by_cases hj : j = c.j 0
          · rw [if_pos hj] at h0 ⊢
            have e1 : R1 (c.j 0) (RC.long.word qP) j lw = sel (Nat.beq lw (wI 1048576)) (RC.long.word qP) 0 := by unfold R1; rw [sel_beq, if_pos hj]
            have := hR1 j lw hj8 (by show R1 (c.j 0) _ _ _ ≠ 0; rw [e1]; exact h0) ρ L v hv
            have e2 : R1 ((twoT c c' s s' d d' l l' (szZ 1048576 s.size l.length) (szZ (szZ 1048576 s.size l.length) s'.size l'.length)).c0.j 0) (RC.long.word qP) j lw = sel (Nat.beq lw (wI 1048576)) (RC.long.word qP) 0 := e1
            rw [e2] at this
            exact this
          · rw [if_neg hj] at h0
            by_cases hj1 : j = c'.j 1
            · rw [if_pos hj1] at h0
              by_cases hw : lw = 15
              · subst hw; exact absurd rfl hv.notBad
              · rw [if_neg hw] at h0; exact absurd rfl h0
            · rw [if_neg hj1] at h0; exact absurd rfl h0
        · have hz1 : 0 ≤ szZ 1048576 s.size l.length := by
            rcases szZ_range (a := s.size) (b := l.length) hlen with h | h
            · exact absurd h hlong
            · exact h.1
          refine R2_sound ok (mNo_sum hc') (z := szZ 1048576 s.size l.length) hz1 hz0 rfl hr' (fun ρ L v hv => ?_) hR1
          cases r with
          | wide =>
            have hv : VR ρ L (wV (pvIx 1) 549755813900 549756862464) v := hv
            obtain ⟨j, lo, hi, q1, q2, _, _, q3, rfl⟩ := hv.var_inv (tag_wV _ _ _)
            obtain ⟨_, _, a3⟩ := v_parts (pvIx 1) 549755813900 549756862464 (by omega) (by omega)
            obtain ⟨_, _, b3⟩ := v_parts j lo hi q1 q2
            have hj : j = pvIx 1 := by rw [← a3, q3, b3]
            subst hj
            have : E.int (pvIx 1) = szZ 1048576 s.size l.length := Two.ePv ok (i := 1) (by omega)
            rw [this]
          | is k =>
            obtain ⟨g1, g2⟩ := hr
            have hv : VR ρ L (wI k) v := hv
            rw [wI_val (by omega) hv, g1]
          | long => exact absurd hr hlong
      exact run_true (orS_sound (orS_sound (listS_sound K hE.lst) (sumsS_sound KS hE key)) (hS0 _)) c2 (.cons _ _ _ _ (v1.mono e2) (.cons _ _ _ _ v2 .nil)) (h5 c hc r hrm c' hc' r' hrm')
end Go.Eng
