/- Laws on a point beside a list or an int: the numbers of a point are variables of sums of products. -/
import Derived.Test.YthcdiaahpodkoaeEngYa
namespace Go.Eng
set_option linter.unusedSectionVars false
set_option linter.unusedSimpArgs false
set_option linter.unusedVariables false
open Go Go.RowKit

/-- What a list that comes in as a point may be: nil, without room, a point of so many numbers, no point, too long. -/
inductive PCls where
  | nil
  | zero
  | pt (k : Nat)
  | no
  | long

noncomputable section
def ptW (k : Nat) : Nat → List Nat := Nat.rec (motive := fun _ => Nat → List Nat) (fun _ => []) (fun _ ih i => wV (pvIx i) 549755813883 549755813893 :: ih (Nat.succ i)) k
def PCls.word (c : PCls) (n j : Nat) : Nat := PCls.rec (motive := fun _ => Nat) sNil 14 (fun k => wS n 1 0 k 0) (wO n j 1 1048576) (wO n j 1048577 0) c
def PCls.heap (c : PCls) (n j : Nat) (H : Trie) : Trie := PCls.rec (motive := fun _ => Trie) H H (fun k => hset H n (.cells k (listW (ptW k 0)) 0 0 0 0)) (hset H n (.opq j 1)) (hset H n (.opq j 1)) c
def PCls.next (c : PCls) (n : Nat) : Nat := PCls.rec (motive := fun _ => Nat) n n (fun _ => Nat.succ n) (Nat.succ n) (Nat.succ n) c
def PCls.Fits (c : PCls) (a : Option Addr) (len cap : Nat) (zs : List Int) : Prop :=
  PCls.rec (motive := fun _ => Prop) (a = none ∧ len = 0 ∧ cap = 0) (a ≠ none ∧ len = 0 ∧ cap = 0) (fun k => a ≠ none ∧ 0 < cap ∧ len = k ∧ PtZ (nth (zs.take len)) (zs.take len).length)
    (a ≠ none ∧ 0 < cap ∧ 1 ≤ len ∧ len ≤ 1048576 ∧ ¬ PtZ (nth (zs.take len)) (zs.take len).length) (a ≠ none ∧ 0 < cap ∧ 1048577 ≤ len ∧ ¬ PtZ (nth (zs.take len)) (zs.take len).length) c
def PCls.told (c : PCls) (l : List Int) : List Int := PCls.rec (motive := fun _ => List Int) [7] [7] (fun _ => [7]) l l c
def pclasses : List PCls := [.nil, .zero, .no, .long, .pt 0, .pt 1, .pt 2, .pt 3, .pt 4, .pt 5]
end
theorem ptW_len : ∀ (k i : Nat), (ptW k i).length = k
  | 0, i => rfl
  | k + 1, i => by
    have e : ptW (k + 1) i = wV (pvIx i) 549755813883 549755813893 :: ptW k (i + 1) := rfl
    rw [e, List.length_cons, ptW_len k]
theorem ptW_get : ∀ (k i r : Nat), r < k → (ptW k i).getD r 0 = wV (pvIx (i + r)) 549755813883 549755813893
  | 0, i, r, h => by omega
  | k + 1, i, r, h => by
    have e : ptW (k + 1) i = wV (pvIx i) 549755813883 549755813893 :: ptW k (i + 1) := rfl
    rw [e]
    cases r with
    | zero => rfl
    | succ r =>
      rw [List.getD_cons_succ, ptW_get k (i + 1) r (by omega), show i + 1 + r = i + (r + 1) from by omega]
theorem wV_pv_slot {i : Nat} (h : i < 8) : wV (pvIx i) 549755813883 549755813893 < 2 ^ 128 := by
  show 16 * (1099511627776 * (1099511627776 * (2199023255552 + i) + 549755813883) + 549755813893) + 12 < _
  omega
theorem ptW_slot {k : Nat} (hk : k ≤ 5) : allSlot (ptW k 0) = true := by
  letI : Env := noEnv
  refine allSlot_of _ fun x hx => ?_
  obtain ⟨r, hr, rfl⟩ := List.mem_iff_getElem.1 hx
  rw [ptW_len] at hr
  have := ptW_get k 0 r hr
  rw [List.getD_eq_getElem?_getD, List.getElem?_eq_getElem (by rw [ptW_len]; exact hr)] at this
  simp only [Option.getD_some] at this
  rw [this]
  exact wV_pv_slot (by omega)

theorem seven_noPt : ¬ PtZ (nth [7]) 1 := fun h => by
  have := (h.2 0 (by omega)).2
  simp [nth] at this

theorem PCls.of_row {w : World} {a : Option Addr} {len cap : Nat} {zs : List Int} (h : IntRow w a len cap zs) : ∃ c ∈ pclasses, c.Fits a len cap zs := by
  rcases h with ⟨rfl, rfl, rfl, rfl⟩ | ⟨x, rfl, hl, hm, hzl, hcell, hwz⟩
  · exact ⟨.nil, by simp [pclasses], rfl, rfl, rfl⟩
  by_cases hc : cap = 0
  · exact ⟨.zero, by simp [pclasses], by simp, by omega, hc⟩
  have hcl : (zs.take len).length = len := by simp; omega
  by_cases hS : PtZ (nth (zs.take len)) (zs.take len).length
  · have h5 := hS.1
    rw [hcl] at h5
    have : len = 0 ∨ len = 1 ∨ len = 2 ∨ len = 3 ∨ len = 4 ∨ len = 5 := by omega
    exact ⟨.pt len, by rcases this with h | h | h | h | h | h <;> rw [h] <;> simp [pclasses], by simp, by omega, rfl, hS⟩
  · have hl0 : len ≠ 0 := by
      intro h0
      apply hS
      rw [hcl]
      exact ⟨by omega, fun k hk => by omega⟩
    by_cases hlong : 1048576 < len
    · exact ⟨.long, by simp [pclasses], by simp, by omega, by omega, hS⟩
    · exact ⟨.no, by simp [pclasses], by simp, by omega, by omega, by omega, hS⟩

theorem PCls.told_ok {c : PCls} {w : World} {a : Option Addr} {len cap : Nat} {zs : List Int} (h : IntRow w a len cap zs) (hf : c.Fits a len cap zs) :
    (c.told (zs.take len)).length < 9223372036854775808 ∧ (∀ x ∈ c.told (zs.take len), -9223372036854775808 ≤ x ∧ x < 9223372036854775808) ∧ ¬ PtZ (nth (c.told (zs.take len))) (c.told (zs.take len)).length := by
  have seven : ([7] : List Int).length < 9223372036854775808 ∧ (∀ x ∈ ([7] : List Int), -9223372036854775808 ≤ x ∧ x < 9223372036854775808) ∧ ¬ PtZ (nth [7]) ([7] : List Int).length := ⟨by decide, fun x hx => by simp at hx; omega, seven_noPt⟩
  have rest : len ≤ cap → cap ≤ maxLen → zs.length = cap → (∀ n ∈ zs, (Lit.int .i64 n).wf = true) → ¬ PtZ (nth (zs.take len)) (zs.take len).length →
      (zs.take len).length < 9223372036854775808 ∧ (∀ x ∈ zs.take len, -9223372036854775808 ≤ x ∧ x < 9223372036854775808) ∧ ¬ PtZ (nth (zs.take len)) (zs.take len).length := by
    intro h1 h2 h3 h4 h5
    unfold maxLen at h2
    exact ⟨by simp; omega, fun x hx => wf_i64 (h4 x (List.mem_of_mem_take hx)), h5⟩
  cases c with
  | nil => exact seven
  | zero => exact seven
  | pt l => exact seven
  | no =>
    obtain ⟨g1, g2, g3, g4, g5⟩ := hf
    rcases h with ⟨rfl, _⟩ | ⟨x, rfl, hl, hm, hzl, hcell, hwz⟩
    · exact absurd rfl g1
    · exact rest hl hm hzl hwz g5
  | long =>
    obtain ⟨g1, g2, g3, g5⟩ := hf
    rcases h with ⟨rfl, _⟩ | ⟨x, rfl, hl, hm, hzl, hcell, hwz⟩
    · exact absurd rfl g1
    · exact rest hl hm hzl hwz g5

section
variable [E : Env]
theorem PCls.put {n j len cap : Nat} {H : Trie} {ρ : Rho} {L : Look} {w : World} {a : Option Addr} {zs : List Int} (k : PCls) (c : Ctx w.heap.size H n ρ L w) (hn : n < 16384) (hj : j < 1048576)
    (h : IntRow w a len cap zs) (hf : k.Fits a len cap zs) (he : E.lst j = (k.told (zs.take len)).map (Value.int .i64)) (hv : ∀ i, i < 8 → E.int (pvIx i) = nth (zs.take len) i) :
    ∃ ρ' L', Ctx w.heap.size (k.heap n j H) (k.next n) ρ' L' w ∧ Ext ρ L ρ' L' ∧ VR ρ' L' (k.word n j) (.slice a len cap) := by
  rcases h with ⟨rfl, rfl, rfl, rfl⟩ | ⟨x, rfl, hl, hm, hzl, hcell, hwz⟩
  · cases k with
    | nil => exact ⟨ρ, L, c, .refl _ _, .sliceNil⟩
    | zero => exact absurd rfl hf.1
    | pt l => exact absurd rfl hf.1
    | no => exact absurd rfl hf.1
    | long => exact absurd rfl hf.1
  unfold maxLen at hm
  have hrow : RowOf .i64 w x cap zs := ⟨hzl, hcell⟩
  have hcl : (zs.take len).length = len := by simp; omega
  have opq : 0 < cap → k.told (zs.take len) = zs.take len → ∃ ρ' L', Ctx w.heap.size (hset H n (.opq j 1)) (n + 1) ρ' L' w ∧ Ext ρ L ρ' L' ∧ ∀ lo hi : Nat, lo < 4194304 → hi < 4194304 → lo ≤ len → (hi = 0 ∨ len ≤ hi) → VR ρ' L' (wO n j lo hi) (.slice (some x) len cap) := by
    intro hc0 ht
    rw [ht] at he
    obtain ⟨hsp, cs, ty, fz, hh, hsz, hall⟩ := hrow.block (by omega)
    have hx : x = ⟨x.block, x.off, none⟩ := by
      cases x with
      | mk b o s => simp at hsp ⊢; exact hsp
    have hrb : x.block < w.heap.size := (Array.getElem?_eq_some_iff.1 hh).1
    have hel : (E.lst j).length = len := by rw [he, List.length_map, hcl]
    refine ⟨_, _, c.opq (j := j) (sz := cap) (d := x.off) hn hh hrb hsz (by omega) (fun i hi => by
      rw [hall i (by omega), he, List.getElem?_map]
      have hi2 : i < (zs.take len).length := by omega
      rw [List.getElem?_eq_getElem hi2]
      have hi3 : i < zs.length := by omega
      simp [List.getD_eq_getElem?_getD, hi3]), .fresh c.fresh _ _, ?_⟩
    intro lo hi q1 q2 q3 q4
    have := VR.opq (ρ := updR ρ n (x.block, x.off, cap)) (L := upd L n (.opq j 1)) n j lo hi x.block x.off cap cap (updR_same _ _ _) hj q1 q2 (by rw [hel]; exact q3) (by rw [hel]; exact q4) (by rw [hel]; exact hl) (by omega) (by omega)
    rw [hel, ← hx] at this
    exact this
  cases k with
  | nil => exact absurd hf.1 (by simp)
  | zero =>
    obtain ⟨_, rfl, rfl⟩ := hf
    exact ⟨ρ, L, c, .refl _ _, .sl0 x⟩
  | pt m =>
    obtain ⟨_, h0, rfl, hP⟩ := hf
    rw [hcl] at hP
    obtain ⟨hsp, cs, ty, fz, hh, hsz, hall⟩ := hrow.block h0
    have hx : x = ⟨x.block, x.off + 0, none⟩ := by
      cases x with
      | mk b o s => simp at hsp ⊢; exact hsp
    have hrb : x.block < w.heap.size := (Array.getElem?_eq_some_iff.1 hh).1
    refine ⟨_, _, c.arg (nb := len) (ch := listW (ptW len 0)) (sz := cap) (d := x.off) hn hh hrb hsz hl (fun i hi => ?_), .fresh c.fresh _ _, ?_⟩
    · refine ⟨_, hall i (by omega), ?_⟩
      rw [getW_listW _ (ptW_slot hP.1), ptW_get len 0 i hi, Nat.zero_add]
      have h1 := hP.2 i hi
      have h2 := hv i (by have := hP.1; omega)
      have h3 : nth (zs.take len) i = zs.getD i 0 := by
        have hi3 : i < zs.length := by omega
        simp [nth, List.getD_eq_getElem?_getD, hi, hi3]
      rw [h3] at h1 h2
      refine ⟨?_, ?_⟩
      · rw [← h2]
        exact .var _ _ _ (by omega) (by omega) (.inr (by rw [h2]; omega)) (.inr (by rw [h2]; omega))
      · rw [storable_iff, tag_wV]
        exact ⟨by decide, by decide, by decide, wV_pv_slot (by have := hP.1; omega)⟩
    · exact .slice n 1 0 len 0 x.block x.off cap cap x (updR_same _ _ _) (by omega) (by omega) (by have := hP.1; omega) (by omega) hl (by omega) (.inl rfl) (.inr ⟨hx, by omega⟩)
  | no =>
    obtain ⟨_, h0, h1, h2, _⟩ := hf
    obtain ⟨ρ', L', c', he', hv⟩ := opq h0 rfl
    exact ⟨ρ', L', c', he', hv 1 1048576 (by omega) (by omega) h1 (.inr h2)⟩
  | long =>
    obtain ⟨_, h0, h1, _⟩ := hf
    obtain ⟨ρ', L', c', he', hv⟩ := opq h0 rfl
    exact ⟨ρ', L', c', he', hv 1048577 0 (by omega) (by omega) h1 (.inl rfl)⟩
end

noncomputable section
def prun (P : Program) (S0 : Sums) (F : Fns) (fi fo fuel d f : Nat) (args : List Nat) (H : Trie) (n : Nat) : OR := funE P (callN P (orS (orS F.S (pointS fi fo)) S0) fuel d) fuel f args H n
/-- a law on a list and a point -/
def lptRun (P : Program) (S0 : Sums) (F : Fns) (fi fo fuel d f : Nat) (c1 : Cls) (c2 : PCls) : OR :=
  prun P S0 F fi fo fuel d f [c1.word 0 0, c2.word (c1.next 0) 8] (c2.heap (c1.next 0) 8 (c1.heap 0 0 .nil)) (c2.next (c1.next 0))
/-- a law on an int and a point -/
def iptRun (P : Program) (S0 : Sums) (F : Fns) (fi fo fuel d f : Nat) (c1 : ICls) (c2 : PCls) : OR :=
  prun P S0 F fi fo fuel d f [c1.word 1, c2.word 0 8] (c2.heap 0 8 .nil) (c2.next 0)
end

theorem nth_wf {zs : List Int} {len : Nat} (h : ∀ n ∈ zs, (Lit.int .i64 n).wf = true) (i : Nat) : -9223372036854775808 ≤ nth (zs.take len) i ∧ nth (zs.take len) i < 9223372036854775808 := by
  unfold nth
  by_cases hi : i < (zs.take len).length
  · rw [List.getD_eq_getElem?_getD, List.getElem?_eq_getElem hi]
    exact wf_i64 (h _ (List.mem_of_mem_take (List.getElem_mem hi)))
  · rw [List.getD_eq_getElem?_getD, List.getElem?_eq_none (by omega)]; simp
theorem IntRow.wf {w : World} {a : Option Addr} {len cap : Nat} {zs : List Int} (h : IntRow w a len cap zs) : ∀ n ∈ zs, (Lit.int .i64 n).wf = true := by
  rcases h with ⟨_, _, _, rfl⟩ | ⟨_, _, _, _, _, _, h⟩
  · intro n hn; cases hn
  · exact h

/-- ██ The walk of a law on a list of ints and a point, out of its runs. -/
theorem lpt_walk {P : Program} {S0 : Sums} (hS0 : Always P S0) {F : Fns} {tInt fi fo fuel d f : Nat} (K : ListK P F.to F.eq F.mark F.inn F.of tInt) (KP : PointK P fi fo) {w : World}
    {len1 cap1 : Nat} {a1 : Option Addr} {zs1 : List Int} (w1 : IntRow w a1 len1 cap1 zs1) {len2 cap2 : Nat} {a2 : Option Addr} {zs2 : List Int} (w2 : IntRow w a2 len2 cap2 zs2)
    (hs : AllL (fun c1 => AllL (fun c2 => isTrue (lptRun P S0 F fi fo fuel d f c1 c2) = true) pclasses) classes) :
    Calls P f #[.slice a1 len1 cap1, .slice a2 len2 cap2] w fun e w' => e = .returned (.bool true) ∧ Below w.heap.size w w' := by
  obtain ⟨k1, hk1, f1⟩ := Cls.of_row w1
  obtain ⟨k2, hk2, f2⟩ := PCls.of_row w2
  have hrun := (hs.mem k1 hk1).mem k2 hk2
  obtain ⟨t11, t12, t13⟩ := Cls.told_ok w1 f1
  obtain ⟨t21, t22, t23⟩ := PCls.told_ok w2 f2
  let zs : Nat → List Int := fun j => if j < 8 then k1.told (zs1.take len1) else k2.told (zs2.take len2)
  have hz : ∀ j, (zs j).length < 9223372036854775808 := fun j => by
    show (if j < 8 then _ else _ : List Int).length < _
    split
    · exact t11
    · exact t21
  have hn : ∀ j, -9223372036854775808 ≤ (fun j => nth (zs2.take len2) (j - 2199023255552)) j ∧ (fun j => nth (zs2.take len2) (j - 2199023255552)) j < 9223372036854775808 := fun j => nth_wf w2.wf _
  letI E : Env := argEnv zs hz (fun j => nth (zs2.take len2) (j - 2199023255552)) hn
  have hrng : ∀ j, ∀ x ∈ zs j, -9223372036854775808 ≤ x ∧ x < 9223372036854775808 := fun j => by
    show ∀ x ∈ (if j < 8 then _ else _ : List Int), _
    split
    · exact t12
    · exact t22
  have hno : ∀ j, j < 8 → ¬ ShareZ (nth (zs j)) (zs j).length := fun j hj => by
    show ¬ ShareZ (nth (if j < 8 then _ else _ : List Int)) (if j < 8 then _ else _ : List Int).length
    rw [if_pos hj]; exact t13
  have hE : ListE zs := { lst := fun j hj => listL_lst _ j hj, rng := hrng, no := hno }
  have hP : ∀ j, 8 ≤ j → j < 16 → ¬ PtZ (nth (zs j)) (zs j).length := fun j h8 _ => by
    show ¬ PtZ (nth (if j < 8 then _ else _ : List Int)) (if j < 8 then _ else _ : List Int).length
    rw [if_neg (by omega)]; exact t23
  have hpv : ∀ i, i < 8 → E.int (pvIx i) = nth (zs2.take len2) i := fun i hi => by
    have e : pvIx i = 2199023255552 + i := rfl
    show (if 1099511627776 ≤ pvIx i ∧ pvIx i < 1099511627776 + 1048576 then _ else nth (zs2.take len2) (pvIx i - 2199023255552)) = _
    rw [e, if_neg (by omega), show 2199023255552 + i - 2199023255552 = i from by omega]
  obtain ⟨ρ1, L1, c1, e1, v1⟩ := k1.put (Ctx.start w) (by omega) (j := 0) (by omega) w1 f1 (hE.lst 0 (by omega))
  have hn1 : k1.next 0 < 16384 := by cases k1 <;> simp [Cls.next]
  obtain ⟨ρ2, L2, c2, e2, v2⟩ := k2.put c1 hn1 (j := 8) (by omega) w2 f2 (hE.lst 8 (by omega)) hpv
  exact run_true (orS_sound (orS_sound (listS_sound K hE) (pointS_sound KP hE hP)) (hS0 _)) c2 (.cons _ _ _ _ (v1.mono e2) (.cons _ _ _ _ v2 .nil)) hrun

/-- ██ The walk of a law on an int and a point, out of its runs. -/
theorem ipt_walk {P : Program} {S0 : Sums} (hS0 : Always P S0) {F : Fns} {tInt fi fo fuel d f m : Nat} (hm : m < 1000000) (K : ListK P F.to F.eq F.mark F.inn F.of tInt) (KP : PointK P fi fo) {w : World}
    {z : Int} (w1 : (Lit.int .i64 z).wf = true) {len2 cap2 : Nat} {a2 : Option Addr} {zs2 : List Int} (w2 : IntRow w a2 len2 cap2 zs2)
    (hs : AllL (fun c1 => AllL (fun c2 => isTrue (iptRun P S0 F fi fo fuel d f c1 c2) = true) pclasses) (iclasses m)) :
    Calls P f #[.int .i64 z, .slice a2 len2 cap2] w fun e w' => e = .returned (.bool true) ∧ Below w.heap.size w w' := by
  obtain ⟨k1, hk1, f1⟩ := ICls.of_int m z
  obtain ⟨k2, hk2, f2⟩ := PCls.of_row w2
  have hrun := (hs.mem k1 hk1).mem k2 hk2
  obtain ⟨t21, t22, t23⟩ := PCls.told_ok w2 f2
  let zs : Nat → List Int := fun j => if j < 8 then [7] else k2.told (zs2.take len2)
  have hz : ∀ j, (zs j).length < 9223372036854775808 := fun j => by
    show (if j < 8 then _ else _ : List Int).length < _
    split
    · decide
    · exact t21
  have hn : ∀ j, -9223372036854775808 ≤ (fun j => if j = 1 then z else nth (zs2.take len2) (j - 2199023255552)) j ∧ (fun j => if j = 1 then z else nth (zs2.take len2) (j - 2199023255552)) j < 9223372036854775808 := fun j => by
    show _ ≤ (if j = 1 then z else _) ∧ (if j = 1 then z else _) < _
    split
    · exact wf_i64 w1
    · exact nth_wf w2.wf _
  letI E : Env := argEnv zs hz (fun j => if j = 1 then z else nth (zs2.take len2) (j - 2199023255552)) hn
  have hrng : ∀ j, ∀ x ∈ zs j, -9223372036854775808 ≤ x ∧ x < 9223372036854775808 := fun j => by
    show ∀ x ∈ (if j < 8 then _ else _ : List Int), _
    split
    · intro x hx; simp at hx; omega
    · exact t22
  have hno : ∀ j, j < 8 → ¬ ShareZ (nth (zs j)) (zs j).length := fun j hj => by
    show ¬ ShareZ (nth (if j < 8 then _ else _ : List Int)) (if j < 8 then _ else _ : List Int).length
    rw [if_pos hj]; exact ten_no
  have hE : ListE zs := { lst := fun j hj => listL_lst _ j hj, rng := hrng, no := hno }
  have hP : ∀ j, 8 ≤ j → j < 16 → ¬ PtZ (nth (zs j)) (zs j).length := fun j h8 _ => by
    show ¬ PtZ (nth (if j < 8 then _ else _ : List Int)) (if j < 8 then _ else _ : List Int).length
    rw [if_neg (by omega)]; exact t23
  have hpv : ∀ i, i < 8 → E.int (pvIx i) = nth (zs2.take len2) i := fun i hi => by
    have e : pvIx i = 2199023255552 + i := rfl
    show (if 1099511627776 ≤ pvIx i ∧ pvIx i < 1099511627776 + 1048576 then _ else if pvIx i = 1 then z else nth (zs2.take len2) (pvIx i - 2199023255552)) = _
    rw [e, if_neg (by omega), if_neg (by omega), show 2199023255552 + i - 2199023255552 = i from by omega]
  obtain ⟨ρ2, L2, c2, e2, v2⟩ := k2.put (Ctx.start w) (by omega) (j := 8) (by omega) w2 f2 (hE.lst 8 (by omega)) hpv
  have v1 := k1.put (ρ := ρ2) (L := L2) hk1 hm 1 rfl f1
  exact run_true (orS_sound (orS_sound (listS_sound K hE) (pointS_sound KP hE hP)) (hS0 _)) c2 (.cons _ _ _ _ v1 (.cons _ _ _ _ v2 .nil)) hrun
end Go.Eng
