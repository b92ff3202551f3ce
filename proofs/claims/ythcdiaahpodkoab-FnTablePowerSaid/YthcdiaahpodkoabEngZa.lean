/- Laws on several lists: what each list may be, and the walk over all of them. -/
import Derived.Test.YthcdiaahpodkoabEngZ
namespace Go.Eng
set_option linter.unusedSectionVars false
set_option linter.unusedSimpArgs false
set_option linter.unusedVariables false
open Go Go.RowKit

/-- What a list that comes in may be: nil, without room, a share, no share, too long. -/
inductive Cls where
  | nil
  | zero
  | row (l : List Nat)
  | no
  | long

noncomputable section
def Cls.word (c : Cls) (n j : Nat) : Nat := Cls.rec (motive := fun _ => Nat) sNil 14 (fun l => wS n 1 0 l.length 0) (wO n j 1 1048576) (wO n j 1048577 0) c
def Cls.heap (c : Cls) (n j : Nat) (H : Trie) : Trie := Cls.rec (motive := fun _ => Trie) H H (fun l => hset H n (.cells l.length (listW (l.map wI)) 0 0 0 0)) (hset H n (.opq j 1)) (hset H n (.opq j 1)) c
def Cls.next (c : Cls) (n : Nat) : Nat := Cls.rec (motive := fun _ => Nat) n n (fun _ => Nat.succ n) (Nat.succ n) (Nat.succ n) c
def Cls.Fits (c : Cls) (a : Option Addr) (len cap : Nat) (zs : List Int) : Prop :=
  Cls.rec (motive := fun _ => Prop) (a = none ∧ len = 0 ∧ cap = 0) (a ≠ none ∧ len = 0 ∧ cap = 0) (fun l => a ≠ none ∧ 0 < cap ∧ len < 1048576 ∧ l.length = len ∧ zs.take len = l.map (fun x : Nat => (x : Int)))
    (a ≠ none ∧ 0 < cap ∧ 1 ≤ len ∧ len ≤ 1048576 ∧ ¬ ShareZ (nth (zs.take len)) (zs.take len).length) (a ≠ none ∧ 0 < cap ∧ 1048577 ≤ len ∧ ¬ ShareZ (nth (zs.take len)) (zs.take len).length) c
/-- the list that the surroundings tell for it -/
def Cls.told (c : Cls) (l : List Int) : List Int := Cls.rec (motive := fun _ => List Int) [7] [7] (fun _ => [7]) l l c
def classes : List Cls := .nil :: .zero :: .no :: .long :: shares.map .row
end

theorem Cls.of_row {w : World} {a : Option Addr} {len cap : Nat} {zs : List Int} (h : IntRow w a len cap zs) : ∃ c ∈ classes, c.Fits a len cap zs := by
  rcases h with ⟨rfl, rfl, rfl, rfl⟩ | ⟨x, rfl, hl, hm, hzl, hcell, hwz⟩
  · exact ⟨.nil, by simp [classes], rfl, rfl, rfl⟩
  by_cases hc : cap = 0
  · exact ⟨.zero, by simp [classes], by simp, by omega, hc⟩
  have hcl : (zs.take len).length = len := by simp; omega
  by_cases hS : ShareZ (nth (zs.take len)) (zs.take len).length
  · obtain ⟨m, hmem, hm2⟩ := share_mem hS
    have hml : m.length = len := by rw [← hcl, hm2, List.length_map]
    have hlen : len < 1048576 := by
      rw [shares_eq] at hmem
      rw [← hml]
      simp only [List.mem_cons, List.not_mem_nil, or_false] at hmem
      rcases hmem with h | h | h | h | h | h | h | h | h | h | h | h | h | h | h | h | h | h | h | h | h | h | h | h | h | h | h | h | h | h <;> rw [h] <;> decide
    exact ⟨.row m, by simp only [classes, List.mem_cons, List.mem_map]; exact .inr (.inr (.inr (.inr ⟨m, hmem, rfl⟩))), by simp, by omega, hlen, hml, hm2⟩
  · have hl0 : len ≠ 0 := by
      intro h0
      apply hS
      intro k hk
      omega
    by_cases hlong : 1048576 < len
    · exact ⟨.long, by simp [classes], by simp, by omega, by omega, hS⟩
    · exact ⟨.no, by simp [classes], by simp, by omega, by omega, by omega, hS⟩

/-- The told lists are short enough, of ints, and no shares. -/
theorem Cls.told_ok {c : Cls} {w : World} {a : Option Addr} {len cap : Nat} {zs : List Int} (h : IntRow w a len cap zs) (hf : c.Fits a len cap zs) :
    (c.told (zs.take len)).length < 9223372036854775808 ∧ (∀ x ∈ c.told (zs.take len), -9223372036854775808 ≤ x ∧ x < 9223372036854775808) ∧ ¬ ShareZ (nth (c.told (zs.take len))) (c.told (zs.take len)).length := by
  have seven : ([7] : List Int).length < 9223372036854775808 ∧ (∀ x ∈ ([7] : List Int), -9223372036854775808 ≤ x ∧ x < 9223372036854775808) ∧ ¬ ShareZ (nth [7]) ([7] : List Int).length := ⟨by decide, fun x hx => by simp at hx; omega, ten_no⟩
  have rest : len ≤ cap → cap ≤ maxLen → zs.length = cap → (∀ n ∈ zs, (Lit.int .i64 n).wf = true) → ¬ ShareZ (nth (zs.take len)) (zs.take len).length →
      (zs.take len).length < 9223372036854775808 ∧ (∀ x ∈ zs.take len, -9223372036854775808 ≤ x ∧ x < 9223372036854775808) ∧ ¬ ShareZ (nth (zs.take len)) (zs.take len).length := by
    intro h1 h2 h3 h4 h5
    unfold maxLen at h2
    exact ⟨by simp; omega, fun x hx => wf_i64 (h4 x (List.mem_of_mem_take hx)), h5⟩
  cases c with
  | nil => exact seven
  | zero => exact seven
  | row l => exact seven
  | no =>
    obtain ⟨g1, g2, g3, g4, g5⟩ := hf
    rcases h with ⟨rfl, _⟩ | ⟨x, rfl, hl, hm, hzl, hcell, hwz⟩
    · exact absurd rfl g1
    · exact rest hl hm hzl hwz g5
  | long =>
    obtain ⟨g1, g2, g3, g5⟩ := hf
    rcases h with ⟨rfl, _⟩ | ⟨x, rfl, hl, hm, hzl, hcell, hwz⟩
    · exact absurd rfl g1
    · exact rest hl hm hzl hwz g5

section
variable [E : Env]
/-- One list more that came in. -/
theorem Cls.put {n j len cap : Nat} {H : Trie} {ρ : Rho} {L : Look} {w : World} {a : Option Addr} {zs : List Int} (k : Cls) (c : Ctx w.heap.size H n ρ L w) (hn : n < 16384) (hj : j < 1048576)
    (h : IntRow w a len cap zs) (hf : k.Fits a len cap zs) (he : E.lst j = (k.told (zs.take len)).map (Value.int .i64)) :
    ∃ ρ' L', Ctx w.heap.size (k.heap n j H) (k.next n) ρ' L' w ∧ Ext ρ L ρ' L' ∧ VR ρ' L' (k.word n j) (.slice a len cap) := by
  rcases h with ⟨rfl, rfl, rfl, rfl⟩ | ⟨x, rfl, hl, hm, hzl, hcell, hwz⟩
  · cases k with
    | nil => exact ⟨ρ, L, c, .refl _ _, .sliceNil⟩
    | zero => exact absurd rfl hf.1
    | row l => exact absurd rfl hf.1
    | no => exact absurd rfl hf.1
    | long => exact absurd rfl hf.1
  unfold maxLen at hm
  have hrow : RowOf .i64 w x cap zs := ⟨hzl, hcell⟩
  have opq : 0 < cap → k.told (zs.take len) = zs.take len → ∃ ρ' L', Ctx w.heap.size (hset H n (.opq j 1)) (n + 1) ρ' L' w ∧ Ext ρ L ρ' L' ∧ ∀ lo hi : Nat, lo < 4194304 → hi < 4194304 → lo ≤ len → (hi = 0 ∨ len ≤ hi) → VR ρ' L' (wO n j lo hi) (.slice (some x) len cap) := by
    intro hc0 ht
    rw [ht] at he
    obtain ⟨hsp, cs, ty, fz, hh, hsz, hall⟩ := hrow.block (by omega)
    have hx : x = ⟨x.block, x.off, none⟩ := by
      cases x with
      | mk b o s => simp at hsp ⊢; exact hsp
    have hrb : x.block < w.heap.size := (Array.getElem?_eq_some_iff.1 hh).1
    have hcl : (zs.take len).length = len := by simp; omega
    have hel : (E.lst j).length = len := by rw [he, List.length_map, hcl]
    refine ⟨_, _, c.opq (j := j) (sz := cap) (d := x.off) hn hh hrb hsz (by omega) (fun i hi => by
      rw [hall i (by omega), he, List.getElem?_map]
      have hi2 : i < (zs.take len).length := by omega
      rw [List.getElem?_eq_getElem hi2]
      have hi3 : i < zs.length := by omega
      simp [List.getD_eq_getElem?_getD, hi3]), .fresh c.fresh _ _, ?_⟩
    intro lo hi q1 q2 q3 q4
    have := VR.opq (ρ := updR ρ n (x.block, x.off, cap)) (L := upd L n (.opq j 1)) n j lo hi x.block x.off cap cap (updR_same _ _ _) hj q1 q2 (by rw [hel]; exact q3) (by rw [hel]; exact q4) (by rw [hel]; exact hl) (by omega) (by omega)
    rw [hel, ← hx] at this
    exact this
  cases k with
  | nil => exact absurd hf.1 (by simp)
  | zero =>
    obtain ⟨_, rfl, rfl⟩ := hf
    exact ⟨ρ, L, c, .refl _ _, .sl0 x⟩
  | row m =>
    obtain ⟨_, h0, hlen, hml, hm2⟩ := hf
    have hsm : ∀ y ∈ m, y < 9223372036854775808 := by
      intro y hy
      have : (y : Int) ∈ zs.take len := by rw [hm2]; exact List.mem_map.2 ⟨y, hy, rfl⟩
      have := wf_i64 (hwz _ (List.mem_of_mem_take this))
      omega
    obtain ⟨ρ', L', c', he', hv⟩ := c.row rfl hn (show RowAt w x cap zs from hrow) h0 (fun z hz => wf_i64 (hwz z hz)) hl (by omega) hlen
    have hwords : wordsOf (zs.take len) = m.map wI := by
      rw [hm2]
      unfold wordsOf
      rw [List.map_map]
      exact List.map_congr_left fun y hy => by simp [uInt_nat' y (hsm y hy)]
    rw [hwords, ← hml] at c'
    rw [← hml] at hv
    refine ⟨ρ', L', c', he', ?_⟩
    have := hv
    rw [← hml]
    exact hv
  | no =>
    obtain ⟨_, h0, h1, h2, _⟩ := hf
    obtain ⟨ρ', L', c', he', hv⟩ := opq h0 rfl
    exact ⟨ρ', L', c', he', hv 1 1048576 (by omega) (by omega) h1 (.inr h2)⟩
  | long =>
    obtain ⟨_, h0, h1, _⟩ := hf
    obtain ⟨ρ', L', c', he', hv⟩ := opq h0 rfl
    exact ⟨ρ', L', c', he', hv 1048577 0 (by omega) (by omega) h1 (.inl rfl)⟩
end

noncomputable section
/-- a law on two lists -/
def twoRun (P : Program) (S0 : Sums) (F : Fns) (fuel d f : Nat) (c1 c2 : Cls) : OR :=
  lrun P S0 F fuel d f [c1.word 0 0, c2.word (c1.next 0) 1] (c2.heap (c1.next 0) 1 (c1.heap 0 0 .nil)) (c2.next (c1.next 0))
end

/-- A run with what may be known beforehand. -/
def TwoOk (P : Program) (F : Fns) (f : Nat) (c1 c2 : Cls) : Prop := ∃ (S0 : Sums) (fuel d : Nat), Always P S0 ∧ isTrue (twoRun P S0 F fuel d f c1 c2) = true

/-- ██ The walk of a law on two lists of ints, out of its runs. -/
theorem two_walk2 {P : Program} {F : Fns} {tInt f : Nat} (K : ListK P F.to F.eq F.mark F.inn F.of tInt) {w : World}
    {len1 cap1 : Nat} {a1 : Option Addr} {zs1 : List Int} (w1 : IntRow w a1 len1 cap1 zs1) {len2 cap2 : Nat} {a2 : Option Addr} {zs2 : List Int} (w2 : IntRow w a2 len2 cap2 zs2)
    (hs : AllL (fun c1 => AllL (fun c2 => TwoOk P F f c1 c2) classes) classes) :
    Calls P f #[.slice a1 len1 cap1, .slice a2 len2 cap2] w fun e w' => e = .returned (.bool true) ∧ Below w.heap.size w w' := by
  obtain ⟨k1, hk1, f1⟩ := Cls.of_row w1
  obtain ⟨k2, hk2, f2⟩ := Cls.of_row w2
  obtain ⟨S0, fuel, d, hS0, hrun⟩ := (hs.mem k1 hk1).mem k2 hk2
  obtain ⟨t11, t12, t13⟩ := Cls.told_ok w1 f1
  obtain ⟨t21, t22, t23⟩ := Cls.told_ok w2 f2
  let zs : Nat → List Int := fun j => if j = 0 then k1.told (zs1.take len1) else k2.told (zs2.take len2)
  have hz : ∀ j, (zs j).length < 9223372036854775808 := fun j => by
    show (if j = 0 then _ else _ : List Int).length < _
    split
    · exact t11
    · exact t21
  letI E : Env := listEnv zs hz
  have hE : ListE zs := listEnv_ok hz (fun j => by
    show ∀ x ∈ (if j = 0 then _ else _ : List Int), _
    split
    · exact t12
    · exact t22) (fun j _ => by
    show ¬ ShareZ (nth (if j = 0 then _ else _ : List Int)) (if j = 0 then _ else _ : List Int).length
    split
    · exact t13
    · exact t23)
  obtain ⟨ρ1, L1, c1, e1, v1⟩ := k1.put (Ctx.start w) (by omega) (j := 0) (by omega) w1 f1 (hE.lst 0 (by omega))
  have hn1 : k1.next 0 < 16384 := by cases k1 <;> simp [Cls.next]
  obtain ⟨ρ2, L2, c2, e2, v2⟩ := k2.put c1 hn1 (j := 1) (by omega) w2 f2 (hE.lst 1 (by omega))
  exact run_true (orS_sound (listS_sound K hE) (hS0 _)) c2 (.cons _ _ _ _ (v1.mono e2) (.cons _ _ _ _ v2 .nil)) hrun

theorem AllL.imp {α : Type} {p q : α → Prop} (h : ∀ x, p x → q x) : ∀ {l : List α}, AllL p l → AllL q l
  | [], _ => trivial
  | x :: l, hp => ⟨h x hp.1, AllL.imp h hp.2⟩
theorem two_walk {P : Program} {S0 : Sums} (hS0 : Always P S0) {F : Fns} {tInt fuel d f : Nat} (K : ListK P F.to F.eq F.mark F.inn F.of tInt) {w : World}
    {len1 cap1 : Nat} {a1 : Option Addr} {zs1 : List Int} (w1 : IntRow w a1 len1 cap1 zs1) {len2 cap2 : Nat} {a2 : Option Addr} {zs2 : List Int} (w2 : IntRow w a2 len2 cap2 zs2)
    (hs : AllL (fun c1 => AllL (fun c2 => isTrue (twoRun P S0 F fuel d f c1 c2) = true) classes) classes) :
    Calls P f #[.slice a1 len1 cap1, .slice a2 len2 cap2] w fun e w' => e = .returned (.bool true) ∧ Below w.heap.size w w' :=
  two_walk2 K w1 w2 (hs.imp fun _ h => h.imp fun _ h2 => ⟨S0, fuel, d, hS0, h2⟩)
end Go.Eng
