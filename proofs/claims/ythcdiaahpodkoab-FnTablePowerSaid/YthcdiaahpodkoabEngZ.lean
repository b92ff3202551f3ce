/- Laws on one list: the shares one by one, the other lists together. -/
import Derived.Test.YthcdiaahpodkoabEngY
namespace Go.Eng
set_option linter.unusedSectionVars false
set_option linter.unusedSimpArgs false
set_option linter.unusedVariables false
open Go Go.RowKit

/-! ### all shares -/
def genS : Nat → Nat → Nat → List (List Nat)
  | 0, _, _ => [[]]
  | k + 1, left, prev => [] :: (List.range (min left prev)).flatMap fun x => (genS k (left - (x + 1)) (x + 1)).map (List.cons (x + 1))
def IsS : Nat → Nat → List Int → Prop
  | _, _, [] => True
  | left, prev, x :: l => 1 ≤ x ∧ x ≤ (left : Int) ∧ x ≤ (prev : Int) ∧ IsS (left - x.toNat) x.toNat l
theorem genS_mem : ∀ (k left prev : Nat) (l : List Int), left ≤ k → IsS left prev l → ∃ m ∈ genS k left prev, l = m.map (fun x : Nat => (x : Int))
  | 0, left, prev, [], _, _ => ⟨[], by simp [genS], rfl⟩
  | 0, left, prev, x :: l, hk, h => by obtain ⟨h1, h2, _⟩ := h; omega
  | k + 1, left, prev, [], _, _ => ⟨[], by simp [genS], rfl⟩
  | k + 1, left, prev, x :: l, hk, h => by
    obtain ⟨h1, h2, h3, h4⟩ := h
    obtain ⟨m, hm, rfl⟩ := genS_mem k (left - x.toNat) x.toNat l (by omega) h4
    have hx : x.toNat - 1 + 1 = x.toNat := by omega
    refine ⟨x.toNat :: m, ?_, by simp; omega⟩
    simp only [genS, List.mem_cons, List.mem_flatMap, List.mem_range, List.mem_map]
    right
    exact ⟨x.toNat - 1, by omega, m, by rw [hx]; exact hm, by rw [hx]⟩

theorem isS_of (l : List Int) : ∀ (k : Nat) (left prev : Nat), k ≤ l.length → (left : Int) = lft (nth l) k → (k = 0 → prev = 6) → (0 < k → (prev : Int) = nth l (k - 1)) → ShareZ (nth l) l.length → IsS left prev (l.drop k) := by
  intro k
  induction hn : l.length - k generalizing k with
  | zero =>
    intro left prev hk h1 h2 h3 hS
    rw [List.drop_of_length_le (by omega)]
    exact trivial
  | succ n ih =>
    intro left prev hk h1 h2 h3 hS
    have hlt : k < l.length := by omega
    rw [List.drop_eq_getElem_cons hlt]
    have hx : nth l k = l[k] := by simp [nth, List.getD_eq_getElem?_getD, hlt]
    obtain ⟨a, b, cc⟩ := hS k hlt
    rw [hx] at a b cc
    have hl6 : lft (nth l) k ≤ 6 := by
      have : ∀ j, j ≤ k → lft (nth l) j ≤ 6 := by
        intro j
        induction j with
        | zero => intro _; exact Int.le_refl _
        | succ j ihj =>
          intro hj
          have := ihj (by omega)
          have := (hS j (by omega)).1
          simp only [lft]; omega
      exact this k (Nat.le_refl _)
    have hp : l[k] ≤ (prev : Int) := by
      by_cases h0 : k = 0
      · rw [h2 h0]; omega
      · rw [h3 (by omega)]; exact cc (by omega)
    have hln : (l[k].toNat : Int) = l[k] := by omega
    refine ⟨a, by omega, hp, ?_⟩
    refine ih (k + 1) (by omega) _ _ (by omega) ?_ (by omega) ?_ hS
    · simp only [lft]; rw [hx]; omega
    · intro _
      rw [Nat.add_sub_cancel, hx, hln]

noncomputable def shares : List (List Nat) := genS 6 6 6
theorem shares_eq : shares = [[], [1], [1, 1], [1, 1, 1], [1, 1, 1, 1], [1, 1, 1, 1, 1], [1, 1, 1, 1, 1, 1], [2], [2, 1], [2, 1, 1], [2, 1, 1, 1], [2, 1, 1, 1, 1], [2, 2], [2, 2, 1], [2, 2, 1, 1], [2, 2, 2], [3], [3, 1], [3, 1, 1], [3, 1, 1, 1], [3, 2], [3, 2, 1],
    [3, 3], [4], [4, 1], [4, 1, 1], [4, 2], [5], [5, 1], [6]] := by decide
theorem share_mem {l : List Int} (h : ShareZ (nth l) l.length) : ∃ m ∈ shares, l = m.map (fun x : Nat => (x : Int)) := by
  have := isS_of l 0 6 6 (Nat.zero_le _) rfl (fun _ => rfl) (fun h => by omega) h
  rw [List.drop_zero] at this
  exact genS_mem 6 6 6 l (Nat.le_refl _) this

/-- something of each of a list -/
def AllL {α : Type} (p : α → Prop) (l : List α) : Prop := List.rec (motive := fun _ => Prop) True (fun x _ ih => p x ∧ ih) l
theorem AllL.mem {α : Type} {p : α → Prop} : ∀ {l : List α}, AllL p l → ∀ x ∈ l, p x
  | _ :: _, h, x, hx => by
    rcases List.mem_cons.1 hx with rfl | hx
    · exact h.1
    · exact AllL.mem h.2 x hx

noncomputable section
structure Fns where
  to : Nat
  eq : Nat
  mark : Nat
  inn : Nat
  of : Nat
def Fns.S (F : Fns) : Sums := listS F.to F.eq F.mark F.inn F.of
def lrun (P : Program) (S0 : Sums) (F : Fns) (fuel d f : Nat) (args : List Nat) (H : Trie) (n : Nat) : OR := funE P (callN P (orS F.S S0) fuel d) fuel f args H n
/-- a law on one list: a list that is known, one that is no share, one that is too long, nil, no room -/
def oneRow (P : Program) (S0 : Sums) (F : Fns) (fuel d f : Nat) (l : List Nat) : OR := lrun P S0 F fuel d f [wS 0 1 0 l.length 0] (hset .nil 0 (.cells l.length (listW (l.map wI)) 0 0 0 0)) 1
def oneNo (P : Program) (S0 : Sums) (F : Fns) (fuel d f : Nat) : OR := lrun P S0 F fuel d f [wO 0 0 1 1048576] (hset .nil 0 (.opq 0 1)) 1
def oneLong (P : Program) (S0 : Sums) (F : Fns) (fuel d f : Nat) : OR := lrun P S0 F fuel d f [wO 0 0 1048577 0] (hset .nil 0 (.opq 0 1)) 1
def oneNil (P : Program) (S0 : Sums) (F : Fns) (fuel d f : Nat) : OR := lrun P S0 F fuel d f [sNil] .nil 0
def oneZero (P : Program) (S0 : Sums) (F : Fns) (fuel d f : Nat) : OR := lrun P S0 F fuel d f [14] .nil 0
end

/-- Lists told: what is not known. (The lists below 8 are no shares.) -/
noncomputable def listL (zs : Nat → List Int) (j : Nat) : List Value := if j = 1000 then [] else if j = 1001 then [.int .i64 0] else (zs j).map (Value.int .i64)
theorem listL_len {zs : Nat → List Int} (hz : ∀ j, (zs j).length < 9223372036854775808) (j : Nat) : (listL zs j).length < 9223372036854775808 := by
  unfold listL
  split
  · decide
  · split
    · simp
    · rw [List.length_map]; exact hz j
theorem listL_lst (zs : Nat → List Int) (j : Nat) (hj : j < 1000) : listL zs j = (zs j).map (Value.int .i64) := by
  unfold listL
  rw [if_neg (by omega), if_neg (by omega)]
/-- Lists and ints told. -/
@[reducible] noncomputable def argEnv (zs : Nat → List Int) (hz : ∀ j, (zs j).length < 9223372036854775808) (ns : Nat → Int) (hn : ∀ j, -9223372036854775808 ≤ ns j ∧ ns j < 9223372036854775808) : Env where
  lst := listL zs
  int := fun j => if 1099511627776 ≤ j ∧ j < 1099511627776 + 1048576 then ((listL zs (j - 1099511627776)).length : Int) else ns j
  wf := fun j => by
    split
    · have := listL_len hz (j - 1099511627776); omega
    · exact hn j
  len := fun j hj => by
    have : lenIx j = 1099511627776 + j := rfl
    rw [this, if_pos (by omega), show 1099511627776 + j - 1099511627776 = j from by omega]
  byThree := by simp [listL]
  notThree := by simp [listL]
@[reducible] noncomputable def listEnv (zs : Nat → List Int) (hz : ∀ j, (zs j).length < 9223372036854775808) : Env := argEnv zs hz (fun _ => 0) (fun _ => by omega)

theorem ten_no : ¬ ShareZ (nth [7]) 1 := fun h => by
  have := (h 0 (by omega)).2.1
  simp [nth, lft] at this

theorem listEnv_ok {zs : Nat → List Int} (hz : ∀ j, (zs j).length < 9223372036854775808) (hr : ∀ j, ∀ x ∈ zs j, -9223372036854775808 ≤ x ∧ x < 9223372036854775808) (hno : ∀ j, j < 8 → ¬ ShareZ (nth (zs j)) (zs j).length) : @ListE (listEnv zs hz) zs :=
  letI : Env := listEnv zs hz
  { lst := fun j hj => listL_lst zs j hj, rng := hr, no := hno }

@[reducible] noncomputable def sevenEnv : Env := listEnv (fun _ => [7]) (fun _ => by decide)
theorem seven_ok : @ListE sevenEnv (fun _ => [7]) := listEnv_ok (fun _ => by decide) (fun _ x hx => by simp at hx; omega) fun _ _ => ten_no

def IntRow (w : World) (a : Option Addr) (len cap : Nat) (zs : List Int) : Prop :=
  (a = none ∧ len = 0 ∧ cap = 0 ∧ zs = []) ∨
  ∃ x, a = some x ∧ len ≤ cap ∧ cap ≤ maxLen ∧ zs.length = cap ∧ (∀ i, i < zs.length → w.cell? (x.add i) = some (.int .i64 (zs.getD i 0))) ∧ ∀ n ∈ zs, (Lit.int .i64 n).wf = true

theorem wf_i64 {n : Int} (h : (Lit.int .i64 n).wf = true) : -9223372036854775808 ≤ n ∧ n < 9223372036854775808 := by
  have hmin : IntKind.i64.min = -9223372036854775808 := rfl
  have hmax : IntKind.i64.max = 9223372036854775807 := rfl
  simp only [Lit.wf, Bool.and_eq_true, decide_eq_true_eq] at h
  rw [hmin, hmax] at h
  omega

theorem uInt_nat' (m : Nat) (h : m < 9223372036854775808) : uInt (m : Int) = m := by unfold uInt; omega

/-- ██ The walk of a law on one list of ints, out of its runs. -/
theorem one_walk {P : Program} {S0 : Sums} (hS0 : Always P S0) {F : Fns} {tInt fuel d f len cap : Nat} (K : ListK P F.to F.eq F.mark F.inn F.of tInt) {w : World} {a : Option Addr} {zs : List Int} (w0 : IntRow w a len cap zs)
    (hn : isTrue (oneNil P S0 F fuel d f) = true) (hz : isTrue (oneZero P S0 F fuel d f) = true) (h1 : isTrue (oneNo P S0 F fuel d f) = true) (h2 : isTrue (oneLong P S0 F fuel d f) = true)
    (hs : AllL (fun l => isTrue (oneRow P S0 F fuel d f l) = true) shares) :
    Calls P f #[.slice a len cap] w fun e w' => e = .returned (.bool true) ∧ Below w.heap.size w w' := by
  rcases w0 with ⟨rfl, rfl, rfl, rfl⟩ | ⟨x, rfl, hl, hm, hzl, hcell, hwz⟩
  · exact letI : Env := sevenEnv
      run_true (orS_sound (listS_sound K seven_ok) (hS0 _)) (Ctx.start w) (.cons _ _ _ _ .sliceNil .nil) hn
  by_cases hc : cap = 0
  · subst hc
    obtain rfl : len = 0 := by omega
    exact letI : Env := sevenEnv
      run_true (orS_sound (listS_sound K seven_ok) (hS0 _)) (Ctx.start w) (.cons _ _ _ _ (.sl0 x) .nil) hz
  unfold maxLen at hm
  have hrow : RowOf .i64 w x cap zs := ⟨hzl, hcell⟩
  obtain ⟨hsp, cs, ty, fz, hh, hsz, hall⟩ := hrow.block (by omega)
  have hx : x = ⟨x.block, x.off, none⟩ := by
    cases x with
    | mk b o s => simp at hsp ⊢; exact hsp
  have hrb : x.block < w.heap.size := (Array.getElem?_eq_some_iff.1 hh).1
  have hcl : (zs.take len).length = len := by simp; omega
  by_cases hS : ShareZ (nth (zs.take len)) (zs.take len).length
  · letI : Env := sevenEnv
    obtain ⟨m, hmem, hm2⟩ := share_mem hS
    have hrun := hs.mem m hmem
    have hml : m.length = len := by rw [← hcl, hm2, List.length_map]
    have hlen : len < 1048576 := by
      rw [shares_eq] at hmem
      rw [← hml]
      simp only [List.mem_cons, List.not_mem_nil, or_false] at hmem
      rcases hmem with h | h | h | h | h | h | h | h | h | h | h | h | h | h | h | h | h | h | h | h | h | h | h | h | h | h | h | h | h | h <;> rw [h] <;> decide
    have hsm : ∀ y ∈ m, y < 9223372036854775808 := by
      intro y hy
      have : (y : Int) ∈ zs.take len := by rw [hm2]; exact List.mem_map.2 ⟨y, hy, rfl⟩
      have := wf_i64 (hwz _ (List.mem_of_mem_take this))
      omega
    obtain ⟨ρ', L', c, _, hv⟩ := (Ctx.start w).row rfl (by omega) (show RowAt w x cap zs from hrow) (by omega) (fun z hz => wf_i64 (hwz z hz)) hl (by omega) hlen
    have hwords : wordsOf (zs.take len) = m.map wI := by
      rw [hm2]
      unfold wordsOf
      rw [List.map_map]
      exact List.map_congr_left fun y hy => by simp [uInt_nat' y (hsm y hy)]
    rw [hwords] at c
    unfold oneRow lrun at hrun
    rw [hml] at hrun
    exact run_true (orS_sound (listS_sound K seven_ok) (hS0 _)) c (.cons _ _ _ _ hv .nil) hrun
  · have hlz : ∀ j : Nat, ((fun _ : Nat => zs.take len) j).length < 9223372036854775808 := fun _ => by show (zs.take len).length < _; omega
    letI E : Env := listEnv (fun _ => zs.take len) hlz
    have hE : ListE (fun _ => zs.take len) := listEnv_ok hlz (fun _ y hy => wf_i64 (hwz y (List.mem_of_mem_take hy))) fun _ _ => hS
    have hE0 := hE.lst 0 (by omega)
    have he : (E.lst 0).length = len := by rw [hE0, List.length_map, hcl]
    have hl0 : len ≠ 0 := by
      intro h0
      apply hS
      intro k hk
      omega
    have c := (Ctx.start w).opq (j := 0) (sz := cap) (d := x.off) (by omega) hh hrb hsz (by omega) (fun i hi => by
      rw [hall i (by omega), hE0, List.getElem?_map]
      have hi2 : i < (zs.take len).length := by omega
      rw [List.getElem?_eq_getElem hi2]
      have hi3 : i < zs.length := by omega
      simp [List.getD_eq_getElem?_getD, hi3])
    have word : ∀ lo hi : Nat, lo < 4194304 → hi < 4194304 → lo ≤ len → (hi = 0 ∨ len ≤ hi) → VR (updR (fun _ => none) 0 (x.block, x.off, cap)) (upd (fun _ => none) 0 (.opq 0 1)) (wO 0 0 lo hi) (.slice (some x) len cap) := by
      intro lo hi q1 q2 q3 q4
      have := VR.opq (ρ := updR (fun _ => none) 0 (x.block, x.off, cap)) (L := upd (fun _ => none) 0 (.opq 0 1)) 0 0 lo hi x.block x.off cap cap (updR_same _ _ _) (by omega) q1 q2 (by rw [he]; exact q3) (by rw [he]; exact q4) (by rw [he]; exact hl) (by omega) (by omega)
      rw [he, ← hx] at this
      exact this
    by_cases hlong : 1048576 < len
    · exact run_true (orS_sound (listS_sound K hE) (hS0 _)) c (.cons _ _ _ _ (word 1048577 0 (by omega) (by omega) (by omega) (.inl rfl)) .nil) h2
    · exact run_true (orS_sound (listS_sound K hE) (hS0 _)) c (.cons _ _ _ _ (word 1 1048576 (by omega) (by omega) (by omega) (.inr (by omega))) .nil) h1
end Go.Eng
