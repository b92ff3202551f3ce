/- Part of the evaluator: W X. -/
import Derived.Test.YtadmpiidofncpaaEngU
import Derived.WalkKit
import Derived.Deep.Draws

/- Numbers that are drawn: what is known beforehand of the reader of a code. -/
namespace Go.Eng
set_option linter.unusedSectionVars false
set_option linter.unusedSimpArgs false
set_option linter.unusedVariables false
open Go Go.RowKit

/-! ### plain mathematics -/
def mixv (x y : Int) (p len n : Nat) : Int :=
  (bits BinOp.xor IntKind.i64 (wrap64 (x * 131 + y * 1117 + ↑p * 29 + wrap64 (wrap64 (↑p / ↑len) * 53)))
    (wrap64 ((wrap64 (x * 131 + y * 1117 + ↑p * 29 + wrap64 (wrap64 (↑p / ↑len) * 53))).tdiv 64))).tmod ↑n

theorem mixv_range (x y : Int) (p len n : Nat) (hn : 1 ≤ n) (hn2 : n ≤ 1000) (hp : p < 1000000) (hlen : 1 ≤ len) (hx : 0 ≤ x) (hx2 : x ≤ 255) (hy : 0 ≤ y) (hy2 : y ≤ 255) :
    0 ≤ mixv x y p len n ∧ mixv x y p len n < n := by
  have w64 : ∀ z : Int, 0 ≤ z → z < 9223372036854775808 → wrap64 z = z := fun z h1 h2 => by unfold wrap64; omega
  have hq0 : 0 ≤ (p : Int) / (len : Int) := Int.ediv_nonneg (by omega) (by omega)
  have hq1 : (p : Int) / (len : Int) ≤ p := by rw [← Int.natCast_ediv]; have := Nat.div_le_self p len; omega
  unfold mixv
  rw [w64 ((p : Int) / (len : Int)) hq0 (by omega), w64 ((p : Int) / (len : Int) * 53) (by omega) (by omega)]
  generalize hz : x * 131 + y * 1117 + (p : Int) * 29 + (p : Int) / (len : Int) * 53 = z
  have hz0 : 0 ≤ z := by omega
  have hz1 : z < 1099511627776 := by omega
  rw [w64 z hz0 (by omega)]
  obtain ⟨m, rfl⟩ : ∃ m : Nat, z = (m : Int) := ⟨z.toNat, by omega⟩
  have ht : Int.tdiv (m : Int) 64 = ((m / 64 : Nat) : Int) := by
    show Int.tdiv (m : Int) ((64 : Nat) : Int) = _
    rfl
  rw [ht, w64 _ (by omega) (by omega)]
  have hb : bits BinOp.xor IntKind.i64 (m : Int) ((m / 64 : Nat) : Int) = ((m ^^^ (m / 64) : Nat) : Int) := by
    have hlt : m ^^^ (m / 64) < 2 ^ 40 := Nat.xor_lt_two_pow (by omega) (by omega)
    simp only [bits]
    have e1 : (BitVec.ofInt IntKind.i64.bits (m : Int) ^^^ BitVec.ofInt IntKind.i64.bits ((m / 64 : Nat) : Int)).toNat = m ^^^ (m / 64) := by
      rw [BitVec.toNat_xor, BitVec.toNat_ofInt, BitVec.toNat_ofInt]
      have h64 : IntKind.i64.bits = 64 := rfl
      rw [h64]
      have a1 : ((m : Int) % ((2 ^ 64 : Nat) : Int)).toNat = m := by omega
      have a2 : (((m / 64 : Nat) : Int) % ((2 ^ 64 : Nat) : Int)).toNat = m / 64 := by omega
      rw [a1, a2]
    rw [e1]
    have := Nat.lt_of_lt_of_le hlt (show 2 ^ 40 ≤ 1099511627776 by decide)
    generalize m ^^^ (m / 64) = r at *
    simp only [IntKind.wrap, IntKind.bits, IntKind.signed]
    simp
    omega
  rw [hb]
  generalize m ^^^ (m / 64) = r
  have : Int.tmod (r : Int) (n : Int) = ((r % n : Nat) : Int) := rfl
  rw [this]
  have := Nat.mod_lt r (show 0 < n by omega)
  omega

/-- what pick answers at place p for n -/
def pickv (c : List Int) (p n : Nat) : Int :=
  if p < c.length then c.getD p 0 % n else mixv (c.getD (p % c.length) 0) (c.getD ((p * 7 + 3) % c.length) 0) p c.length n

theorem getD_byte {c : List Int} (hc : ∀ x ∈ c, 0 ≤ x ∧ x ≤ 255) (i : Nat) : 0 ≤ c.getD i 0 ∧ c.getD i 0 ≤ 255 := by
  by_cases h : i < c.length
  · have : c.getD i 0 ∈ c := by rw [List.getD_eq_getElem?_getD, List.getElem?_eq_getElem h]; exact List.getElem_mem h
    exact hc _ this
  · rw [List.getD_eq_getElem?_getD, List.getElem?_eq_none (by omega)]; simp

theorem pickv_range {c : List Int} (hc : ∀ x ∈ c, 0 ≤ x ∧ x ≤ 255) (hl : 1 ≤ c.length) {p n : Nat} (hp : p < 1000000) (hn : 1 ≤ n) (hn2 : n ≤ 1000) : 0 ≤ pickv c p n ∧ pickv c p n < n := by
  unfold pickv
  split
  · exact ⟨Int.emod_nonneg _ (by omega), Int.emod_lt_of_pos _ (by omega)⟩
  · have h1 := getD_byte hc (p % c.length)
    have h2 := getD_byte hc ((p * 7 + 3) % c.length)
    exact mixv_range _ _ _ _ _ hn hn2 hp hl h1.1 h1.2 h2.1 h2.2

/-! ### what is asked of the two functions -/
def Known (P : Program) (f : Nat) : Prop := ∃ fn, P.funcs[f]? = some fn ∧ fn.body.isSome = true ∧ fn.name ≠ "runtime.NumGoroutine"

structure DrawK (P : Program) (fo fp tS : Nat) : Prop where
  io : Known P fo
  ip : Known P fp
  short : ∀ (w : World) (a : Option Addr) (len cap : Nat), len ≤ 2000 → Calls P fo #[.slice a len cap] w fun e w' =>
    e = .returned (.pointer (some ⟨w.heap.size, 0, none⟩)) ∧ w' = w.alloc (.cells #[.slice a len cap, .int .i64 0] tS)
  long : ∀ (w : World) (cb cd len cap : Nat), 2000 < len → len ≤ cap → Calls P fo #[.slice (some ⟨cb, cd, none⟩) len cap] w fun e w' =>
    e = .returned (.pointer (some ⟨w.heap.size, 0, none⟩)) ∧ w' = w.alloc (.cells #[.slice (some ⟨cb, cd, none⟩) 2000 cap, .int .i64 0] tS)
  inside : ∀ (w : World) (rb d cb cd len cap p n : Nat) (x : Int), 1 ≤ n → n ≤ 1000 → p < 1000000 → p < len → len ≤ 2000 →
    w.cell? ⟨rb, d, none⟩ = some (.slice (some ⟨cb, cd, none⟩) len cap) → w.cell? ⟨rb, d + 1, none⟩ = some (.int .i64 p) → cb ≠ rb → w.frozen? ⟨rb, d + 1, none⟩ = false →
    w.cell? ⟨cb, cd + p, none⟩ = some (.int .u8 x) → 0 ≤ x → x ≤ 255 →
    Calls P fp #[.pointer (some ⟨rb, d, none⟩), .int .i64 n] w fun e w' => e = .returned (.int .i64 (x % n)) ∧ w' = w.setCell ⟨rb, d + 1, none⟩ (.int .i64 (p + 1))
  empty : ∀ (w : World) (rb d p n cap : Nat) (a : Option Addr), 1 ≤ n → n ≤ 1000 → p < 1000000 → w.cell? ⟨rb, d, none⟩ = some (.slice a 0 cap) → w.cell? ⟨rb, d + 1, none⟩ = some (.int .i64 p) → w.frozen? ⟨rb, d + 1, none⟩ = false →
    Calls P fp #[.pointer (some ⟨rb, d, none⟩), .int .i64 n] w fun e w' => e = .returned (.int .i64 0) ∧ w' = w.setCell ⟨rb, d + 1, none⟩ (.int .i64 (p + 1))
  outside : ∀ (w : World) (rb d cb cd len cap p n : Nat) (x y : Int), 1 ≤ n → n ≤ 1000 → p < 1000000 → len ≤ p → len ≤ 2000 → 1 ≤ len →
    w.cell? ⟨rb, d, none⟩ = some (.slice (some ⟨cb, cd, none⟩) len cap) → w.cell? ⟨rb, d + 1, none⟩ = some (.int .i64 p) → cb ≠ rb → w.frozen? ⟨rb, d + 1, none⟩ = false →
    w.cell? ⟨cb, cd + p % len, none⟩ = some (.int .u8 x) → 0 ≤ x → x ≤ 255 → w.cell? ⟨cb, cd + (p * 7 + 3) % len, none⟩ = some (.int .u8 y) → 0 ≤ y → y ≤ 255 →
    Calls P fp #[.pointer (some ⟨rb, d, none⟩), .int .i64 n] w fun e w' => e = .returned (.int .i64 (mixv x y p len n)) ∧ ∃ m, w' = (w.setCell ⟨rb, d + 1, none⟩ (.int .i64 (p + 1))).drewN m

/-! ### what is known beforehand -/
noncomputable section
abbrev Tab := List (Nat × Nat × Nat)
def tabGet {α : Type} (tab : Tab) (j : Nat) (k : Nat → Nat → α) (d : α) : α := List.rec (motive := fun _ => α) d (fun e _ ih => sel (Nat.beq e.1 j) (k e.2.1 e.2.2) ih) tab
/-- a number that is drawn, from lo to hi; lo from 1000 on: it is the variable lo - 1000 of sums of products -/
def rangeW (j lo hi : Nat) : Nat := sel (ltb lo 1000) (sel (Nat.beq lo hi) (wI lo) (wV j (Nat.add 549755813888 lo) (Nat.add 549755813888 hi))) (wV (pvIx (Nat.sub lo 1000)) 549755813888 (Nat.add 549755813888 hi))
def pickW (tab : Tab) (j m : Nat) : Nat := tabGet tab j (rangeW j) (rangeW j 0 (Nat.pred m))
def gd (b : Bool) (r : SR) : SR := sel b r .no
def codeOk (j0 s : Nat) : Bool := sel (Nat.beq (oIx (payOf s)) 1) true (sel (Nat.beq (oIx (payOf s)) j0) (sel (Nat.beq (oHi (payOf s)) 0) false (Nat.ble (oHi (payOf s)) 2000)) false)
def isCode (j0 : Nat) (H : Trie) (b : Nat) : Bool := match tget H b with | some (.opq j ro) => sel (Nat.beq j j0) (Nat.beq ro 1) false | _ => false
def noCode (s : Nat) : Bool := sel (Nat.beq s 14) true (sel (Nat.beq (tagOf s) 4) (Nat.beq (sLen (payOf s)) 0) false)
def pickB (j0 : Nat) (tab : Tab) (b m : Nat) (H : Trie) (n : Nat) : SR :=
  let q := rd H b 1
  let s := rd H b 0
  gd (Nat.beq (tagOf q) 1) (gd (ltb (payOf q) 1000000) (gd (Nat.ble 1 m) (gd (Nat.ble m 1000)
    (sel (noCode s) (.yes (wr H n b 1 (wI (Nat.succ (payOf q))) fun H' => .ok (wI 0) H' n))
      (gd (Nat.beq (tagOf s) 11) (gd (Nat.ble 1 (oLo (payOf s))) (gd (codeOk j0 s) (gd (isCode j0 H (oBlk (payOf s)))
        (.yes (wr H n b 1 (wI (Nat.succ (payOf q))) fun H' => .ok (pickW tab (Nat.add (Nat.mul (payOf q) 4096) m) m) H' n)))))))))) 
def pickS (j0 : Nat) (tab : Tab) (r nn : Nat) (H : Trie) (n : Nat) : SR :=
  gd (Nat.beq (tagOf r) 3) (gd (Nat.ble 1 (pBlk (payOf r))) (gd (Nat.beq (pOff (payOf r)) 0) (gd (Nat.beq (tagOf nn) 1) (pickB j0 tab (Nat.pred (pBlk (payOf r))) (payOf nn) H n))))
def openB (c : Nat) (H : Trie) (n : Nat) : SR := gd (storable c) <| .yes (fresh H n 2 (listW [c, wI 0]) fun H' => .ok (wP n 0) H' (Nat.succ n))
def openS (j0 c : Nat) (H : Trie) (n : Nat) : SR :=
  sel (noCode c) (openB c H n) <| gd (Nat.beq (tagOf c) 11) (gd (Nat.beq (oIx (payOf c)) j0) (gd (isCode j0 H (oBlk (payOf c)))
    (gd (Nat.ble 1 (oLo (payOf c))) (openB (wO (oBlk (payOf c)) 1 1 2000) H n))))
def drawS (fo fp : Nat) (tab : Tab) (j0 : Nat := 0) : Sums := fun f args H n =>
  sel (Nat.beq f fp) (match args with | [r, nn] => pickS j0 tab r nn H n | _ => .no)
    (sel (Nat.beq f fo) (match args with | [c] => openS j0 c H n | _ => .no) .no)
end

structure DrawE [E : Env] (code : List Int) (j0 : Nat := 0) : Prop where
  l0 : E.lst j0 = code.map (Value.int .u8)
  l1 : E.lst 1 = (code.take 2000).map (Value.int .u8)
  byte : ∀ x ∈ code, 0 ≤ x ∧ x ≤ 255
  int : ∀ p n, p < 1000000 → 1 ≤ n → n ≤ 1000 → E.int (p * 4096 + n) = pickv (code.take 2000) p n
  num0 : ∀ p, p < 1000000 → E.int (p * 4096 + 1007) = pickv (code.take 2000) p 7 - 3
  num1 : ∀ p, p < 1000000 → E.int (p * 4096 + 2007) = if 0 < pickv (code.take 2000) (p + 1) 3 then 0 else pickv (code.take 2000) p 7 - 3
  kn : ∀ k o, E.kept k ≠ some o

variable [E : Env]
def EntOk (e : Nat × Nat × Nat) : Prop := ((e.2.1 : Int) ≤ E.int e.1 ∧ E.int e.1 ≤ e.2.2 ∧ e.2.2 < 1000) ∨ (1000 ≤ e.2.1 ∧ E.int (pvIx (e.2.1 - 1000)) = E.int e.1 ∧ 0 ≤ E.int e.1 ∧ E.int e.1 ≤ e.2.2 ∧ e.2.2 < 1000)
def TabOk (tab : Tab) : Prop := ∀ e ∈ tab, EntOk e

theorem tabGet_inv {α : Type} {k : Nat → Nat → α} {d : α} {j : Nat} : ∀ (tab : Tab), TabOk tab → (tabGet tab j k d = d) ∨ ∃ lo hi : Nat, tabGet tab j k d = k lo hi ∧ EntOk (j, lo, hi)
  | [], _ => .inl rfl
  | e :: tab, h => by
    have eq : tabGet (e :: tab) j k d = sel (Nat.beq e.1 j) (k e.2.1 e.2.2) (tabGet tab j k d) := rfl
    rw [eq, sel_beq]
    split
    · rename_i hj
      subst hj
      exact .inr ⟨_, _, rfl, h e List.mem_cons_self⟩
    · exact tabGet_inv tab fun x hx => h x (List.mem_cons_of_mem _ hx)

theorem rangeW_sound0 {ρ : Rho} {L : Look} {j lo hi : Nat} (h1 : (lo : Int) ≤ E.int j) (h2 : E.int j ≤ hi) (h3 : hi < 1000) : VR ρ L (rangeW j lo hi) (.int .i64 (E.int j)) ∧ tagOf (rangeW j lo hi) ≠ 15 := by
  unfold rangeW
  rw [sel_ltb, if_pos (by omega), sel_beq]
  split
  · rename_i h
    have : E.int j = (lo : Int) := by omega
    rw [this]
    exact ⟨VR.small lo (by omega), by rw [tag_wI]; decide⟩
  · have e1 : Nat.add 549755813888 lo = 549755813888 + lo := rfl
    have e2 : Nat.add 549755813888 hi = 549755813888 + hi := rfl
    exact ⟨.var j _ _ (by rw [e1]; omega) (by rw [e2]; omega) (.inr (by rw [e1]; omega)) (.inr (by rw [e2]; omega)), by rw [tag_wV]; decide⟩
theorem rangeW_sound {ρ : Rho} {L : Look} {j lo hi : Nat} (h : EntOk (j, lo, hi)) : VR ρ L (rangeW j lo hi) (.int .i64 (E.int j)) ∧ tagOf (rangeW j lo hi) ≠ 15 := by
  rcases h with ⟨h1, h2, h3⟩ | ⟨h0, h1, h2, h3, h4⟩
  · exact rangeW_sound0 h1 h2 h3
  · simp only at h0 h1 h2 h3 h4
    unfold rangeW
    rw [sel_ltb, if_neg (by omega)]
    have e2 : Nat.add 549755813888 hi = 549755813888 + hi := rfl
    have e3 : Nat.sub lo 1000 = lo - 1000 := rfl
    rw [e3, ← h1]
    exact ⟨.var _ _ _ (by omega) (by rw [e2]; omega) (.inr (by rw [h1]; omega)) (.inr (by rw [h1, e2]; omega)), by rw [tag_wV]; decide⟩

theorem gd_inv {b : Bool} {r : SR} {x : OR} (h : gd b r = .yes x) : b = true ∧ r = .yes x := by
  cases b with
  | true => exact ⟨rfl, h⟩
  | false => cases h

theorem noCode_inv {ρ : Rho} {L : Look} {s : Nat} {v : Value} (h : VR ρ L s v) (hs : noCode s = true) : ∃ a cap, v = .slice a 0 cap := by
  unfold noCode at hs
  rw [sel_beq, sel_beq] at hs
  split at hs
  · rename_i h14
    subst h14
    obtain ⟨a, rfl⟩ := h.sl0_inv rfl
    exact ⟨_, _, rfl⟩
  · split at hs
    · rename_i h4
      have hs := Nat.eq_of_beq_eq_true hs
      rcases h.slice_inv h4 with ⟨_, rfl⟩ | ⟨b, es, off, m, k, rb, d, sz, cp, a, hb, he, hof, hm, hk, hmc, hcb, hk1, hcp, rfl, rfl⟩
      · exact ⟨_, _, rfl⟩
      · obtain ⟨_, q1, _⟩ := s_parts b es off m k he hof hm hk
        rw [q1] at hs
        subst hs
        exact ⟨_, _, rfl⟩
    · cases hs

theorem isCode_inv {j0 : Nat} {H : Trie} {b : Nat} (h : isCode j0 H b = true) : tget H b = some (.opq j0 1) := by
  unfold isCode at h
  split at h
  · rename_i j ro hg
    rw [sel_beq] at h
    split at h
    · rename_i hj
      have := Nat.eq_of_beq_eq_true h
      subst hj; subst this; exact hg
    · cases h
  · cases h

section
variable {base : Nat} {H : Trie} {n : Nat} {ρ : Rho} {L : Look} {w : World} {code : List Int}

/-- What a word for the code stands for. -/
theorem code_word {j0 : Nat} (hE : DrawE code j0) {s : Nat} {v : Value} (h : VR ρ L s v) (ht : tagOf s = 11) (hok : codeOk j0 s = true) :
    ∃ j lo hi rb d sz c, ρ (oBlk (payOf s)) = some (rb, d, sz) ∧ (j = j0 ∨ j = 1) ∧ oLo (payOf s) = lo ∧ s = wO (oBlk (payOf s)) j lo hi ∧ lo ≤ (code.take 2000).length ∧ v = .slice (some ⟨rb, d, none⟩) (code.take 2000).length c ∧
      (code.take 2000).length ≤ c ∧ c ≤ sz := by
  obtain ⟨b, j, lo, hi, rb, d, sz, c, hb, hj, hlo, hhi, h5, h6, h7, h8, h9, rfl, rfl⟩ := h.opq_inv ht
  obtain ⟨p1, p2, p3, p4⟩ := o_parts b j lo hi hj hlo hhi
  unfold codeOk at hok
  rw [p1, p3] at hok
  rw [p2, p4]
  rw [sel_beq, sel_beq, sel_beq] at hok
  split at hok
  · rename_i h1
    subst h1
    have e : (E.lst 1).length = (code.take 2000).length := by rw [hE.l1, List.length_map]
    rw [e] at h5 h7 ⊢
    exact ⟨1, lo, hi, rb, d, sz, c, hb, .inr rfl, rfl, rfl, h5, rfl, h7, h8⟩
  · split at hok
    · rename_i h0
      have h0 := h0.symm
      subst h0
      split at hok
      · cases hok
      · rename_i hz
        have hle := Nat.le_of_ble_eq_true hok
        have e0 : (E.lst j0).length = code.length := by rw [hE.l0, List.length_map]
        have hcl : code.length ≤ 2000 := by rw [← e0]; omega
        have e : (E.lst j0).length = (code.take 2000).length := by rw [e0, List.take_of_length_le hcl]
        rw [e] at h5 h7 ⊢
        exact ⟨j0, lo, hi, rb, d, sz, c, hb, .inl rfl, rfl, rfl, h5, rfl, h7, h8⟩
    · cases hok

/-- The code's bytes. -/
theorem code_cells {j0 : Nat} (hE : DrawE code j0) (c : Ctx base H n ρ L w) {b rb d sz : Nat} (hb : ρ b = some (rb, d, sz)) (hg : tget H b = some (.opq j0 1)) :
    (rb < base ∨ ∃ o, E.kept rb = some o) ∧ ∀ i, i < code.length → w.cell? ⟨rb, d + i, none⟩ = some (.int .u8 (code.getD i 0)) := by
  have hL := c.agree.2 _ _ hg
  have hgr : grp L b = 0 := by simp [grp, hL]
  refine ⟨c.sim.ro b _ hb hgr, fun i hi => ?_⟩
  obtain ⟨k, hk, hbr⟩ := c.sim.blk b _ hb
  rw [hL] at hk; injection hk with hk; subst hk
  obtain ⟨cs, ty, fz, h1, h2, h3, h4, h5⟩ := hbr (.inl hgr)
  rw [cell_of_heap h1]
  have := h5 i (by rw [hE.l0, List.length_map]; exact hi)
  rw [this, hE.l0, List.getElem?_map, List.getElem?_eq_getElem hi]
  simp [List.getD_eq_getElem?_getD, hi]

theorem take_getD (code : List Int) (i : Nat) (h : i < (code.take 2000).length) : (code.take 2000).getD i 0 = code.getD i 0 := by
  have h2 : i < 2000 := by simp at h; omega
  have h3 : i < code.length := by simp at h; omega
  simp [List.getD_eq_getElem?_getD, h2, h3]
end

theorem calls_at {P : Program} {f : Nat} {vs : Array Value} {w : World} {R : Ending → World → Prop} (h : Calls P f vs w R) (cs : List Frame) :
    ∃ e W, R e W ∧ CallsAt P f vs w cs (fun e' W' => e' = e ∧ W' = W) := by
  obtain ⟨e, W, fr, hR, h2⟩ := h cs
  exact ⟨e, W, hR, e, W, fr, ⟨rfl, rfl⟩, h2⟩

theorem Ctx.drewN {base : Nat} {H : Trie} {n : Nat} {ρ : Rho} {L : Look} {w : World} (c : Ctx base H n ρ L w) (m : Nat) : Ctx base H n ρ L (w.drewN m) := ⟨c.sim.heap rfl, c.agree, c.fresh⟩

theorem drawS_sound {P : Program} {fo fp tS : Nat} {tab : Tab} {code : List Int} {j0 : Nat} (K : DrawK P fo fp tS) (hE : DrawE code j0) (hT : TabOk tab) : SumS P (drawS fo fp tab j0) := by
  intro base H n ρ L w f args vs v H' n' cs c ha h
  unfold drawS at h
  rw [sel_beq, sel_beq] at h
  generalize hvs : vs.toList = l at ha
  split at h
  · rename_i hf
    subst hf
    split at h
    · rename_i r nn
      rcases ha with _ | ⟨_, v1, _, vs1, hr1, ha1⟩
      rcases ha1 with _ | ⟨_, v2, _, vs2, hr2, ha2⟩
      cases ha2
      have hvv : vs = #[v1, v2] := by cases vs; simp_all
      subst hvv
      unfold pickS at h
      obtain ⟨g1, h⟩ := gd_inv h
      obtain ⟨g2, h⟩ := gd_inv h
      obtain ⟨g3, h⟩ := gd_inv h
      obtain ⟨g4, h⟩ := gd_inv h
      have g1 := Nat.eq_of_beq_eq_true g1
      have g2 := Nat.le_of_ble_eq_true g2
      have g3 := Nat.eq_of_beq_eq_true g3
      have g4 := Nat.eq_of_beq_eq_true g4
      rcases hr1.ptr_inv g1 with ⟨h4, _⟩ | ⟨b, off, rb, d, sz, hb, hof, hw, hv⟩
      · rw [h4] at g2; exact absurd g2 (by decide)
      obtain ⟨_, p2, p3⟩ := p_parts b off hof
      rw [hw, p2] at g3
      subst g3
      rw [hw, p3, Nat.pred_succ] at h
      subst hv
      obtain ⟨m, hm, _, hmp, hv2⟩ := hr2.int_inv g4
      rw [hmp] at h
      subst hv2
      unfold pickB at h
      obtain ⟨k1, h⟩ := gd_inv h
      obtain ⟨k3, h⟩ := gd_inv h
      obtain ⟨k4, h⟩ := gd_inv h
      obtain ⟨k5, h⟩ := gd_inv h
      have k1 := Nat.eq_of_beq_eq_true k1
      have k3 := (ltb_iff _ _).1 k3
      have k4 := Nat.le_of_ble_eq_true k4
      have k5 := Nat.le_of_ble_eq_true k5
      obtain ⟨vq, hcq, hq⟩ := rd_sound c hb (o := 1) (by rw [k1]; decide)
      obtain ⟨p, hp, _, hpp, rfl⟩ := hq.int_inv k1
      rw [hpp] at k3 h
      rw [sInt_small (by omega)] at hcq
      rw [sInt_small (by omega)]
      have hstw : storable (wI (p + 1)) = true := by
        rw [storable_iff, tag_wI]; exact ⟨by decide, by decide, by decide, wI_slot (by omega)⟩
      have hp1 : (((p + 1 : Nat)) : Int) = (p : Int) + 1 := by omega
      cases hnc : noCode (rd H b 0) with
      | true =>
        rw [hnc, sel_true] at h
        injection h with h
        have hnb : tagOf (rd H b 0) ≠ 15 := by
          intro hb15
          unfold noCode at hnc
          rw [sel_beq, sel_beq] at hnc
          split at hnc
          · rename_i h14; rw [h14] at hb15; cases hb15
          · rw [hb15] at hnc; cases hnc
        obtain ⟨vc, hcc, hc⟩ := rd_sound c hb (o := 0) hnb
        obtain ⟨a, cap, rfl⟩ := noCode_inv hc hnc
        obtain ⟨H1, L1, hk, hc', he, hbel, hloc, hbase, _, hfro⟩ := wr_sound c hb hstw (VR.small (p + 1) (by omega)) h (by simp)
        injection hk with e1 e2 e3
        subst e1; subst e2; subst e3
        obtain ⟨e, W, ⟨he1, he2⟩, hcall⟩ := calls_at (K.empty w rb d p m cap a k4 k5 k3 (by simpa using hcc) hcq hfro) cs
        subst he1; subst he2
        refine ⟨ρ, L1, _, _, hc', he, hbel, hloc, Nat.le_refl _, VR.small 0 (by omega), K.ip, ?_⟩
        rw [hp1]
        exact hcall
      | false =>
      rw [hnc, sel_false] at h
      obtain ⟨k2, h⟩ := gd_inv h
      obtain ⟨k6, h⟩ := gd_inv h
      obtain ⟨k7, h⟩ := gd_inv h
      obtain ⟨k8, h⟩ := gd_inv h
      have k2 := Nat.eq_of_beq_eq_true k2
      have k6 := Nat.le_of_ble_eq_true k6
      have k8 := isCode_inv k8
      obtain ⟨vc, hcc, hc⟩ := rd_sound c hb (o := 0) (by rw [k2]; decide)
      obtain ⟨j, lo, hi, crb, cd, csz, cap, hcb, hj, hlo, hsw, hll, rfl, hcl, hcs⟩ := code_word hE hc k2 k7
      have hlen1 : 1 ≤ (code.take 2000).length := by omega
      have hlen2 : (code.take 2000).length ≤ 2000 := by simp; omega
      obtain ⟨hro, hbytes⟩ := code_cells hE c hcb k8
      have hbytes' : ∀ i, i < (code.take 2000).length → w.cell? ⟨crb, cd + i, none⟩ = some (.int .u8 ((code.take 2000).getD i 0)) := fun i hi => by
        rw [take_getD code i hi]; exact hbytes i (by simp at hi; omega)
      have hby : ∀ x ∈ code.take 2000, 0 ≤ x ∧ x ≤ 255 := fun x hx => hE.byte x (List.mem_of_mem_take hx)
      injection h with h
      have h0w := h
      obtain ⟨H1, L1, hk, hc', he, hbel, hloc, hbase, _, hfro⟩ := wr_sound c hb hstw (VR.small (p + 1) (by omega)) h (by simp)
      injection hk with e1 e2 e3
      subst e1; subst e2; subst e3
      have hke := wr_kept c hb h0w (by simp)
      have hne : crb ≠ rb := by
        rcases hro with h9 | ⟨o, h9⟩
        · omega
        · intro h8; rw [h8, hke] at h9; cases h9
      have hint := hE.int p m k3 k4 k5
      have hpr := pickv_range hby hlen1 k3 k4 k5
      rw [← hint] at hpr
      have hpw : VR ρ L1 (pickW tab (p * 4096 + m) m) (.int .i64 (E.int (p * 4096 + m))) := by
        unfold pickW
        rcases tabGet_inv (k := rangeW (p * 4096 + m)) (d := rangeW (p * 4096 + m) 0 (Nat.pred m)) (j := p * 4096 + m) tab hT with h0 | ⟨lo', hi', h0, h1⟩
        · rw [h0]
          have : Nat.pred m = m - 1 := rfl
          exact (rangeW_sound0 (by omega) (by rw [this]; omega) (by rw [this]; omega)).1
        · rw [h0]; exact (rangeW_sound h1).1
      by_cases hin : p < (code.take 2000).length
      · obtain ⟨e, W, ⟨he1, he2⟩, hcall⟩ := calls_at (K.inside w rb d crb cd _ cap p m _ k4 k5 k3 hin hlen2 (by simpa using hcc) hcq hne hfro (hbytes' p hin) (getD_byte hby p).1 (getD_byte hby p).2) cs
        subst he1; subst he2
        refine ⟨ρ, L1, _, _, hc', he, hbel, hloc, Nat.le_refl _, hpw, K.ip, ?_⟩
        have : E.int (p * 4096 + m) = (code.take 2000).getD p 0 % m := by rw [hint]; unfold pickv; rw [if_pos hin]
        rw [this, hp1]
        exact hcall
      · have hml : p % (code.take 2000).length < (code.take 2000).length := Nat.mod_lt _ (by omega)
        have hml2 : (p * 7 + 3) % (code.take 2000).length < (code.take 2000).length := Nat.mod_lt _ (by omega)
        obtain ⟨e, W, ⟨he1, q, he2⟩, hcall⟩ := calls_at (K.outside w rb d crb cd _ cap p m _ _ k4 k5 k3 (by omega) hlen2 hlen1 (by simpa using hcc) hcq hne hfro (hbytes' _ hml) (getD_byte hby _).1 (getD_byte hby _).2
          (hbytes' _ hml2) (getD_byte hby _).1 (getD_byte hby _).2) cs
        subst he1; subst he2
        refine ⟨ρ, L1, (w.setCell ⟨rb, d + 1, none⟩ (.int .i64 (p + 1))).drewN q, _, ?_, he, ?_, hloc, Nat.le_refl _, hpw, K.ip, ?_⟩
        · rw [← hp1]; exact hc'.drewN q
        · rw [← hp1]; exact hbel.trans ⟨rfl, rfl, rfl, Nat.le_refl _, fun _ _ => rfl⟩
        · have : E.int (p * 4096 + m) = mixv ((code.take 2000).getD (p % (code.take 2000).length) 0) ((code.take 2000).getD ((p * 7 + 3) % (code.take 2000).length) 0) p (code.take 2000).length m := by
            rw [hint]; unfold pickv; rw [if_neg hin]
          rw [this]
          exact hcall
    · cases h
  · rename_i hnf
    split at h
    · rename_i hf
      subst hf
      split at h
      · rename_i cw
        rcases ha with _ | ⟨_, v1, _, vs1, hr1, ha1⟩
        cases ha1
        have hvv : vs = #[v1] := by cases vs; simp_all
        subst hvv
        -- the new block, whatever the word is
        have mk : ∀ (cw : Nat) (a0 a : Option Addr) (len0 len cap : Nat), VR ρ L cw (.slice a len cap) → storable cw = true → openB cw H n = .yes (.ok v H' n') →
            Calls P f #[.slice a0 len0 cap] w (fun e w' => e = .returned (.pointer (some ⟨w.heap.size, 0, none⟩)) ∧ w' = w.alloc (.cells #[.slice a len cap, .int .i64 0] tS)) →
            After base H n ρ L w v H' n' (fun x w' => Known P f ∧ CallsAt P f #[.slice a0 len0 cap] w cs (fun e W => e = .returned x ∧ W = w')) := by
          intro cw a0 a len0 len cap hvr hst ho hcalls
          unfold openB at ho
          obtain ⟨_, ho⟩ := gd_inv ho
          injection ho with ho
          obtain ⟨hn, hk, hmk⟩ := fresh_sound c ho (by simp)
          injection hk with e1 e2 e3
          subst e1; subst e2; subst e3
          obtain ⟨e, W, ⟨he1, he2⟩, hcall⟩ := calls_at hcalls cs
          subst he1; subst he2
          have hsl : allSlot [cw, wI 0] = true := allSlot_of _ (by
            intro x hx
            rcases List.mem_cons.1 hx with rfl | hx
            · exact ((storable_iff _).1 hst).2.2.2
            · rcases List.mem_cons.1 hx with rfl | hx
              · exact wI_slot (by omega)
              · cases hx)
          obtain ⟨c', e, hbl, hl⟩ := hmk (w.alloc (.cells #[.slice a len cap, .int .i64 0] tS)) #[.slice a len cap, .int .i64 0] tS rfl rfl rfl rfl (by simp) (by
            intro i hi
            rw [getW_listW _ hsl]
            match i, hi with
            | 0, _ => exact ⟨_, rfl, hvr, hst⟩
            | 1, _ => exact ⟨_, rfl, VR.small 0 (by omega), by show storable (wI 0) = true; rw [storable_iff, tag_wI]; exact ⟨by decide, by decide, by decide, wI_slot (by omega)⟩⟩)
          exact ⟨_, _, _, _, c', e, hbl, hl, Nat.le_succ _, vr_ptr_new (updR_same _ _ _), K.io, hcall⟩
        unfold openS at h
        cases hnc : noCode cw with
        | true =>
          rw [hnc, sel_true] at h
          obtain ⟨a, cap, rfl⟩ := noCode_inv hr1 hnc
          have hst : storable cw = true := by
            have h' := h
            unfold openB at h'
            exact (gd_inv h').1
          exact mk cw a a 0 0 cap hr1 hst h (K.short w a 0 cap (by omega))
        | false =>
        rw [hnc, sel_false] at h
        obtain ⟨g1, h⟩ := gd_inv h
        obtain ⟨g2, h⟩ := gd_inv h
        obtain ⟨g3, h⟩ := gd_inv h
        have g1 := Nat.eq_of_beq_eq_true g1
        have g2 := Nat.eq_of_beq_eq_true g2
        obtain ⟨b, j, lo, hi, rb, d, sz, cap, hb, hj, hlo, hhi, h5, h6, h7, h8, h9, rfl, rfl⟩ := hr1.opq_inv g1
        obtain ⟨p1, p2, p3, p4⟩ := o_parts b j lo hi hj hlo hhi
        rw [p3] at g2
        have g2 := g2.symm
        subst g2
        rw [p2, p4] at h
        have e0 : (E.lst j0).length = code.length := by rw [hE.l0, List.length_map]
        have g3 := isCode_inv g3
        have hb16 := c.agree.lt g3
        have sto : ∀ j lo hi : Nat, j < 1048576 → lo < 4194304 → hi < 4194304 → storable (wO b j lo hi) = true := fun j lo hi q1 q2 q3 => by
          rw [storable_iff, tag_wO]
          refine ⟨by decide, by decide, by decide, ?_⟩
          show 16 * (4194304 * (4194304 * (1048576 * b + j) + lo) + hi) + 11 < _
          omega
        have e1 : (E.lst 1).length = (code.take 2000).length := by rw [hE.l1, List.length_map]
        obtain ⟨g4, h⟩ := gd_inv h
        have g4 := Nat.le_of_ble_eq_true g4
        by_cases hlong : 2000 < (E.lst j0).length
        · have hl2 : (E.lst 1).length = 2000 := by rw [e1]; simp; omega
          have hv1 := VR.opq (ρ := ρ) (L := L) b 1 1 2000 rb d sz cap hb (by omega) (by omega) (by omega) (by omega) (.inr (by omega)) (by omega) h8 h9
          rw [hl2] at hv1
          exact mk _ _ _ _ 2000 cap hv1 (sto _ _ _ (by omega) (by omega) (by omega)) h (K.long w rb d (E.lst j0).length cap (by omega) h7)
        · have hl2 : (E.lst 1).length = (E.lst j0).length := by rw [e1]; simp; omega
          have hv1 := VR.opq (ρ := ρ) (L := L) b 1 1 2000 rb d sz cap hb (by omega) (by omega) (by omega) (by omega) (.inr (by omega)) (by omega) h8 h9
          rw [hl2] at hv1
          exact mk _ _ _ _ _ cap hv1 (sto _ _ _ (by omega) (by omega) (by omega)) h (K.short w _ (E.lst j0).length cap (by omega))
      · cases h
    · cases h
end Go.Eng

/- Laws on a code: a tree of questions. -/
namespace Go.Eng
set_option linter.unusedSectionVars false
set_option linter.unusedSimpArgs false
set_option linter.unusedVariables false
open Go Go.RowKit

/-! ### more that is known beforehand -/
def orS (A B : Sums) : Sums := fun f args H n => match A f args H n with | .no => B f args H n | .yes r => .yes r
theorem orS_sound [E : Env] {P : Program} {A B : Sums} (ha : SumS P A) (hb : SumS P B) : SumS P (orS A B) := by
  intro base H n ρ L w f args vs v H' n' cs c har h
  unfold orS at h
  split at h
  · exact hb _ _ _ _ _ _ _ _ _ _ _ _ _ c har h
  · rename_i r hr
    injection h with h
    subst h
    exact ha _ _ _ _ _ _ _ _ _ _ _ _ _ c har hr
def Always (P : Program) (S : Sums) : Prop := ∀ E : Env, @SumS E P S
theorem noSums_always (P : Program) : Always P noSums := fun E => @noSums_ok E P
/-- the length in bits of a small number: what it is does not matter -/
structure LenK (P : Program) (f : Nat) : Prop where
  known : Known P f
  calls : ∀ (w : World) (p : Nat), p < 8 → Calls P f #[.int .u64 (p : Int)] w fun e w' => ∃ r : Int, 0 ≤ r ∧ r ≤ 255 ∧ e = .returned (.int .i64 r) ∧ w' = w
noncomputable def lenS (f : Nat) : Sums := fun g args H n => sel (Nat.beq g f) (match args with | [x] => gd (Nat.beq (tagOf x) 5) (gd (ltb (payOf x) 8) (.yes (.ok (wG 0 255) H n))) | _ => .no) .no
theorem lenS_always {P : Program} {f : Nat} (K : LenK P f) : Always P (lenS f) := by
  intro E base H n ρ L w g args vs v H' n' cs c ha h
  unfold lenS at h
  rw [sel_beq] at h
  generalize hvs : vs.toList = l at ha
  split at h
  · rename_i hf
    subst hf
    split at h
    · rename_i x
      rcases ha with _ | ⟨_, v1, _, vs1, hr1, ha1⟩
      cases ha1
      have hvv : vs = #[v1] := by cases vs; simp_all
      subst hvv
      obtain ⟨g1, h⟩ := gd_inv h
      obtain ⟨g2, h⟩ := gd_inv h
      have g1 := Nat.eq_of_beq_eq_true g1
      have g2 := (ltb_iff _ _).1 g2
      obtain ⟨p, hp, hpp, rfl⟩ := hr1.u64_inv g1
      rw [hpp] at g2
      injection h with h
      injection h with e1 e2 e3
      subst e1; subst e2; subst e3
      obtain ⟨e, W, ⟨r, h1, h2, he, hW⟩, hcall⟩ := calls_at (K.calls w p g2) cs
      subst he; subst hW
      exact ⟨ρ, L, _, _, c, .refl _ _, Below.refl _ _, .refl _ _ _ _, Nat.le_refl _, .btw 0 255 r (by omega) (by omega) (by omega), K.known, hcall⟩
    · cases h
  · cases h

noncomputable section
/-- the place and the number that an index tells -/
def okIx (j : Nat) : Bool := sel (ltb (Nat.div j 4096) 1000000) (sel (Nat.ble 1 (Nat.mod j 4096)) (Nat.ble (Nat.mod j 4096) 1000) false) false
/-- all answers to all questions -/
def chkT (run : Tab → OR) (k : Nat) : Tab → Bool :=
  Nat.rec (motive := fun _ => Tab → Bool) (fun _ => false)
    (fun _ ih tab => match run tab with
      | .ok v _ _ => Nat.beq v 18
      | .bad q => sel (ltb q 1099511627776) false
        (let j := Nat.pred (Nat.div q 1099511627776)
         let c := Nat.sub (Nat.mod q 1099511627776) 549755813888
         let both (lo hi : Nat) : Bool := sel (ltb lo 1000) (sel (ih ((j, lo, Nat.pred c) :: tab)) (ih ((j, c, hi) :: tab)) false) false
         sel (sel (Nat.ble 1 c) (Nat.ble c 1000) false) (tabGet tab j both (sel (okIx j) (both 0 (Nat.pred (Nat.mod j 4096))) false)) false)) k
end

/-- A code told: what is not known. -/
noncomputable def codeL (code : List Int) (j : Nat) : List Value :=
  if j = 0 then code.map (Value.int .u8) else if j = 1 then (code.take 2000).map (Value.int .u8)
  else if j = 1000 then (if code.length % 3 = 0 then code.map (Value.int .u8) else [])
  else if j = 1001 then (if code.length % 3 = 0 then [.int .u8 0] else code.map (Value.int .u8)) else []
theorem codeL_len {code : List Int} (hl : code.length < 9223372036854775808) (j : Nat) : (codeL code j).length < 9223372036854775808 := by
  unfold codeL
  repeat' split
  all_goals simp
  all_goals omega
theorem txt0_ok : inT knownT (strW ⟨#[0]⟩) = false := by kernel_rfl
/-- the numbers that a code tells: what pick answers; a number of a sum (pick 7 less 3), always there or seldom -/
def drawnv (c : List Int) (j : Nat) : Int :=
  if j % 4096 = 1007 then pickv c (j / 4096) 7 - 3 else if j % 4096 = 2007 then (if 0 < pickv c (j / 4096 + 1) 3 then 0 else pickv c (j / 4096) 7 - 3) else pickv c (j / 4096) (j % 4096)
@[reducible] noncomputable def codeEnv (code : List Int) (hl : code.length < 9223372036854775808) : Env where
  lst := codeL code
  int := fun j => if 1099511627776 ≤ j then (((codeL code (j - 1099511627776)).length : Nat) : Int)
    else if -9223372036854775808 ≤ drawnv (code.take 2000) j ∧ drawnv (code.take 2000) j < 9223372036854775808 then drawnv (code.take 2000) j else 0
  wf := fun j => by
    split
    · have := codeL_len hl (j - 1099511627776); omega
    · split
      · assumption
      · omega
  len := fun j _ => by
    have : lenIx j = 1099511627776 + j := rfl
    rw [this, if_pos (by omega), show 1099511627776 + j - 1099511627776 = j from by omega]
  byThree := by
    unfold codeL
    simp only [if_neg (show ¬ (1000 : Nat) = 0 by omega), if_neg (show ¬ (1000 : Nat) = 1 by omega), if_pos]
    split
    · rw [List.length_map]; assumption
    · rfl
  notThree := by
    unfold codeL
    simp only [if_neg (show ¬ (1001 : Nat) = 0 by omega), if_neg (show ¬ (1001 : Nat) = 1 by omega), if_neg (show ¬ (1001 : Nat) = 1000 by omega), if_pos]
    split
    · simp
    · rw [List.length_map]; assumption
  txt := fun _ => ⟨#[0]⟩
  txtNe := fun _ _ => txt0_ok

/-- the index that tells whether three divides the code's length -/
def threeIx (code : List Int) : Nat := if code.length % 3 = 0 then 1000 else 1001
theorem codeL_three (code : List Int) : codeL code (threeIx code) = code.map (Value.int .u8) := by
  unfold codeL threeIx
  split
  · rename_i h; simp [h]
  · rename_i h; simp [h]

theorem codeEnv_ok {code : List Int} (hl : code.length < 9223372036854775808) (hb : ∀ x ∈ code, 0 ≤ x ∧ x ≤ 255) (hne : 1 ≤ code.length) {j0 : Nat} (h0 : codeL code j0 = code.map (Value.int .u8)) : @DrawE (codeEnv code hl) code j0 :=
  letI : Env := codeEnv code hl
  { l0 := h0
    l1 := rfl
    byte := hb
    int := fun p n hp h1 h2 => by
      have hr := pickv_range (c := code.take 2000) (fun x hx => hb x (List.mem_of_mem_take hx)) (by simp; omega) hp h1 h2
      have e : drawnv (code.take 2000) (p * 4096 + n) = pickv (code.take 2000) p n := by
        unfold drawnv
        rw [if_neg (by omega), if_neg (by omega), show (p * 4096 + n) / 4096 = p from by omega, show (p * 4096 + n) % 4096 = n from by omega]
      show (if 1099511627776 ≤ p * 4096 + n then _ else _) = _
      rw [if_neg (by omega), e, if_pos (by omega)]
    num0 := fun p hp => by
      have hr := pickv_range (c := code.take 2000) (fun x hx => hb x (List.mem_of_mem_take hx)) (by simp; omega) hp (n := 7) (by omega) (by omega)
      have e : drawnv (code.take 2000) (p * 4096 + 1007) = pickv (code.take 2000) p 7 - 3 := by
        unfold drawnv
        rw [if_pos (by omega), show (p * 4096 + 1007) / 4096 = p from by omega]
      show (if 1099511627776 ≤ p * 4096 + 1007 then _ else _) = _
      rw [if_neg (by omega), e, if_pos (by omega)]
    num1 := fun p hp => by
      have hr := pickv_range (c := code.take 2000) (fun x hx => hb x (List.mem_of_mem_take hx)) (by simp; omega) hp (n := 7) (by omega) (by omega)
      have e : drawnv (code.take 2000) (p * 4096 + 2007) = if 0 < pickv (code.take 2000) (p + 1) 3 then 0 else pickv (code.take 2000) p 7 - 3 := by
        unfold drawnv
        rw [if_neg (by omega), if_pos (by omega), show (p * 4096 + 2007) / 4096 = p from by omega]
      show (if 1099511627776 ≤ p * 4096 + 2007 then _ else _) = _
      rw [if_neg (by omega), e, if_pos (by split <;> omega)]
    kn := fun _ _ h => by cases h }

theorem chkT_sound [E : Env] {code : List Int} {j0 : Nat} (hE : DrawE code j0) (hne : 1 ≤ code.length) {run : Tab → OR} {Q : Prop} (hrun : ∀ tab, TabOk tab → isTrue (run tab) = true → Q) : ∀ (k : Nat) (tab : Tab), TabOk tab → chkT run k tab = true → Q
  | 0, _, _, h => by cases h
  | k + 1, tab, hT, h => by
    have e : chkT run (k + 1) tab = match run tab with
      | .ok v _ _ => Nat.beq v 18
      | .bad q => sel (ltb q 1099511627776) false
         (sel (sel (Nat.ble 1 (Nat.sub (Nat.mod q 1099511627776) 549755813888)) (Nat.ble (Nat.sub (Nat.mod q 1099511627776) 549755813888) 1000) false) (tabGet tab (Nat.pred (Nat.div q 1099511627776))
           (fun lo hi => sel (ltb lo 1000) (sel (chkT run k ((Nat.pred (Nat.div q 1099511627776), lo, Nat.pred (Nat.sub (Nat.mod q 1099511627776) 549755813888)) :: tab)) (chkT run k ((Nat.pred (Nat.div q 1099511627776), Nat.sub (Nat.mod q 1099511627776) 549755813888, hi) :: tab)) false) false)
           (sel (okIx (Nat.pred (Nat.div q 1099511627776))) (sel (ltb 0 1000) (sel (chkT run k ((Nat.pred (Nat.div q 1099511627776), 0, Nat.pred (Nat.sub (Nat.mod q 1099511627776) 549755813888)) :: tab)) (chkT run k ((Nat.pred (Nat.div q 1099511627776), Nat.sub (Nat.mod q 1099511627776) 549755813888, Nat.pred (Nat.mod (Nat.pred (Nat.div q 1099511627776)) 4096)) :: tab)) false) false) false)) false) := rfl
    rw [e] at h
    cases hr : run tab with
    | ok v H n =>
      rw [hr] at h
      exact hrun tab hT (by rw [hr]; exact h)
    | bad q =>
      rw [hr] at h
      dsimp only at h
      rw [sel_ltb] at h
      split at h
      · cases h
      · generalize Nat.pred (Nat.div q 1099511627776) = j at h
        generalize Nat.sub (Nat.mod q 1099511627776) 549755813888 = c at h
        cases hcc : sel (Nat.ble 1 c) (Nat.ble c 1000) false with
        | false => rw [hcc] at h; cases h
        | true =>
          rw [hcc, sel_true] at h
          rw [sel_ble] at hcc
          have hc2 : 1 ≤ c ∧ c ≤ 1000 := by
            split at hcc
            · exact ⟨by assumption, Nat.le_of_ble_eq_true hcc⟩
            · cases hcc
          have part : ∀ lo hi : Nat, (lo : Int) ≤ E.int j → E.int j ≤ hi → hi < 1000 → sel (ltb lo 1000) (sel (chkT run k ((j, lo, Nat.pred c) :: tab)) (chkT run k ((j, c, hi) :: tab)) false) false = true → Q := by
            intro lo hi h1 h2 h3 h
            rw [sel_ltb, if_pos (by omega)] at h
            have hp : Nat.pred c = c - 1 := rfl
            have hboth : chkT run k ((j, lo, Nat.pred c) :: tab) = true ∧ chkT run k ((j, c, hi) :: tab) = true := by
              cases hx : chkT run k ((j, lo, Nat.pred c) :: tab) with
              | true => rw [hx] at h; exact ⟨rfl, h⟩
              | false => rw [hx] at h; cases h
            by_cases hlt : E.int j < c
            · refine chkT_sound hE hne hrun k _ ?_ hboth.1
              intro e he
              rcases List.mem_cons.1 he with rfl | he
              · exact .inl ⟨h1, by show E.int j ≤ ((Nat.pred c : Nat) : Int); rw [hp]; omega, by
                  show Nat.pred c < 1000
                  rw [hp]
                  omega⟩
              · exact hT e he
            · refine chkT_sound hE hne hrun k _ ?_ hboth.2
              intro e he
              rcases List.mem_cons.1 he with rfl | he
              · exact .inl ⟨by show (c : Int) ≤ E.int j; omega, h2, h3⟩
              · exact hT e he
          rcases tabGet_inv (j := j) tab hT with h0 | ⟨lo, hi, h0, h1⟩
          · rw [h0, sel_eq] at h
            split at h
            · rename_i hok
              unfold okIx at hok
              rw [sel_ltb, sel_ble] at hok
              split at hok
              · rename_i hp
                split at hok
                · rename_i hn1
                  have hn2 := Nat.le_of_ble_eq_true hok
                  have d1 : Nat.div j 4096 = j / 4096 := rfl
                  have d2 : Nat.mod j 4096 = j % 4096 := rfl
                  rw [d1] at hp
                  rw [d2] at hn1 hn2
                  have hi := hE.int (j / 4096) (j % 4096) hp hn1 hn2
                  have hr := pickv_range (c := code.take 2000) (fun x hx => hE.byte x (List.mem_of_mem_take hx)) (by simp; omega) hp hn1 hn2
                  rw [show j / 4096 * 4096 + j % 4096 = j from by omega] at hi
                  rw [← hi] at hr
                  have d3 : Nat.pred (Nat.mod j 4096) = j % 4096 - 1 := rfl
                  exact part 0 _ (by omega) (by rw [d3]; omega) (by rw [d3]; omega) h
                · cases hok
              · cases hok
            · cases h
          · rw [h0] at h
            rcases h1 with ⟨h1, h2, h3⟩ | ⟨h1, _⟩
            · exact part lo hi h1 h2 h3 h
            · simp only at h1
              rw [sel_ltb, if_neg (by omega)] at h
              cases h
/-- Whatever is drawn, one of the runs is it. -/
def Covers (run : Tab → OR) (tab : Tab) : Prop :=
  ∀ (E : Env) (code : List Int) (j0 : Nat), @DrawE E code j0 → 1 ≤ code.length → @TabOk E tab → ∀ Q : Prop, (∀ E' : Env, E'.lst = E.lst → @DrawE E' code j0 → ∀ tab, @TabOk E' tab → isTrue (run tab) = true → Q) → Q
theorem Covers.of {run : Tab → OR} {tab : Tab} (k : Nat) (h : chkT run k tab = true) : Covers run tab := fun E code j0 hE hne hT Q hrun => @chkT_sound E code j0 hE hne run Q (hrun E rfl hE) k tab hT h
theorem Covers.part {run : Tab → OR} {tab : Tab} (j : Nat) (hj : okIx j = true) (h : ∀ v, v < j % 4096 → Covers run ((j, v, v) :: tab)) : Covers run tab := by
  intro E code j0 hE hne hT Q hrun
  unfold okIx at hj
  rw [sel_ltb, sel_ble] at hj
  split at hj
  · rename_i hp
    split at hj
    · rename_i hn1
      have hn2 := Nat.le_of_ble_eq_true hj
      have d1 : Nat.div j 4096 = j / 4096 := rfl
      have d2 : Nat.mod j 4096 = j % 4096 := rfl
      rw [d1] at hp
      rw [d2] at hn1 hn2
      have hi := hE.int (j / 4096) (j % 4096) hp hn1 hn2
      have hr := pickv_range (c := code.take 2000) (fun x hx => hE.byte x (List.mem_of_mem_take hx)) (by simp; omega) hp hn1 hn2
      rw [show j / 4096 * 4096 + j % 4096 = j from by omega] at hi
      rw [← hi] at hr
      have hv : ((E.int j).toNat : Int) = E.int j := by omega
      refine h (E.int j).toNat (by omega) E code j0 hE hne ?_ Q hrun
      intro e he
      rcases List.mem_cons.1 he with rfl | he
      · exact .inl ⟨by show (((E.int j).toNat : Nat) : Int) ≤ E.int j; omega, by show E.int j ≤ (((E.int j).toNat : Nat) : Int); omega, by show (E.int j).toNat < 1000; omega⟩
      · exact hT e he
    · cases hj
  · cases hj
/-- the numbers below one, one by one -/
def Each (n : Nat) (p : Nat → Prop) : Prop := Nat.rec (motive := fun _ => Prop) True (fun k ih => ih ∧ p k) n
theorem Each.all {p : Nat → Prop} : ∀ {n : Nat}, Each n p → ∀ v, v < n → p v
  | 0, _, v, h => by omega
  | n + 1, he, v, h => by
    by_cases hv : v = n
    · subst hv; exact he.2
    · exact Each.all he.1 v (by omega)

/-- A row of ints of a kind, as the shells of the laws tell it. -/
def RowOf (k : IntKind) (w : World) (x : Addr) (cap : Nat) (zs : List Int) : Prop := zs.length = cap ∧ ∀ i, i < zs.length → w.cell? (x.add i) = some (.int k (zs.getD i 0))

theorem RowOf.block {k : IntKind} {w : World} {x : Addr} {cap : Nat} {zs : List Int} (h : RowOf k w x cap zs) (hc : 0 < cap) :
    x.spot = none ∧ ∃ cs ty fz, w.heap[x.block]? = some (.cells cs ty fz) ∧ x.off + cap ≤ cs.size ∧ ∀ i, i < cap → cs[x.off + i]? = some (.int k (zs.getD i 0)) := by
  obtain ⟨hl, hcell⟩ := h
  have h0 := hcell 0 (by omega)
  have e0 : x.add 0 = x := by simp [Addr.add]
  rw [e0] at h0
  unfold World.cell? at h0
  split at h0
  · rename_i cs ty fz hh
    split at h0
    · cases h0
    · rename_i hsp
      have hsp' : x.spot = none := by
        cases hx : x.spot with
        | none => rfl
        | some s => rw [hx] at hsp; exact absurd rfl hsp
      have hall : ∀ i, i < cap → cs[x.off + i]? = some (.int k (zs.getD i 0)) := by
        intro i hi
        have h1 := hcell i (by omega)
        have e1 : x.add i = ⟨x.block, x.off + i, none⟩ := by
          cases i with
          | zero =>
            rw [e0]
            cases x with
            | mk b o s => simp at hsp' ⊢; exact hsp'
          | succ i => simp [Addr.add]
        rw [e1] at h1
        simpa [World.cell?, hh] using h1
      refine ⟨hsp', cs, ty, fz, hh, ?_, hall⟩
      have := hall (cap - 1) (by omega)
      have := (Array.getElem?_eq_some_iff.1 this).1
      omega
  · cases h0

/-- A law on a code, run on all draws. -/
noncomputable def codeRun (P : Program) (S0 : Sums) (fo fp fuel d f : Nat) (tab : Tab) : OR := funE P (callN P (orS (drawS fo fp tab) S0) fuel d) fuel f [wO 0 0 1 1048576] (hset .nil 0 (.opq 0 1)) 1
noncomputable def codeRunAt (j0 : Nat) (P : Program) (S0 : Sums) (fo fp fuel d f : Nat) (tab : Tab) : OR := funE P (callN P (orS (drawS fo fp tab j0) S0) fuel d) fuel f [wO 0 j0 1 1048576] (hset .nil 0 (.opq j0 1)) 1
noncomputable def longRun (P : Program) (S0 : Sums) (fo fp fuel d f : Nat) : OR := funE P (callN P (orS (drawS fo fp []) S0) fuel d) fuel f [wO 0 0 1048577 0] (hset .nil 0 (.opq 0 1)) 1
noncomputable def emptyRun (P : Program) (S0 : Sums) (fo fp fuel d f : Nat) : OR := funE P (callN P (orS (drawS fo fp []) S0) fuel d) fuel f [wS 0 1 0 0 0] (hset .nil 0 (.cells 0 0 0 0 0 0)) 1
noncomputable def zeroRun (P : Program) (S0 : Sums) (fo fp fuel d f : Nat) : OR := funE P (callN P (orS (drawS fo fp []) S0) fuel d) fuel f [14] .nil 0
noncomputable def nilRun (P : Program) (S0 : Sums) (fo fp fuel d f : Nat) : OR := funE P (callN P (orS (drawS fo fp []) S0) fuel d) fuel f [sNil] .nil 0

@[reducible] noncomputable def anyEnv : Env := codeEnv [0] (by decide)
theorem tabOk_nil [E : Env] : TabOk [] := fun e h => by cases h
theorem draw_any {P : Program} {fo fp tS : Nat} (K : DrawK P fo fp tS) : @SumS anyEnv P (drawS fo fp []) :=
  @drawS_sound anyEnv P fo fp tS [] [0] 0 K (codeEnv_ok (by decide) (by simp) (by decide) rfl) (@tabOk_nil anyEnv)

/-- ██ A law on a code. -/
theorem code_true {P : Program} {S0 : Sums} (hS0 : Always P S0) {fo fp tS fuel d f len cap : Nat} (K : DrawK P fo fp tS) {w : World} {x : Addr} {zs : List Int} (hz : RowOf .u8 w x cap zs) (hcap : 0 < cap) (hle : len ≤ cap) (hc : cap < 9223372036854775808)
    (hb : ∀ z ∈ zs, 0 ≤ z ∧ z ≤ 255) (ix : List Int → Nat) (hix : ∀ code, codeL code (ix code) = code.map (Value.int .u8) ∧ ix code < 1048576)
    (h0 : isTrue (emptyRun P S0 fo fp fuel d f) = true) (h1 : ∀ code, Covers (codeRunAt (ix code) P S0 fo fp fuel d f) []) (h2 : isTrue (longRun P S0 fo fp fuel d f) = true) :
    Calls P f #[.slice (some x) len cap] w fun e w' => e = .returned (.bool true) ∧ Below w.heap.size w w' := by
  obtain ⟨hsp, cs, ty, fz, hh, hsz, hall⟩ := hz.block hcap
  have hx : x = ⟨x.block, x.off, none⟩ := by
    cases x with
    | mk b o s => simp at hsp ⊢; exact hsp
  have hrb : x.block < w.heap.size := (Array.getElem?_eq_some_iff.1 hh).1
  have hzl : zs.length = cap := hz.1
  by_cases hl0 : len = 0
  · subst hl0
    letI : Env := anyEnv
    have c := (Ctx.start w).arg (nb := 0) (ch := 0) (sz := cap) (d := x.off) (by omega) hh hrb hsz (by omega) (by intro i hi; omega)
    refine run_true (orS_sound (draw_any K) (hS0 _)) c (.cons _ _ _ _ ?_ .nil) h0
    exact .slice 0 1 0 0 0 x.block x.off cap cap x (updR_same _ _ _) (by omega) (by omega) (by omega) (by omega) (by omega) hc (.inl rfl) (.inr ⟨hx, by omega⟩)
  · have hcl : (zs.take len).length = len := by simp; omega
    have hcb : ∀ z ∈ zs.take len, 0 ≤ z ∧ z ≤ 255 := fun z hz => hb z (List.mem_of_mem_take hz)
    letI E : Env := codeEnv (zs.take len) (by omega)
    have main : ∀ E : Env, E.lst = codeL (zs.take len) → (∀ k o, E.kept k ≠ some o) → ∀ j0 : Nat, codeL (zs.take len) j0 = (zs.take len).map (Value.int .u8) → j0 < 1048576 → Ctx w.heap.size (hset .nil 0 (.opq j0 1)) 1 (updR (fun _ => none) 0 (x.block, x.off, cap)) (upd (fun _ => none) 0 (.opq j0 1)) w ∧
        ∀ lo hi : Nat, lo < 4194304 → hi < 4194304 → lo ≤ len → (hi = 0 ∨ len ≤ hi) → VR (updR (fun _ => none) 0 (x.block, x.off, cap)) (upd (fun _ => none) 0 (.opq j0 1)) (wO 0 j0 lo hi) (.slice (some x) len cap) := by
      intro E hEl hkn j0 hj hjl
      have hel : E.lst j0 = (zs.take len).map (Value.int .u8) := by rw [hEl]; exact hj
      have he : (E.lst j0).length = len := by rw [hel, List.length_map, hcl]
      have c := (Ctx.start w (fun k o h => absurd h (hkn k o))).opq (j := j0) (sz := cap) (d := x.off) (by omega) hh hrb hsz (by omega) (fun i hi => by
        rw [hall i (by omega), hel, List.getElem?_map]
        have hi2 : i < (zs.take len).length := by omega
        rw [List.getElem?_eq_getElem hi2]
        have hi3 : i < zs.length := by omega
        simp [List.getD_eq_getElem?_getD, hi3])
      refine ⟨c, ?_⟩
      intro lo hi q1 q2 q3 q4
      have := VR.opq (ρ := updR (fun _ => none) 0 (x.block, x.off, cap)) (L := upd (fun _ => none) 0 (.opq j0 1)) 0 j0 lo hi x.block x.off cap cap (updR_same _ _ _) hjl q1 q2 (by rw [he]; exact q3) (by rw [he]; exact q4) (by rw [he]; exact hle) (by omega) hc
      rw [he, ← hx] at this
      exact this
    by_cases hlong : 1048576 < len
    · obtain ⟨c, word⟩ := main E rfl (fun _ _ h => by cases (show (none : Option Obj) = some _ from h)) 0 rfl (by omega)
      have hE : DrawE (zs.take len) 0 := codeEnv_ok (by omega) hcb (by omega) rfl
      exact run_true (orS_sound (drawS_sound K hE tabOk_nil) (hS0 _)) c (.cons _ _ _ _ (word 1048577 0 (by omega) (by omega) (by omega) (.inl rfl)) .nil) h2
    · obtain ⟨hi1, hi2⟩ := hix (zs.take len)
      have hE : DrawE (zs.take len) (ix (zs.take len)) := codeEnv_ok (by omega) hcb (by omega) hi1
      refine h1 (zs.take len) E (zs.take len) _ hE (by omega) tabOk_nil _ fun E' hl' hE' tab hT hr => ?_
      obtain ⟨c, word⟩ := main E' hl' hE'.kn _ hi1 hi2
      exact run_true (orS_sound (drawS_sound K hE' hT) (hS0 _)) c (.cons _ _ _ _ (word 1 1048576 (by omega) (by omega) (by omega) (.inr (by omega))) .nil) hr

theorem code_zero {P : Program} {S0 : Sums} (hS0 : Always P S0) {fo fp tS fuel d f : Nat} (K : DrawK P fo fp tS) {w : World} {x : Addr} (h : isTrue (zeroRun P S0 fo fp fuel d f) = true) :
    Calls P f #[.slice (some x) 0 0] w fun e w' => e = .returned (.bool true) ∧ Below w.heap.size w w' :=
  letI : Env := anyEnv
  run_true (orS_sound (draw_any K) (hS0 _)) (Ctx.start w) (.cons _ _ _ _ (.sl0 x) .nil) h

theorem code_nil {P : Program} {S0 : Sums} (hS0 : Always P S0) {fo fp tS fuel d f : Nat} (K : DrawK P fo fp tS) {w : World} (h : isTrue (nilRun P S0 fo fp fuel d f) = true) :
    Calls P f #[.slice none 0 0] w fun e w' => e = .returned (.bool true) ∧ Below w.heap.size w w' :=
  letI : Env := anyEnv
  run_true (orS_sound (draw_any K) (hS0 _)) (Ctx.start w) (.cons _ _ _ _ .sliceNil .nil) h

theorem wf_byte {n : Int} (h : (Lit.int .u8 n).wf = true) : 0 ≤ n ∧ n ≤ 255 := by
  have hmin : IntKind.u8.min = 0 := rfl
  have hmax : IntKind.u8.max = 255 := rfl
  simp only [Lit.wf, Bool.and_eq_true, decide_eq_true_eq] at h
  rw [hmin, hmax] at h
  exact h

/-- ██ The walk of a law on a code, out of its runs. -/
theorem code_walk {P : Program} {S0 : Sums} (hS0 : Always P S0) {fo fp tS fuel d f len cap : Nat} (K : DrawK P fo fp tS) {w : World} {a : Option Addr} {zs : List Int}
    (w0 : (a = none ∧ len = 0 ∧ cap = 0 ∧ zs = []) ∨ ∃ x, a = some x ∧ len ≤ cap ∧ cap ≤ maxLen ∧ zs.length = cap ∧ (∀ i, i < zs.length → w.cell? (x.add i) = some (.int .u8 (zs.getD i 0))) ∧ ∀ n ∈ zs, (Lit.int .u8 n).wf = true)
    (hn : isTrue (nilRun P S0 fo fp fuel d f) = true) (hz : isTrue (zeroRun P S0 fo fp fuel d f) = true) (h0 : isTrue (emptyRun P S0 fo fp fuel d f) = true) (h2 : isTrue (longRun P S0 fo fp fuel d f) = true)
    (h1 : Covers (codeRun P S0 fo fp fuel d f) []) :
    Calls P f #[.slice a len cap] w fun e w' => e = .returned (.bool true) ∧ Below w.heap.size w w' := by
  rcases w0 with ⟨rfl, rfl, rfl, rfl⟩ | ⟨x, rfl, hl, hm, hzl, hcell, hwz⟩
  · exact code_nil hS0 K hn
  · by_cases hc : cap = 0
    · subst hc
      obtain rfl : len = 0 := by omega
      exact code_zero hS0 K hz
    · unfold maxLen at hm
      exact code_true hS0 K ⟨hzl, hcell⟩ (by omega) hl (by omega) (fun z hz => wf_byte (hwz z hz)) (fun _ => 0) (fun _ => ⟨rfl, by omega⟩) h0 (fun _ => h1) h2

/-- ██ The same, where the law asks whether three divides the code's length: the runs for both. -/
theorem code_walk3 {P : Program} {S0 : Sums} (hS0 : Always P S0) {fo fp tS fuel d f len cap : Nat} (K : DrawK P fo fp tS) {w : World} {a : Option Addr} {zs : List Int}
    (w0 : (a = none ∧ len = 0 ∧ cap = 0 ∧ zs = []) ∨ ∃ x, a = some x ∧ len ≤ cap ∧ cap ≤ maxLen ∧ zs.length = cap ∧ (∀ i, i < zs.length → w.cell? (x.add i) = some (.int .u8 (zs.getD i 0))) ∧ ∀ n ∈ zs, (Lit.int .u8 n).wf = true)
    (hn : isTrue (nilRun P S0 fo fp fuel d f) = true) (hz : isTrue (zeroRun P S0 fo fp fuel d f) = true) (h0 : isTrue (emptyRun P S0 fo fp fuel d f) = true) (h2 : isTrue (longRun P S0 fo fp fuel d f) = true)
    (h1 : Covers (codeRunAt 1000 P S0 fo fp fuel d f) []) (h3 : Covers (codeRunAt 1001 P S0 fo fp fuel d f) []) :
    Calls P f #[.slice a len cap] w fun e w' => e = .returned (.bool true) ∧ Below w.heap.size w w' := by
  rcases w0 with ⟨rfl, rfl, rfl, rfl⟩ | ⟨x, rfl, hl, hm, hzl, hcell, hwz⟩
  · exact code_nil hS0 K hn
  · by_cases hc : cap = 0
    · subst hc
      obtain rfl : len = 0 := by omega
      exact code_zero hS0 K hz
    · unfold maxLen at hm
      refine code_true hS0 K ⟨hzl, hcell⟩ (by omega) hl (by omega) (fun z hz => wf_byte (hwz z hz)) threeIx (fun code => ⟨codeL_three code, ?_⟩) h0 (fun code => ?_) h2
      · unfold threeIx; split <;> omega
      · unfold threeIx; split
        · exact h1
        · exact h3
end Go.Eng
