/- Numbers that are drawn: what is known beforehand of the reader of a code. -/
import Derived.Test.YthcdiaahpodkoabEngU
import Derived.WalkKit
import Derived.Deep.Draws
namespace Go.Eng
set_option linter.unusedSectionVars false
set_option linter.unusedSimpArgs false
set_option linter.unusedVariables false
open Go Go.RowKit

/-! ### plain mathematics -/
def mixv (x y : Int) (p len n : Nat) : Int :=
  (bits BinOp.xor IntKind.i64 (wrap64 (x * 131 + y * 1117 + ↑p * 29 + wrap64 (wrap64 (↑p / ↑len) * 53)))
    (wrap64 ((wrap64 (x * 131 + y * 1117 + ↑p * 29 + wrap64 (wrap64 (↑p / ↑len) * 53))).tdiv 64))).tmod ↑n

theorem mixv_range (x y : Int) (p len n : Nat) (hn : 1 ≤ n) (hn2 : n ≤ 1000) (hp : p < 1000000) (hlen : 1 ≤ len) (hx : 0 ≤ x) (hx2 : x ≤ 255) (hy : 0 ≤ y) (hy2 : y ≤ 255) :
    0 ≤ mixv x y p len n ∧ mixv x y p len n < n := by
  have w64 : ∀ z : Int, 0 ≤ z → z < 9223372036854775808 → wrap64 z = z := fun z h1 h2 => by unfold wrap64; omega
  have hq0 : 0 ≤ (p : Int) / (len : Int) := Int.ediv_nonneg (by omega) (by omega)
  have hq1 : (p : Int) / (len : Int) ≤ p := by rw [← Int.natCast_ediv]; have := Nat.div_le_self p len; omega
  unfold mixv
  rw [w64 ((p : Int) / (len : Int)) hq0 (by omega), w64 ((p : Int) / (len : Int) * 53) (by omega) (by omega)]
  generalize hz : x * 131 + y * 1117 + (p : Int) * 29 + (p : Int) / (len : Int) * 53 = z
  have hz0 : 0 ≤ z := by omega
  have hz1 : z < 1099511627776 := by omega
  rw [w64 z hz0 (by omega)]
  obtain ⟨m, rfl⟩ : ∃ m : Nat, z = (m : Int) := ⟨z.toNat, by omega⟩
  have ht : Int.tdiv (m : Int) 64 = ((m / 64 : Nat) : Int) := by
    show Int.tdiv (m : Int) ((64 : Nat) : Int) = _
    rfl
  rw [ht, w64 _ (by omega) (by omega)]
  have hb : bits BinOp.xor IntKind.i64 (m : Int) ((m / 64 : Nat) : Int) = ((m ^^^ (m / 64) : Nat) : Int) := by
    have hlt : m ^^^ (m / 64) < 2 ^ 40 := Nat.xor_lt_two_pow (by omega) (by omega)
    simp only [bits]
    have e1 : (BitVec.ofInt IntKind.i64.bits (m : Int) ^^^ BitVec.ofInt IntKind.i64.bits ((m / 64 : Nat) : Int)).toNat = m ^^^ (m / 64) := by
      rw [BitVec.toNat_xor, BitVec.toNat_ofInt, BitVec.toNat_ofInt]
      have h64 : IntKind.i64.bits = 64 := rfl
      rw [h64]
      have a1 : ((m : Int) % ((2 ^ 64 : Nat) : Int)).toNat = m := by omega
      have a2 : (((m / 64 : Nat) : Int) % ((2 ^ 64 : Nat) : Int)).toNat = m / 64 := by omega
      rw [a1, a2]
    rw [e1]
    have := Nat.lt_of_lt_of_le hlt (show 2 ^ 40 ≤ 1099511627776 by decide)
    generalize m ^^^ (m / 64) = r at *
    simp only [IntKind.wrap, IntKind.bits, IntKind.signed]
    simp
    omega
  rw [hb]
  generalize m ^^^ (m / 64) = r
  have : Int.tmod (r : Int) (n : Int) = ((r % n : Nat) : Int) := rfl
  rw [this]
  have := Nat.mod_lt r (show 0 < n by omega)
  omega

/-- what pick answers at place p for n -/
def pickv (c : List Int) (p n : Nat) : Int :=
  if p < c.length then c.getD p 0 % n else mixv (c.getD (p % c.length) 0) (c.getD ((p * 7 + 3) % c.length) 0) p c.length n

theorem getD_byte {c : List Int} (hc : ∀ x ∈ c, 0 ≤ x ∧ x ≤ 255) (i : Nat) : 0 ≤ c.getD i 0 ∧ c.getD i 0 ≤ 255 := by
  by_cases h : i < c.length
  · have : c.getD i 0 ∈ c := by rw [List.getD_eq_getElem?_getD, List.getElem?_eq_getElem h]; exact List.getElem_mem h
    exact hc _ this
  · rw [List.getD_eq_getElem?_getD, List.getElem?_eq_none (by omega)]; simp

theorem pickv_range {c : List Int} (hc : ∀ x ∈ c, 0 ≤ x ∧ x ≤ 255) (hl : 1 ≤ c.length) {p n : Nat} (hp : p < 1000000) (hn : 1 ≤ n) (hn2 : n ≤ 1000) : 0 ≤ pickv c p n ∧ pickv c p n < n := by
  unfold pickv
  split
  · exact ⟨Int.emod_nonneg _ (by omega), Int.emod_lt_of_pos _ (by omega)⟩
  · have h1 := getD_byte hc (p % c.length)
    have h2 := getD_byte hc ((p * 7 + 3) % c.length)
    exact mixv_range _ _ _ _ _ hn hn2 hp hl h1.1 h1.2 h2.1 h2.2

/-! ### what is asked of the two functions -/
def Known (P : Program) (f : Nat) : Prop := ∃ fn, P.funcs[f]? = some fn ∧ fn.body.isSome = true ∧ fn.name ≠ "runtime.NumGoroutine"

structure DrawK (P : Program) (fo fp tS : Nat) : Prop where
  io : Known P fo
  ip : Known P fp
  short : ∀ (w : World) (a : Option Addr) (len cap : Nat), len ≤ 2000 → Calls P fo #[.slice a len cap] w fun e w' =>
    e = .returned (.pointer (some ⟨w.heap.size, 0, none⟩)) ∧ w' = w.alloc (.cells #[.slice a len cap, .int .i64 0] tS)
  long : ∀ (w : World) (cb cd len cap : Nat), 2000 < len → len ≤ cap → Calls P fo #[.slice (some ⟨cb, cd, none⟩) len cap] w fun e w' =>
    e = .returned (.pointer (some ⟨w.heap.size, 0, none⟩)) ∧ w' = w.alloc (.cells #[.slice (some ⟨cb, cd, none⟩) 2000 cap, .int .i64 0] tS)
  inside : ∀ (w : World) (rb d cb cd len cap p n : Nat) (x : Int), 1 ≤ n → n ≤ 1000 → p < 1000000 → p < len → len ≤ 2000 →
    w.cell? ⟨rb, d, none⟩ = some (.slice (some ⟨cb, cd, none⟩) len cap) → w.cell? ⟨rb, d + 1, none⟩ = some (.int .i64 p) → cb ≠ rb → w.frozen? ⟨rb, d + 1, none⟩ = false →
    w.cell? ⟨cb, cd + p, none⟩ = some (.int .u8 x) → 0 ≤ x → x ≤ 255 →
    Calls P fp #[.pointer (some ⟨rb, d, none⟩), .int .i64 n] w fun e w' => e = .returned (.int .i64 (x % n)) ∧ w' = w.setCell ⟨rb, d + 1, none⟩ (.int .i64 (p + 1))
  empty : ∀ (w : World) (rb d p n cap : Nat) (a : Option Addr), 1 ≤ n → n ≤ 1000 → p < 1000000 → w.cell? ⟨rb, d, none⟩ = some (.slice a 0 cap) → w.cell? ⟨rb, d + 1, none⟩ = some (.int .i64 p) → w.frozen? ⟨rb, d + 1, none⟩ = false →
    Calls P fp #[.pointer (some ⟨rb, d, none⟩), .int .i64 n] w fun e w' => e = .returned (.int .i64 0) ∧ w' = w.setCell ⟨rb, d + 1, none⟩ (.int .i64 (p + 1))
  outside : ∀ (w : World) (rb d cb cd len cap p n : Nat) (x y : Int), 1 ≤ n → n ≤ 1000 → p < 1000000 → len ≤ p → len ≤ 2000 → 1 ≤ len →
    w.cell? ⟨rb, d, none⟩ = some (.slice (some ⟨cb, cd, none⟩) len cap) → w.cell? ⟨rb, d + 1, none⟩ = some (.int .i64 p) → cb ≠ rb → w.frozen? ⟨rb, d + 1, none⟩ = false →
    w.cell? ⟨cb, cd + p % len, none⟩ = some (.int .u8 x) → 0 ≤ x → x ≤ 255 → w.cell? ⟨cb, cd + (p * 7 + 3) % len, none⟩ = some (.int .u8 y) → 0 ≤ y → y ≤ 255 →
    Calls P fp #[.pointer (some ⟨rb, d, none⟩), .int .i64 n] w fun e w' => e = .returned (.int .i64 (mixv x y p len n)) ∧ ∃ m, w' = (w.setCell ⟨rb, d + 1, none⟩ (.int .i64 (p + 1))).drewN m

/-! ### what is known beforehand -/
noncomputable section
abbrev Tab := List (Nat × Nat × Nat)
def tabGet {α : Type} (tab : Tab) (j : Nat) (k : Nat → Nat → α) (d : α) : α := List.rec (motive := fun _ => α) d (fun e _ ih => sel (Nat.beq e.1 j) (k e.2.1 e.2.2) ih) tab
/-- a number that is drawn, from lo to hi; lo from 1000 on: it is the variable lo - 1000 of sums of products -/
def rangeW (j lo hi : Nat) : Nat := sel (ltb lo 1000) (sel (Nat.beq lo hi) (wI lo) (wV j (Nat.add 549755813888 lo) (Nat.add 549755813888 hi))) (wV (pvIx (Nat.sub lo 1000)) 549755813888 (Nat.add 549755813888 hi))
def pickW (tab : Tab) (j m : Nat) : Nat := tabGet tab j (rangeW j) (rangeW j 0 (Nat.pred m))
def gd (b : Bool) (r : SR) : SR := sel b r .no
def codeOk (j0 s : Nat) : Bool := sel (Nat.beq (oIx (payOf s)) 1) true (sel (Nat.beq (oIx (payOf s)) j0) (sel (Nat.beq (oHi (payOf s)) 0) false (Nat.ble (oHi (payOf s)) 2000)) false)
def isCode (j0 : Nat) (H : Trie) (b : Nat) : Bool := match tget H b with | some (.opq j ro) => sel (Nat.beq j j0) (Nat.beq ro 1) false | _ => false
def noCode (s : Nat) : Bool := sel (Nat.beq s 14) true (sel (Nat.beq (tagOf s) 4) (Nat.beq (sLen (payOf s)) 0) false)
def pickB (j0 : Nat) (tab : Tab) (b m : Nat) (H : Trie) (n : Nat) : SR :=
  let q := rd H b 1
  let s := rd H b 0
  gd (Nat.beq (tagOf q) 1) (gd (ltb (payOf q) 1000000) (gd (Nat.ble 1 m) (gd (Nat.ble m 1000)
    (sel (noCode s) (.yes (wr H n b 1 (wI (Nat.succ (payOf q))) fun H' => .ok (wI 0) H' n))
      (gd (Nat.beq (tagOf s) 11) (gd (Nat.ble 1 (oLo (payOf s))) (gd (codeOk j0 s) (gd (isCode j0 H (oBlk (payOf s)))
        (.yes (wr H n b 1 (wI (Nat.succ (payOf q))) fun H' => .ok (pickW tab (Nat.add (Nat.mul (payOf q) 4096) m) m) H' n)))))))))) 
def pickS (j0 : Nat) (tab : Tab) (r nn : Nat) (H : Trie) (n : Nat) : SR :=
  gd (Nat.beq (tagOf r) 3) (gd (Nat.ble 1 (pBlk (payOf r))) (gd (Nat.beq (pOff (payOf r)) 0) (gd (Nat.beq (tagOf nn) 1) (pickB j0 tab (Nat.pred (pBlk (payOf r))) (payOf nn) H n))))
def openB (c : Nat) (H : Trie) (n : Nat) : SR := gd (storable c) <| .yes (fresh H n 2 (listW [c, wI 0]) fun H' => .ok (wP n 0) H' (Nat.succ n))
def openS (j0 c : Nat) (H : Trie) (n : Nat) : SR :=
  sel (noCode c) (openB c H n) <| gd (Nat.beq (tagOf c) 11) (gd (Nat.beq (oIx (payOf c)) j0) (gd (isCode j0 H (oBlk (payOf c)))
    (gd (Nat.ble 1 (oLo (payOf c))) (openB (wO (oBlk (payOf c)) 1 1 2000) H n))))
def drawS (fo fp : Nat) (tab : Tab) (j0 : Nat := 0) : Sums := fun f args H n =>
  sel (Nat.beq f fp) (match args with | [r, nn] => pickS j0 tab r nn H n | _ => .no)
    (sel (Nat.beq f fo) (match args with | [c] => openS j0 c H n | _ => .no) .no)
end

structure DrawE [E : Env] (code : List Int) (j0 : Nat := 0) : Prop where
  l0 : E.lst j0 = code.map (Value.int .u8)
  l1 : E.lst 1 = (code.take 2000).map (Value.int .u8)
  byte : ∀ x ∈ code, 0 ≤ x ∧ x ≤ 255
  int : ∀ p n, p < 1000000 → 1 ≤ n → n ≤ 1000 → E.int (p * 4096 + n) = pickv (code.take 2000) p n

variable [E : Env]
def EntOk (e : Nat × Nat × Nat) : Prop := ((e.2.1 : Int) ≤ E.int e.1 ∧ E.int e.1 ≤ e.2.2 ∧ e.2.2 < 1000) ∨ (1000 ≤ e.2.1 ∧ E.int (pvIx (e.2.1 - 1000)) = E.int e.1 ∧ 0 ≤ E.int e.1 ∧ E.int e.1 ≤ e.2.2 ∧ e.2.2 < 1000)
def TabOk (tab : Tab) : Prop := ∀ e ∈ tab, EntOk e

theorem tabGet_inv {α : Type} {k : Nat → Nat → α} {d : α} {j : Nat} : ∀ (tab : Tab), TabOk tab → (tabGet tab j k d = d) ∨ ∃ lo hi : Nat, tabGet tab j k d = k lo hi ∧ EntOk (j, lo, hi)
  | [], _ => .inl rfl
  | e :: tab, h => by
    have eq : tabGet (e :: tab) j k d = sel (Nat.beq e.1 j) (k e.2.1 e.2.2) (tabGet tab j k d) := rfl
    rw [eq, sel_beq]
    split
    · rename_i hj
      subst hj
      exact .inr ⟨_, _, rfl, h e List.mem_cons_self⟩
    · exact tabGet_inv tab fun x hx => h x (List.mem_cons_of_mem _ hx)

theorem rangeW_sound0 {ρ : Rho} {L : Look} {j lo hi : Nat} (h1 : (lo : Int) ≤ E.int j) (h2 : E.int j ≤ hi) (h3 : hi < 1000) : VR ρ L (rangeW j lo hi) (.int .i64 (E.int j)) ∧ tagOf (rangeW j lo hi) ≠ 15 := by
  unfold rangeW
  rw [sel_ltb, if_pos (by omega), sel_beq]
  split
  · rename_i h
    have : E.int j = (lo : Int) := by omega
    rw [this]
    exact ⟨VR.small lo (by omega), by rw [tag_wI]; decide⟩
  · have e1 : Nat.add 549755813888 lo = 549755813888 + lo := rfl
    have e2 : Nat.add 549755813888 hi = 549755813888 + hi := rfl
    exact ⟨.var j _ _ (by rw [e1]; omega) (by rw [e2]; omega) (.inr (by rw [e1]; omega)) (.inr (by rw [e2]; omega)), by rw [tag_wV]; decide⟩
theorem rangeW_sound {ρ : Rho} {L : Look} {j lo hi : Nat} (h : EntOk (j, lo, hi)) : VR ρ L (rangeW j lo hi) (.int .i64 (E.int j)) ∧ tagOf (rangeW j lo hi) ≠ 15 := by
  rcases h with ⟨h1, h2, h3⟩ | ⟨h0, h1, h2, h3, h4⟩
  · exact rangeW_sound0 h1 h2 h3
  · simp only at h0 h1 h2 h3 h4
    unfold rangeW
    rw [sel_ltb, if_neg (by omega)]
    have e2 : Nat.add 549755813888 hi = 549755813888 + hi := rfl
    have e3 : Nat.sub lo 1000 = lo - 1000 := rfl
    rw [e3, ← h1]
    exact ⟨.var _ _ _ (by omega) (by rw [e2]; omega) (.inr (by rw [h1]; omega)) (.inr (by rw [h1, e2]; omega)), by rw [tag_wV]; decide⟩

theorem gd_inv {b : Bool} {r : SR} {x : OR} (h : gd b r = .yes x) : b = true ∧ r = .yes x := by
  cases b with
  | true => exact ⟨rfl, h⟩
  | false => cases h

theorem noCode_inv {ρ : Rho} {L : Look} {s : Nat} {v : Value} (h : VR ρ L s v) (hs : noCode s = true) : ∃ a cap, v = .slice a 0 cap := by
  unfold noCode at hs
  rw [sel_beq, sel_beq] at hs
  split at hs
  · rename_i h14
    subst h14
    obtain ⟨a, rfl⟩ := h.sl0_inv rfl
    exact ⟨_, _, rfl⟩
  · split at hs
    · rename_i h4
      have hs := Nat.eq_of_beq_eq_true hs
      rcases h.slice_inv h4 with ⟨_, rfl⟩ | ⟨b, es, off, m, k, rb, d, sz, cp, a, hb, he, hof, hm, hk, hmc, hcb, hk1, hcp, rfl, rfl⟩
      · exact ⟨_, _, rfl⟩
      · obtain ⟨_, q1, _⟩ := s_parts b es off m k he hof hm hk
        rw [q1] at hs
        subst hs
        exact ⟨_, _, rfl⟩
    · cases hs

theorem isCode_inv {j0 : Nat} {H : Trie} {b : Nat} (h : isCode j0 H b = true) : tget H b = some (.opq j0 1) := by
  unfold isCode at h
  split at h
  · rename_i j ro hg
    rw [sel_beq] at h
    split at h
    · rename_i hj
      have := Nat.eq_of_beq_eq_true h
      subst hj; subst this; exact hg
    · cases h
  · cases h

section
variable {base : Nat} {H : Trie} {n : Nat} {ρ : Rho} {L : Look} {w : World} {code : List Int}

/-- What a word for the code stands for. -/
theorem code_word {j0 : Nat} (hE : DrawE code j0) {s : Nat} {v : Value} (h : VR ρ L s v) (ht : tagOf s = 11) (hok : codeOk j0 s = true) :
    ∃ j lo hi rb d sz c, ρ (oBlk (payOf s)) = some (rb, d, sz) ∧ (j = j0 ∨ j = 1) ∧ oLo (payOf s) = lo ∧ s = wO (oBlk (payOf s)) j lo hi ∧ lo ≤ (code.take 2000).length ∧ v = .slice (some ⟨rb, d, none⟩) (code.take 2000).length c ∧
      (code.take 2000).length ≤ c ∧ c ≤ sz := by
  obtain ⟨b, j, lo, hi, rb, d, sz, c, hb, hj, hlo, hhi, h5, h6, h7, h8, h9, rfl, rfl⟩ := h.opq_inv ht
  obtain ⟨p1, p2, p3, p4⟩ := o_parts b j lo hi hj hlo hhi
  unfold codeOk at hok
  rw [p1, p3] at hok
  rw [p2, p4]
  rw [sel_beq, sel_beq, sel_beq] at hok
  split at hok
  · rename_i h1
    subst h1
    have e : (E.lst 1).length = (code.take 2000).length := by rw [hE.l1, List.length_map]
    rw [e] at h5 h7 ⊢
    exact ⟨1, lo, hi, rb, d, sz, c, hb, .inr rfl, rfl, rfl, h5, rfl, h7, h8⟩
  · split at hok
    · rename_i h0
      have h0 := h0.symm
      subst h0
      split at hok
      · cases hok
      · rename_i hz
        have hle := Nat.le_of_ble_eq_true hok
        have e0 : (E.lst j0).length = code.length := by rw [hE.l0, List.length_map]
        have hcl : code.length ≤ 2000 := by rw [← e0]; omega
        have e : (E.lst j0).length = (code.take 2000).length := by rw [e0, List.take_of_length_le hcl]
        rw [e] at h5 h7 ⊢
        exact ⟨j0, lo, hi, rb, d, sz, c, hb, .inl rfl, rfl, rfl, h5, rfl, h7, h8⟩
    · cases hok

/-- The code's bytes. -/
theorem code_cells {j0 : Nat} (hE : DrawE code j0) (c : Ctx base H n ρ L w) {b rb d sz : Nat} (hb : ρ b = some (rb, d, sz)) (hg : tget H b = some (.opq j0 1)) :
    rb < base ∧ ∀ i, i < code.length → w.cell? ⟨rb, d + i, none⟩ = some (.int .u8 (code.getD i 0)) := by
  have hL := c.agree.2 _ _ hg
  have hgr : grp L b = 0 := by simp [grp, hL]
  refine ⟨c.sim.ro b _ hb hgr, fun i hi => ?_⟩
  obtain ⟨k, hk, hbr⟩ := c.sim.blk b _ hb
  rw [hL] at hk; injection hk with hk; subst hk
  obtain ⟨cs, ty, fz, h1, h2, h3, h4, h5⟩ := hbr (.inl hgr)
  rw [cell_of_heap h1]
  have := h5 i (by rw [hE.l0, List.length_map]; exact hi)
  rw [this, hE.l0, List.getElem?_map, List.getElem?_eq_getElem hi]
  simp [List.getD_eq_getElem?_getD, hi]

theorem take_getD (code : List Int) (i : Nat) (h : i < (code.take 2000).length) : (code.take 2000).getD i 0 = code.getD i 0 := by
  have h2 : i < 2000 := by simp at h; omega
  have h3 : i < code.length := by simp at h; omega
  simp [List.getD_eq_getElem?_getD, h2, h3]
end

theorem calls_at {P : Program} {f : Nat} {vs : Array Value} {w : World} {R : Ending → World → Prop} (h : Calls P f vs w R) (cs : List Frame) :
    ∃ e W, R e W ∧ CallsAt P f vs w cs (fun e' W' => e' = e ∧ W' = W) := by
  obtain ⟨e, W, fr, hR, h2⟩ := h cs
  exact ⟨e, W, hR, e, W, fr, ⟨rfl, rfl⟩, h2⟩

theorem Ctx.drewN {base : Nat} {H : Trie} {n : Nat} {ρ : Rho} {L : Look} {w : World} (c : Ctx base H n ρ L w) (m : Nat) : Ctx base H n ρ L (w.drewN m) := ⟨c.sim.heap rfl, c.agree, c.fresh⟩

theorem drawS_sound {P : Program} {fo fp tS : Nat} {tab : Tab} {code : List Int} {j0 : Nat} (K : DrawK P fo fp tS) (hE : DrawE code j0) (hT : TabOk tab) : SumS P (drawS fo fp tab j0) := by
  intro base H n ρ L w f args vs v H' n' cs c ha h
  unfold drawS at h
  rw [sel_beq, sel_beq] at h
  generalize hvs : vs.toList = l at ha
  split at h
  · rename_i hf
    subst hf
    split at h
    · rename_i r nn
      rcases ha with _ | ⟨_, v1, _, vs1, hr1, ha1⟩
      rcases ha1 with _ | ⟨_, v2, _, vs2, hr2, ha2⟩
      cases ha2
      have hvv : vs = #[v1, v2] := by cases vs; simp_all
      subst hvv
      unfold pickS at h
      obtain ⟨g1, h⟩ := gd_inv h
      obtain ⟨g2, h⟩ := gd_inv h
      obtain ⟨g3, h⟩ := gd_inv h
      obtain ⟨g4, h⟩ := gd_inv h
      have g1 := Nat.eq_of_beq_eq_true g1
      have g2 := Nat.le_of_ble_eq_true g2
      have g3 := Nat.eq_of_beq_eq_true g3
      have g4 := Nat.eq_of_beq_eq_true g4
      rcases hr1.ptr_inv g1 with ⟨h4, _⟩ | ⟨b, off, rb, d, sz, hb, hof, hw, hv⟩
      · rw [h4] at g2; exact absurd g2 (by decide)
      obtain ⟨_, p2, p3⟩ := p_parts b off hof
      rw [hw, p2] at g3
      subst g3
      rw [hw, p3, Nat.pred_succ] at h
      subst hv
      obtain ⟨m, hm, _, hmp, hv2⟩ := hr2.int_inv g4
      rw [hmp] at h
      subst hv2
      unfold pickB at h
      obtain ⟨k1, h⟩ := gd_inv h
      obtain ⟨k3, h⟩ := gd_inv h
      obtain ⟨k4, h⟩ := gd_inv h
      obtain ⟨k5, h⟩ := gd_inv h
      have k1 := Nat.eq_of_beq_eq_true k1
      have k3 := (ltb_iff _ _).1 k3
      have k4 := Nat.le_of_ble_eq_true k4
      have k5 := Nat.le_of_ble_eq_true k5
      obtain ⟨vq, hcq, hq⟩ := rd_sound c hb (o := 1) (by rw [k1]; decide)
      obtain ⟨p, hp, _, hpp, rfl⟩ := hq.int_inv k1
      rw [hpp] at k3 h
      rw [sInt_small (by omega)] at hcq
      rw [sInt_small (by omega)]
      have hstw : storable (wI (p + 1)) = true := by
        rw [storable_iff, tag_wI]; exact ⟨by decide, by decide, by decide, wI_slot (by omega)⟩
      have hp1 : (((p + 1 : Nat)) : Int) = (p : Int) + 1 := by omega
      cases hnc : noCode (rd H b 0) with
      | true =>
        rw [hnc, sel_true] at h
        injection h with h
        have hnb : tagOf (rd H b 0) ≠ 15 := by
          intro hb15
          unfold noCode at hnc
          rw [sel_beq, sel_beq] at hnc
          split at hnc
          · rename_i h14; rw [h14] at hb15; cases hb15
          · rw [hb15] at hnc; cases hnc
        obtain ⟨vc, hcc, hc⟩ := rd_sound c hb (o := 0) hnb
        obtain ⟨a, cap, rfl⟩ := noCode_inv hc hnc
        obtain ⟨H1, L1, hk, hc', he, hbel, hloc, hbase, _, hfro⟩ := wr_sound c hb hstw (VR.small (p + 1) (by omega)) h (by simp)
        injection hk with e1 e2 e3
        subst e1; subst e2; subst e3
        obtain ⟨e, W, ⟨he1, he2⟩, hcall⟩ := calls_at (K.empty w rb d p m cap a k4 k5 k3 (by simpa using hcc) hcq hfro) cs
        subst he1; subst he2
        refine ⟨ρ, L1, _, _, hc', he, hbel, hloc, Nat.le_refl _, VR.small 0 (by omega), K.ip, ?_⟩
        rw [hp1]
        exact hcall
      | false =>
      rw [hnc, sel_false] at h
      obtain ⟨k2, h⟩ := gd_inv h
      obtain ⟨k6, h⟩ := gd_inv h
      obtain ⟨k7, h⟩ := gd_inv h
      obtain ⟨k8, h⟩ := gd_inv h
      have k2 := Nat.eq_of_beq_eq_true k2
      have k6 := Nat.le_of_ble_eq_true k6
      have k8 := isCode_inv k8
      obtain ⟨vc, hcc, hc⟩ := rd_sound c hb (o := 0) (by rw [k2]; decide)
      obtain ⟨j, lo, hi, crb, cd, csz, cap, hcb, hj, hlo, hsw, hll, rfl, hcl, hcs⟩ := code_word hE hc k2 k7
      have hlen1 : 1 ≤ (code.take 2000).length := by omega
      have hlen2 : (code.take 2000).length ≤ 2000 := by simp; omega
      obtain ⟨hro, hbytes⟩ := code_cells hE c hcb k8
      have hbytes' : ∀ i, i < (code.take 2000).length → w.cell? ⟨crb, cd + i, none⟩ = some (.int .u8 ((code.take 2000).getD i 0)) := fun i hi => by
        rw [take_getD code i hi]; exact hbytes i (by simp at hi; omega)
      have hby : ∀ x ∈ code.take 2000, 0 ≤ x ∧ x ≤ 255 := fun x hx => hE.byte x (List.mem_of_mem_take hx)
      injection h with h
      obtain ⟨H1, L1, hk, hc', he, hbel, hloc, hbase, _, hfro⟩ := wr_sound c hb hstw (VR.small (p + 1) (by omega)) h (by simp)
      injection hk with e1 e2 e3
      subst e1; subst e2; subst e3
      have hne : crb ≠ rb := by omega
      have hint := hE.int p m k3 k4 k5
      have hpr := pickv_range hby hlen1 k3 k4 k5
      rw [← hint] at hpr
      have hpw : VR ρ L1 (pickW tab (p * 4096 + m) m) (.int .i64 (E.int (p * 4096 + m))) := by
        unfold pickW
        rcases tabGet_inv (k := rangeW (p * 4096 + m)) (d := rangeW (p * 4096 + m) 0 (Nat.pred m)) (j := p * 4096 + m) tab hT with h0 | ⟨lo', hi', h0, h1⟩
        · rw [h0]
          have : Nat.pred m = m - 1 := rfl
          exact (rangeW_sound0 (by omega) (by rw [this]; omega) (by rw [this]; omega)).1
        · rw [h0]; exact (rangeW_sound h1).1
      by_cases hin : p < (code.take 2000).length
      · obtain ⟨e, W, ⟨he1, he2⟩, hcall⟩ := calls_at (K.inside w rb d crb cd _ cap p m _ k4 k5 k3 hin hlen2 (by simpa using hcc) hcq hne hfro (hbytes' p hin) (getD_byte hby p).1 (getD_byte hby p).2) cs
        subst he1; subst he2
        refine ⟨ρ, L1, _, _, hc', he, hbel, hloc, Nat.le_refl _, hpw, K.ip, ?_⟩
        have : E.int (p * 4096 + m) = (code.take 2000).getD p 0 % m := by rw [hint]; unfold pickv; rw [if_pos hin]
        rw [this, hp1]
        exact hcall
      · have hml : p % (code.take 2000).length < (code.take 2000).length := Nat.mod_lt _ (by omega)
        have hml2 : (p * 7 + 3) % (code.take 2000).length < (code.take 2000).length := Nat.mod_lt _ (by omega)
        obtain ⟨e, W, ⟨he1, q, he2⟩, hcall⟩ := calls_at (K.outside w rb d crb cd _ cap p m _ _ k4 k5 k3 (by omega) hlen2 hlen1 (by simpa using hcc) hcq hne hfro (hbytes' _ hml) (getD_byte hby _).1 (getD_byte hby _).2
          (hbytes' _ hml2) (getD_byte hby _).1 (getD_byte hby _).2) cs
        subst he1; subst he2
        refine ⟨ρ, L1, (w.setCell ⟨rb, d + 1, none⟩ (.int .i64 (p + 1))).drewN q, _, ?_, he, ?_, hloc, Nat.le_refl _, hpw, K.ip, ?_⟩
        · rw [← hp1]; exact hc'.drewN q
        · rw [← hp1]; exact hbel.trans ⟨rfl, rfl, rfl, Nat.le_refl _, fun _ _ => rfl⟩
        · have : E.int (p * 4096 + m) = mixv ((code.take 2000).getD (p % (code.take 2000).length) 0) ((code.take 2000).getD ((p * 7 + 3) % (code.take 2000).length) 0) p (code.take 2000).length m := by
            rw [hint]; unfold pickv; rw [if_neg hin]
          rw [this]
          exact hcall
    · cases h
  · rename_i hnf
    split at h
    · rename_i hf
      subst hf
      split at h
      · rename_i cw
        rcases ha with _ | ⟨_, v1, _, vs1, hr1, ha1⟩
        cases ha1
        have hvv : vs = #[v1] := by cases vs; simp_all
        subst hvv
        -- the new block, whatever the word is
        have mk : ∀ (cw : Nat) (a0 a : Option Addr) (len0 len cap : Nat), VR ρ L cw (.slice a len cap) → storable cw = true → openB cw H n = .yes (.ok v H' n') →
            Calls P f #[.slice a0 len0 cap] w (fun e w' => e = .returned (.pointer (some ⟨w.heap.size, 0, none⟩)) ∧ w' = w.alloc (.cells #[.slice a len cap, .int .i64 0] tS)) →
            After base H n ρ L w v H' n' (fun x w' => Known P f ∧ CallsAt P f #[.slice a0 len0 cap] w cs (fun e W => e = .returned x ∧ W = w')) := by
          intro cw a0 a len0 len cap hvr hst ho hcalls
          unfold openB at ho
          obtain ⟨_, ho⟩ := gd_inv ho
          injection ho with ho
          obtain ⟨hn, hk, hmk⟩ := fresh_sound c ho (by simp)
          injection hk with e1 e2 e3
          subst e1; subst e2; subst e3
          obtain ⟨e, W, ⟨he1, he2⟩, hcall⟩ := calls_at hcalls cs
          subst he1; subst he2
          have hsl : allSlot [cw, wI 0] = true := allSlot_of _ (by
            intro x hx
            rcases List.mem_cons.1 hx with rfl | hx
            · exact ((storable_iff _).1 hst).2.2.2
            · rcases List.mem_cons.1 hx with rfl | hx
              · exact wI_slot (by omega)
              · cases hx)
          obtain ⟨c', e, hbl, hl⟩ := hmk (w.alloc (.cells #[.slice a len cap, .int .i64 0] tS)) #[.slice a len cap, .int .i64 0] tS rfl rfl rfl rfl (by simp) (by
            intro i hi
            rw [getW_listW _ hsl]
            match i, hi with
            | 0, _ => exact ⟨_, rfl, hvr, hst⟩
            | 1, _ => exact ⟨_, rfl, VR.small 0 (by omega), by show storable (wI 0) = true; rw [storable_iff, tag_wI]; exact ⟨by decide, by decide, by decide, wI_slot (by omega)⟩⟩)
          exact ⟨_, _, _, _, c', e, hbl, hl, Nat.le_succ _, vr_ptr_new (updR_same _ _ _), K.io, hcall⟩
        unfold openS at h
        cases hnc : noCode cw with
        | true =>
          rw [hnc, sel_true] at h
          obtain ⟨a, cap, rfl⟩ := noCode_inv hr1 hnc
          have hst : storable cw = true := by
            have h' := h
            unfold openB at h'
            exact (gd_inv h').1
          exact mk cw a a 0 0 cap hr1 hst h (K.short w a 0 cap (by omega))
        | false =>
        rw [hnc, sel_false] at h
        obtain ⟨g1, h⟩ := gd_inv h
        obtain ⟨g2, h⟩ := gd_inv h
        obtain ⟨g3, h⟩ := gd_inv h
        have g1 := Nat.eq_of_beq_eq_true g1
        have g2 := Nat.eq_of_beq_eq_true g2
        obtain ⟨b, j, lo, hi, rb, d, sz, cap, hb, hj, hlo, hhi, h5, h6, h7, h8, h9, rfl, rfl⟩ := hr1.opq_inv g1
        obtain ⟨p1, p2, p3, p4⟩ := o_parts b j lo hi hj hlo hhi
        rw [p3] at g2
        have g2 := g2.symm
        subst g2
        rw [p2, p4] at h
        have e0 : (E.lst j0).length = code.length := by rw [hE.l0, List.length_map]
        have g3 := isCode_inv g3
        have hb16 := c.agree.lt g3
        have sto : ∀ j lo hi : Nat, j < 1048576 → lo < 4194304 → hi < 4194304 → storable (wO b j lo hi) = true := fun j lo hi q1 q2 q3 => by
          rw [storable_iff, tag_wO]
          refine ⟨by decide, by decide, by decide, ?_⟩
          show 16 * (4194304 * (4194304 * (1048576 * b + j) + lo) + hi) + 11 < _
          omega
        have e1 : (E.lst 1).length = (code.take 2000).length := by rw [hE.l1, List.length_map]
        obtain ⟨g4, h⟩ := gd_inv h
        have g4 := Nat.le_of_ble_eq_true g4
        by_cases hlong : 2000 < (E.lst j0).length
        · have hl2 : (E.lst 1).length = 2000 := by rw [e1]; simp; omega
          have hv1 := VR.opq (ρ := ρ) (L := L) b 1 1 2000 rb d sz cap hb (by omega) (by omega) (by omega) (by omega) (.inr (by omega)) (by omega) h8 h9
          rw [hl2] at hv1
          exact mk _ _ _ _ 2000 cap hv1 (sto _ _ _ (by omega) (by omega) (by omega)) h (K.long w rb d (E.lst j0).length cap (by omega) h7)
        · have hl2 : (E.lst 1).length = (E.lst j0).length := by rw [e1]; simp; omega
          have hv1 := VR.opq (ρ := ρ) (L := L) b 1 1 2000 rb d sz cap hb (by omega) (by omega) (by omega) (by omega) (.inr (by omega)) (by omega) h8 h9
          rw [hl2] at hv1
          exact mk _ _ _ _ _ cap hv1 (sto _ _ _ (by omega) (by omega) (by omega)) h (K.short w _ (E.lst j0).length cap (by omega))
      · cases h
    · cases h
end Go.Eng
