/- Arguments: rows that were there. -/
import Derived.Test.YthcdiaahpodkoabEngS
namespace Go.Eng
set_option linter.unusedSectionVars false
set_option linter.unusedSimpArgs false
set_option linter.unusedVariables false
open Go Go.RowKit
variable [E : Env]

theorem Ctx.argB {base n rb d sz : Nat} {k : Blk} {H : Trie} {ρ : Rho} {L : Look} {w : World} (c : Ctx base H n ρ L w) (hn : n < 16384) {cs : Array Value} {ty : TypeId} {fz : Nat × Nat}
    (hh : w.heap[rb]? = some (.cells cs ty fz)) (hrb : rb < base) (hk0 : grp (upd L n k) n = 0) (hkc : ∀ a b g x y z, k = .cells a b g x y z → g = 0)
    (hbr : BR ρ L w (rb, d, sz) k) :
    Ctx base (hset H n k) (n + 1) (updR ρ n (rb, d, sz)) (upd L n k) w := by
  have hf := c.fresh
  have hs := c.sim
  have e : Ext ρ L (updR ρ n (rb, d, sz)) (upd L n k) := .fresh hf _ _
  have old : ∀ b r, updR ρ n (rb, d, sz) b = some r → b ≠ n → ρ b = some r := fun b r h hne => by rw [updR_ne _ _ hne] at h; exact h
  have gold : ∀ b, b ≠ n → grp (upd L n k) b = grp L b := fun b hb => grp_upd_ne hb
  have gn : grp (upd L n k) n = 0 := hk0
  have ldne : ∀ b r, ρ b = some r → grp L b = 0 ∨ grp L b - 1 ≠ n := fun b r h => by
    by_cases h0 : grp L b = 0
    · exact .inl h0
    · obtain ⟨⟨q, hq⟩, _⟩ := hs.ld b r h h0
      have := hf.lt hq
      exact .inr (by omega)
  have lold : ∀ b r, ρ b = some r → b ≠ n → (live (upd L n k) b ↔ live L b) := fun b r h hne => live_upd_ne hne (ldne b r h)
  have gne : ∀ b, grp (upd L n k) b ≠ 0 → b ≠ n := fun b h hb => h (by rw [hb]; exact gn)
  refine ⟨⟨?_, ?_, ?_, ?_, ?_, ?_, ?_, hs.bs, ?_, ?_⟩, c.agree.hset hn _, hf.upd _ _⟩
  · intro b r h
    by_cases hne : b = n
    · subst hne
      rw [updR_same] at h; injection h with h; subst h
      exact ⟨_, upd_same _ _ _, fun _ => hbr.mono e rfl⟩
    · have h' := old b r h hne
      obtain ⟨kk, k1, k2⟩ := hs.blk b r h'
      exact ⟨kk, by rw [upd_ne _ _ hne]; exact k1, fun hl => (k2 ((lold b r h' hne).1 hl)).mono e rfl⟩
  · intro b b' r r' h h' hl hl' hg hg' hgg
    have hne := gne b hg
    have hne' := gne b' hg'
    rw [gold b hne] at hg hgg
    rw [gold b' hne'] at hg' hgg
    exact hs.sep b b' r r' (old b r h hne) (old b' r' h' hne') ((lold b r (old b r h hne) hne).1 hl) ((lold b' r' (old b' r' h' hne') hne').1 hl') hg hg' hgg
  · intro b b' r r' h h' hl hl' hg hgg hrr
    have hne := gne b hg
    have hne' := gne b' (by rw [← hgg]; exact hg)
    rw [gold b hne] at hg hgg
    rw [gold b' hne'] at hgg
    exact hs.same b b' r r' (old b r h hne) (old b' r' h' hne') ((lold b r (old b r h hne) hne).1 hl) ((lold b' r' (old b' r' h' hne') hne').1 hl') hg hgg hrr
  · intro b r m' c' g kk s mm h hl hL hg
    have hne : b ≠ n := by
      rintro rfl
      rw [upd_same] at hL; injection hL with hL; exact hg (hkc _ _ _ _ _ _ hL)
    rw [upd_ne _ _ hne] at hL
    have hg0 : grp L b = g := grp_of hL
    have h' := old b r h hne
    have hi : info (upd L n k) (g - 1) = info L (g - 1) := info_upd_ne (by have := (ldne b r h').resolve_left (by rw [hg0]; exact hg); rw [hg0] at this; exact this)
    rw [hi]
    exact hs.mx b r m' c' g kk s mm h' ((lold b r h' hne).1 hl) hL hg
  · intro b r h hg
    have hne := gne b hg
    rw [gold b hne] at hg; exact hs.rw b r (old b r h hne) hg
  · intro b r h hg
    by_cases hne : b = n
    · subst hne
      rw [updR_same] at h; injection h with h; subst h; exact hrb
    · rw [gold b hne] at hg; exact hs.ro b r (old b r h hne) hg
  · intro b r h
    by_cases hne : b = n
    · subst hne
      rw [updR_same] at h; injection h with h; subst h
      exact Nat.lt_of_lt_of_le hrb hs.bs
    · exact hs.bnd b r (old b r h hne)
  · intro b r h hg
    have hne := gne b hg
    rw [gold b hne] at hg ⊢
    obtain ⟨⟨q, hq⟩, h2⟩ := hs.ld b r (old b r h hne) hg
    have hqn : grp L b - 1 ≠ n := by have := hf.lt hq; omega
    exact ⟨⟨q, by rw [updR_ne _ _ hqn]; exact hq⟩, by rw [gold _ hqn]; exact h2⟩
  · intro b m' c' g kk s mm hL hg
    by_cases hne : b = n
    · subst hne; rw [upd_same] at hL; injection hL with hL; exact absurd (hkc _ _ _ _ _ _ hL) hg
    · rw [upd_ne _ _ hne] at hL
      obtain ⟨a1, a2, a3, a4, a5, a6⟩ := hs.kind b m' c' g kk s mm hL hg
      exact ⟨a1, a2, a3, a4, a5, by rw [upd_ne _ _ (by have := hf.ltL a6; omega)]; exact a6⟩

theorem Ctx.arg {base n rb d sz nb ch : Nat} {H : Trie} {ρ : Rho} {L : Look} {w : World} (c : Ctx base H n ρ L w) (hn : n < 16384) {cs : Array Value} {ty : TypeId} {fz : Nat × Nat}
    (hh : w.heap[rb]? = some (.cells cs ty fz)) (hrb : rb < base) (h1 : d + sz ≤ cs.size) (h2 : nb ≤ sz)
    (h3 : ∀ i, i < nb → ∃ v, cs[d + i]? = some v ∧ VR ρ L (getW ch i) v ∧ storable (getW ch i) = true) :
    Ctx base (hset H n (.cells nb ch 0 0 0 0)) (n + 1) (updR ρ n (rb, d, sz)) (upd L n (.cells nb ch 0 0 0 0)) w :=
  c.argB hn hh hrb (grp_of (upd_same _ _ _)) (fun _ _ _ _ _ _ h => by injection h with _ _ h; exact h.symm) ⟨cs, ty, fz, hh, h1, h2, fun h0 => absurd rfl h0, h3⟩

/-- A slice that came in whose elements are not known. -/
theorem Ctx.opq {base n rb d sz j : Nat} {H : Trie} {ρ : Rho} {L : Look} {w : World} (c : Ctx base H n ρ L w) (hn : n < 16384) {cs : Array Value} {ty : TypeId} {fz : Nat × Nat}
    (hh : w.heap[rb]? = some (.cells cs ty fz)) (hrb : rb < base) (h1 : d + sz ≤ cs.size) (h2 : (E.lst j).length ≤ sz) (h3 : ∀ i, i < (E.lst j).length → cs[d + i]? = (E.lst j)[i]?) :
    Ctx base (hset H n (.opq j 1)) (n + 1) (updR ρ n (rb, d, sz)) (upd L n (.opq j 1)) w :=
  c.argB hn hh hrb (by simp [grp, upd_same]) (fun _ _ _ _ _ _ h => by cases h) ⟨cs, ty, fz, hh, h1, h2, fun h0 => absurd h0 (by decide), h3⟩

/-- A row of ints as the shells of the laws tell it. -/
def RowAt (w : World) (x : Addr) (cap : Nat) (zs : List Int) : Prop := zs.length = cap ∧ ∀ i, i < zs.length → w.cell? (x.add i) = some (.int .i64 (zs.getD i 0))

theorem RowAt.block {w : World} {x : Addr} {cap : Nat} {zs : List Int} (h : RowAt w x cap zs) (hc : 0 < cap) :
    x.spot = none ∧ ∃ cs ty fz, w.heap[x.block]? = some (.cells cs ty fz) ∧ x.off + cap ≤ cs.size ∧ ∀ i, i < cap → cs[x.off + i]? = some (.int .i64 (zs.getD i 0)) := by
  obtain ⟨hl, hcell⟩ := h
  have h0 := hcell 0 (by omega)
  have e0 : x.add 0 = x := by simp [Addr.add]
  rw [e0] at h0
  unfold World.cell? at h0
  split at h0
  · rename_i cs ty fz hh
    split at h0
    · cases h0
    · rename_i hsp
      have hsp' : x.spot = none := by
        cases hx : x.spot with
        | none => rfl
        | some s => rw [hx] at hsp; exact absurd rfl hsp
      have hall : ∀ i, i < cap → cs[x.off + i]? = some (.int .i64 (zs.getD i 0)) := by
        intro i hi
        have h1 := hcell i (by omega)
        have e1 : x.add i = ⟨x.block, x.off + i, none⟩ := by
          cases i with
          | zero =>
            rw [e0]
            cases x with
            | mk b o s => simp at hsp' ⊢; exact hsp'
          | succ i => simp [Addr.add]
        rw [e1, cell_of_heap hh] at h1
        exact h1
      refine ⟨hsp', cs, ty, fz, hh, ?_, hall⟩
      have := hall (cap - 1) (by omega)
      have := (Array.getElem?_eq_some_iff.1 this).1
      omega
  · cases h0

theorem wI_slot {p : Nat} (h : p < 18446744073709551616) : wI p < 2 ^ 128 := by
  show 16 * p + 1 < _; omega
theorem allSlot_of : ∀ (l : List Nat), (∀ x ∈ l, x < 2 ^ 128) → allSlot l = true
  | [], _ => rfl
  | x :: l, h => by
    have e : allSlot (x :: l) = sel (ltb x 340282366920938463463374607431768211456) (allSlot l) false := rfl
    rw [e, sel_ltb, if_pos (h x List.mem_cons_self)]
    exact allSlot_of l fun y hy => h y (List.mem_cons_of_mem _ hy)

/-- What a slice of ints that came in stands for: the words of its elements. -/
def wordsOf (zs : List Int) : List Nat := zs.map fun z => wI (uInt z)

theorem Ctx.row {base n len cap : Nat} {H : Trie} {ρ : Rho} {L : Look} {w : World} {x : Addr} {zs : List Int} (c : Ctx base H n ρ L w) (hb : base = w.heap.size) (hn : n < 16384)
    (h : RowAt w x cap zs) (hcap : 0 < cap) (hwf : ∀ z ∈ zs, -9223372036854775808 ≤ z ∧ z < 9223372036854775808) (hle : len ≤ cap) (hc : cap < 9223372036854775808) (hlen : len < 1048576) :
    ∃ ρ' L', Ctx base (hset H n (.cells len (listW (wordsOf (zs.take len))) 0 0 0 0)) (n + 1) ρ' L' w ∧ Ext ρ L ρ' L' ∧ VR ρ' L' (wS n 1 0 len 0) (.slice (some x) len cap) := by
  obtain ⟨hsp, cs, ty, fz, hh, h1, h2⟩ := h.block hcap
  have hrb : x.block < base := by rw [hb]; exact (Array.getElem?_eq_some_iff.1 hh).1
  have hlz : len ≤ zs.length := by rw [h.1]; exact hle
  have hsl : allSlot (wordsOf (zs.take len)) = true := allSlot_of _ fun y hy => by
    unfold wordsOf at hy
    obtain ⟨z, _, rfl⟩ := List.mem_map.1 hy
    exact wI_slot (uInt_lt z)
  refine ⟨_, _, c.arg (nb := len) (ch := listW (wordsOf (zs.take len))) hn hh hrb h1 hle ?_, .fresh c.fresh _ _, ?_⟩
  · intro i hi
    refine ⟨_, h2 i (by omega), ?_⟩
    have e : getW (listW (wordsOf (zs.take len))) i = wI (uInt (zs.getD i 0)) := by
      rw [getW_listW _ hsl]
      have hil : i < zs.length := by omega
      simp [wordsOf, List.getD_eq_getElem?_getD, hi, hil]
    rw [e]
    have hm : zs.getD i 0 ∈ zs := by
      have hil : i < zs.length := by omega
      simp [List.getD_eq_getElem?_getD, hil]
    obtain ⟨a1, a2⟩ := hwf _ hm
    refine ⟨?_, ?_⟩
    · have := VR.int (ρ := ρ) (L := L) (uInt (zs.getD i 0)) (uInt_lt _)
      rw [sInt_uInt _ a1 a2] at this
      exact this
    · rw [storable_iff, tag_wI]
      exact ⟨by decide, by decide, by decide, wI_slot (uInt_lt _)⟩
  · have hx : x = ⟨x.block, x.off + 0, none⟩ := by
      cases x with
      | mk b o s => simp at hsp ⊢; exact hsp
    exact .slice n 1 0 len 0 x.block x.off cap cap x (updR_same _ _ _) (by omega) (by omega) hlen (by omega) hle hc (.inl rfl) (.inr ⟨hx, by omega⟩)
end Go.Eng
