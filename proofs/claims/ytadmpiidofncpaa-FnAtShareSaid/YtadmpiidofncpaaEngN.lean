/- Part of the evaluator: Ma Mb N. -/
import Derived.Test.YtadmpiidofncpaaEngM

/- What an operation makes that makes a row and does nothing else. -/
namespace Go.Eng
set_option linter.unusedSectionVars false
set_option linter.unusedSimpArgs false
set_option linter.unusedVariables false
open Go Go.RowKit
variable [E : Env]

section
variable {base n : Nat} {w : World} {H H' : Trie} {i n' nt T v : Nat} {ρ : Rho} {L : Look} {P : Program} {tmps : Array Value} {o : Oper} {call : Nat → List Nat → Trie → Nat → OR}

theorem fresh_info {len ch : Nat} {k : Trie → OR} {r : OR} (h : fresh H i len ch k = r) (hr : ∀ q, r ≠ .bad q) : i < 16384 ∧ k (hset H i (.cells len ch (i + 1) i i len)) = r := by
  unfold fresh at h
  rw [sel_ltb] at h
  split at h
  · exact ⟨by assumption, h⟩
  · exact absurd h.symm (hr _)

/-- What is made, and what the machine does. -/
def Makes (P : Program) (tmps : Array Value) (o : Oper) (ρ : Rho) (L : Look) (H : Trie) (i v : Nat) (H' : Trie) (n' : Nat) : Prop :=
  ∃ (len ch : Nat) (cs : Array Value) (ty : TypeId) (X : Nat → Value), H' = hset H i (.cells len ch (i + 1) i i len) ∧ n' = i + 1 ∧ i < 16384 ∧ len ≤ cs.size ∧
    (∀ j, j < len → ∃ u, cs[j]? = some u ∧ VR ρ L (getW ch j) u ∧ storable (getW ch j) = true) ∧
    (∀ w : World, (execOp (evT tmps) o).run P w = .ok (.value (X w.heap.size)) { w with heap := w.heap.push (.cells cs ty) }) ∧
    (∀ (ρ' : Rho) (L' : Look) (rb : Nat), ρ' i = some (rb, 0, cs.size) → VR ρ' L' v (X rb))

theorem Makes.of {S : Sem Value} (h : MakesA P S ρ L H i v H' n') (hS : ∀ w x w', S.run P w = .ok x w' → (execOp (evT tmps) o).run P w = .ok (.value x) w') : Makes P tmps o ρ L H i v H' n' := by
  obtain ⟨len, ch, cs, ty, X, h1, h2, h3, h4, h5, h6, h7⟩ := h.ex
  exact ⟨len, ch, cs, ty, X, h1, h2, h3, h4, h5, fun w => hS _ _ _ (h6 w), h7⟩
theorem makes_box (c : Ctx base H n ρ L w) (ht : TR ρ L nt T tmps) {x : Operand} {t : TypeId} (ho : o.op = .box t x) (h : opE P call T H i o.op = .ok v H' n') : Makes P tmps o ρ L H i v H' n' := by
  rw [ho] at h
  simp only [opE_eq, opX] at h
  rw [sel_eq] at h
  split at h
  · rename_i hs
    obtain ⟨hn, hk⟩ := fresh_info h (by simp)
    injection hk with h1 h2 h3
    subst h1; subst h2; subst h3
    have hx := ev_sound ht x ((storable_iff _).1 hs).2.2.1
    obtain ⟨hc1, hc2⟩ := hx.cell hs
    exact ⟨1, _, #[evT tmps x], t, fun rb => .pointer (some ⟨rb, 0, none⟩), rfl, rfl, hn, by simp, one_cell_row hx hs, fun w => by simp [execOp, ho, Instr.box, run_newVar hc1], fun ρ' L' rb hb => vr_ptr_new hb⟩
  · by_cases hnb : tagOf (ev T x) = 6
    · refine Makes.of (makes_boxA (P := P) (t := t) c (ev_sound ht x (by omega)) h) fun w y w' hy => ?_
      simp [execOp, ho, hy]
    · unfold boxA at h
      rw [sel_beq, if_neg hnb] at h
      cases h

theorem makes_alloc (ht : TR ρ L nt T tmps) {t : TypeId} (ho : o.op = .alloc t) (h : opE P call T H i o.op = .ok v H' n') : Makes P tmps o ρ L H i v H' n' := by
  rw [ho] at h
  simp only [opE_eq, opX] at h
  rw [sel_eq, sel_eq] at h
  split at h
  · rename_i hp
    split at h
    · rename_i hs
      obtain ⟨hn, hk⟩ := fresh_info h (by simp)
      injection hk with h1 h2 h3
      subst h1; subst h2; subst h3
      obtain ⟨j, z, hi, hz, hx⟩ := tzero_sound ρ L hs
      obtain ⟨hc1, hc2⟩ := hx.cell hs
      refine ⟨1, _, #[z], t, fun rb => .pointer (some ⟨rb, 0, none⟩), rfl, rfl, hn, by simp, one_cell_row hx hs, fun w => ?_, fun ρ' L' rb hb => vr_ptr_new hb⟩
      have hzv : (zeroValue t).run P w = .ok z w := by simp [zeroValue, typeInfo, hi, hz]
      simp [execOp, ho, Instr.alloc, hzv, run_newVar hc1]
    · cases h
  · refine Makes.of (makes_allocA (ρ := ρ) (L := L) h) fun w y w' hy => ?_
    simp [execOp, ho, hy]

theorem makes_makeSlice (ht : TR ρ L nt T tmps) {t : TypeId} {l q : Operand} (ho : o.op = .makeSlice t l q) (h : opE P call T H i o.op = .ok v H' n') : Makes P tmps o ρ L H i v H' n' := by
  rw [ho] at h
  simp only [opE_eq, opX] at h
  obtain ⟨e, hu, _, h⟩ := telem_inv h rfl (by simp)
  rw [sel_eq] at h
  split at h
  · rename_i hp
    rw [sel_eq] at h
    split at h
    · rename_i hby
      obtain ⟨hl1, h⟩ := isI_inv h (by simp)
      obtain ⟨hq1, h⟩ := isI_inv h (by simp)
      rw [sel_ble] at h
      split at h
      · rename_i hle
        rw [sel_ltb] at h
        split at h
        · rename_i hsm
          rw [sel_eq] at h
          split at h
          · rename_i hz
            obtain ⟨a, ha, _, hpa, hva⟩ := (ev_sound ht l (by omega)).int_inv hl1
            obtain ⟨b, hb, _, hpb, hvb⟩ := (ev_sound ht q (by omega)).int_inv hq1
            rw [hpa, hpb] at hle
            rw [hpb] at hsm
            obtain ⟨hn, hk⟩ := fresh_info h (by simp)
            injection hk with h1 h2 h3
            subst h1; subst h2; subst h3
            obtain ⟨i0, z, hi, hiz, hzx⟩ := tzero_sound ρ L hz
            obtain ⟨hc1, _⟩ := hzx.cell hz
            obtain ⟨i', hi', hb0, hb1⟩ := tbytes_inv hby
            rw [hi] at hi'; injection hi' with hi'; subst hi'
            have hsz1 : i0.size = 1 := by
              obtain ⟨j, _, hj, hs, _⟩ := plain_inv hp
              rw [hi] at hj; injection hj with hj; subst hj; exact hs
            have hsm' : b + 1 < 1048576 := hsm
            have hrow : madeCells z.cells ((b : Int).toNat * i0.size) = Array.replicate b z := by
              rw [hc1, hsz1]; simp only [madeCells]; rw [show (b : Int).toNat * 1 = b from by omega]; exact range_map_one z b
            rw [hpa, hpb]
            refine ⟨b, _, Array.replicate b z, e, fun rb => .slice (some ⟨rb, 0, none⟩) a b, rfl, rfl, hn, by simp, repRow _ z hzx hz b, fun w => ?_, fun ρ' L' rb hbb => ?_⟩
            · have hrun := run_make (P := P) w t e i0 z hu hi hiz .i64 .i64 (a : Int) (b : Int) (by omega) (by omega) (by
                have : (i0.bytes : Int) * (b : Int) ≤ 1024 * 1048576 := Int.mul_le_mul (by omega) (by omega) (by omega) (by omega)
                omega) (by omega)
              rw [hrow] at hrun
              have ea : sInt a = (a : Int) := sInt_small (by omega)
              have eb : sInt b = (b : Int) := sInt_small (by omega)
              simp only [execOp, ho, hva, hvb, ea, eb, Sem.run_bind, hrun, Result.andThen_ok, Sem.run_pure, Int.toNat_natCast]
              rfl
            · exact vr_slice_new hbb (by omega) (by omega) hsm' hle (by omega) (.inr rfl) (by simp)
          · cases h
        · cases h
      · cases h
    · cases h
  · cases h

theorem makes_buildSlice (c : Ctx base H n ρ L w) (ht : TR ρ L nt T tmps) {t : TypeId} {len : Nat} {ps : Array (Nat × Operand)} (ho : o.op = .buildSlice t len ps) (h : opE P call T H i o.op = .ok v H' n') : Makes P tmps o ρ L H i v H' n' := by
  rw [ho] at h
  simp only [opE_eq, opX] at h
  obtain ⟨e, hu, _, h⟩ := telem_inv h rfl (by simp)
  rw [sel_eq] at h
  split at h
  · rename_i hp
    rw [sel_ltb] at h
    split at h
    · rename_i hsm
      have hsm' : len + 1 < 1048576 := hsm
      rw [sel_eq] at h
      split at h
      · rename_i hst
        split at h
        · rename_i ch hfill
          obtain ⟨hn, hk⟩ := fresh_info h (by simp)
          injection hk with h1 h2 h3
          subst h1; subst h2; subst h3
          obtain ⟨i0, d, hi, hsz, _⟩ := plain_inv hp
          -- the cells to begin with
          obtain ⟨z0, hz0, hz1, hz2⟩ : ∃ z0 : Array Value, (∀ w : World, (if len * i0.size = 0 then pure #[] else do pure (← zeroValue e).cells : Sem (Array Value)).run P w = .ok z0 w) ∧
              ((Array.range (len * i0.size)).map (z0[· % z0.size]!)).size = len ∧
              ∀ j, j < len → ∃ u, ((Array.range (len * i0.size)).map (z0[· % z0.size]!))[j]? = some u ∧ VR ρ L (getW (repW (sel (Nat.beq len 0) 1 (tzero P e)) len) j) u ∧
                storable (getW (repW (sel (Nat.beq len 0) 1 (tzero P e)) len) j) = true := by
            by_cases hl : len = 0
            · subst hl
              exact ⟨#[], fun w => by simp, by simp, fun j hj => absurd hj (by omega)⟩
            · rw [sel_beq, if_neg hl] at hst ⊢
              obtain ⟨i', z, hi', hiz, hzx⟩ := tzero_sound ρ L hst
              rw [hi] at hi'; injection hi' with hi'; subst hi'
              obtain ⟨hc1, _⟩ := hzx.cell hst
              have hzv : ∀ w : World, (zeroValue e).run P w = .ok z w := fun w => by simp [zeroValue, typeInfo, hi, hiz]
              refine ⟨z.cells, fun w => by simp [hsz, hl, hzv], by simp [hsz], fun j hj => ?_⟩
              have := repRow (ρ := ρ) (L := L) (tzero P e) z hzx hst len j hj
              rw [hc1, hsz, Nat.mul_one, range_map_one]
              exact this
          obtain ⟨cells', f1, f2, f3⟩ := fill_sound ht len ps.toList _ ch _ hz1 hz2 hfill
          refine ⟨len, ch, cells', e, fun rb => .slice (some ⟨rb, 0, none⟩) len len, rfl, rfl, hn, by omega, f3, fun w => ?_, fun ρ' L' rb hb => ?_⟩
          · have hno : ¬ (16777216 < len * i0.size) := by rw [hsz]; omega
            have hfn : (fun j => some (j * i0.size, i0.size)) = (fun j : Nat => some (j * 1, 1)) := by rw [hsz]
            have hrun : (Instr.buildSlice t len (ps.map fun p => (p.1, evT tmps p.2))).run P w = .ok (.slice (some ⟨w.heap.size, 0, none⟩) len len) { w with heap := w.heap.push (.cells cells' e) } := by
              simp only [Nat.mul_one] at f1
              by_cases hl : len = 0
              · subst hl
                have r0 : ∀ f : Nat → Value, (Array.range 0).map f = #[] := fun f => Array.eq_empty_of_size_eq_zero (by simp)
                simp only [Nat.zero_mul, r0] at f1
                simp [Instr.buildSlice, run_underlying hu, run_sizeOf hi, hsz, f1, r0, newRow]
              · have hz0 := hz0 w
                simp [hsz, hl] at hz0
                obtain ⟨i', z, hi', hiz, hzx⟩ := tzero_sound ρ L (by rw [sel_beq, if_neg hl] at hst; exact hst)
                rw [hi] at hi'; injection hi' with hi'; subst hi'
                have hzv : (zeroValue e).run P w = .ok z w := by simp [zeroValue, typeInfo, hi, hiz]
                rw [hzv] at hz0
                simp at hz0
                subst hz0
                rw [hsz] at f1
                simp [Instr.buildSlice, run_underlying hu, run_sizeOf hi, hsz, hl, hzv, newRow, show ¬ (16777216 < len) from by omega]
                simp at f1
                rw [f1]
                simp
            simp only [execOp, ho]
            simp only [Sem.run_bind, hrun, Result.andThen_ok, Sem.run_pure]
          · exact vr_slice_new hb (by omega) (by omega) hsm' (Nat.le_refl _) (by omega) (.inr rfl) (by omega)
        · cases h
      · cases h
    · cases h
  · refine Makes.of (makes_buildSliceA c ht hu h) fun w y w' hy => ?_
    simp only [execOp, ho, Sem.run_bind]
    rw [hy]; rfl

theorem makes (c : Ctx base H n ρ L w) (ht : TR ρ L nt T tmps) (ha : allocOp o.op = true) (h : opE P call T H i o.op = .ok v H' n') : Makes P tmps o ρ L H i v H' n' := by
  cases hop : o.op with
  | alloc t => exact makes_alloc ht hop h
  | box t x => exact makes_box c ht hop h
  | buildSlice t len ps => exact makes_buildSlice c ht hop h
  | makeSlice t l q => exact makes_makeSlice ht hop h
  | _ => rw [hop] at ha; cases ha
end
end Go.Eng

/- Blocks that the evaluator has made and the machine has not, and their making. -/
namespace Go.Eng
set_option linter.unusedSectionVars false
set_option linter.unusedSimpArgs false
set_option linter.unusedVariables false
open Go Go.RowKit
variable [E : Env]

section
variable {base n len ch : Nat} {H : Trie} {ρ : Rho} {L : Look} {w w' : World}

/-- A block without a place. -/
theorem Ctx.bare (c : Ctx base H n ρ L w) (hn : n < 16384) (len ch : Nat) :
    Ctx base (hset H n (.cells len ch (n + 1) n n len)) (n + 1) ρ (upd L n (.cells len ch (n + 1) n n len)) w := by
  have hs := c.sim
  have hf := c.fresh
  have e : Ext ρ L ρ (upd L n (.cells len ch (n + 1) n n len)) := .freshL hf _
  have ne : ∀ b r, ρ b = some r → b ≠ n := fun b r h => by have := hf.lt h; omega
  have gold : ∀ b r, ρ b = some r → grp (upd L n (.cells len ch (n + 1) n n len)) b = grp L b := fun b r h => grp_upd_ne (ne b r h)
  have ldne : ∀ b r, ρ b = some r → grp L b = 0 ∨ grp L b - 1 ≠ n := fun b r h => by
    by_cases h0 : grp L b = 0
    · exact .inl h0
    · obtain ⟨⟨q, hq⟩, _⟩ := hs.ld b r h h0
      have := hf.lt hq
      exact .inr (by omega)
  have lold : ∀ b r, ρ b = some r → (live (upd L n (.cells len ch (n + 1) n n len)) b ↔ live L b) := fun b r h => live_upd_ne (ne b r h) (ldne b r h)
  refine ⟨⟨?_, ?_, ?_, ?_, ?_, ?_, hs.bnd, hs.bs, ?_, ?_, ?_, ?_, hs.kp⟩, c.agree.hset hn _, hf.updL _⟩
  · intro b r h
    obtain ⟨kk, h1, h2⟩ := hs.blk b r h
    exact ⟨kk, by rw [upd_ne _ _ (ne b r h)]; exact h1, fun hl => (h2 ((lold b r h).1 hl)).mono e rfl⟩
  · intro b b' r r' h h' hl hl' hg hg' hgg
    rw [gold b r h] at hg hgg
    rw [gold b' r' h'] at hg' hgg
    exact hs.sep b b' r r' h h' ((lold b r h).1 hl) ((lold b' r' h').1 hl') hg hg' hgg
  · intro b b' r r' h h' hl hl' hg hgg hrr
    rw [gold b r h] at hg hgg
    rw [gold b' r' h'] at hgg
    exact hs.same b b' r r' h h' ((lold b r h).1 hl) ((lold b' r' h').1 hl') hg hgg hrr
  · intro b r m' c' g kk s mm h hl hL hg
    rw [upd_ne _ _ (ne b r h)] at hL
    have hg0 : grp L b = g := grp_of hL
    have hi : info (upd L n (.cells len ch (n + 1) n n len)) (g - 1) = info L (g - 1) := info_upd_ne (by have := (ldne b r h).resolve_left (by rw [hg0]; exact hg); rw [hg0] at this; exact this)
    rw [hi]
    exact hs.mx b r m' c' g kk s mm h ((lold b r h).1 hl) hL hg
  · intro b r h hg
    rw [gold b r h] at hg; exact hs.rw b r h hg
  · intro b r h hg
    rw [gold b r h] at hg; exact hs.ro b r h hg
  · intro b r h hg
    rw [gold b r h] at hg ⊢
    obtain ⟨⟨q, hq⟩, h2⟩ := hs.ld b r h hg
    exact ⟨⟨q, hq⟩, by rw [gold _ q hq]; exact h2⟩
  · intro b m' c' g kk s mm hL hg
    by_cases hne : b = n
    · subst hne
      rw [upd_same] at hL; injection hL with hL; injection hL with q1 q2 q3
      exact ⟨len, ch, b, b, len, by rw [← q3]; exact upd_same _ _ _⟩
    · rw [upd_ne _ _ hne] at hL
      obtain ⟨a1, a2, a3, a4, a5, a6⟩ := hs.kind b m' c' g kk s mm hL hg
      exact ⟨a1, a2, a3, a4, a5, by rw [upd_ne _ _ (by have := hf.ltL a6; omega)]; exact a6⟩
  · intro b p q s d lo hi hLb h64
    by_cases hne : b = n
    · subst hne; rw [upd_same] at hLb; cases hLb
    · rw [upd_ne _ _ hne] at hLb; exact hs.pol b p q s d lo hi hLb h64
  · intro b r h hg
    rw [gold b r h] at hg; exact hs.rk b r h hg

/-- The machine makes it. -/
theorem Ctx.made {i : Nat} (c : Ctx base H n ρ L w) (hi : i < n) (hρ : ρ i = none) (hL : L i = some (.cells len ch (i + 1) i i len))
    {cs : Array Value} {ty : TypeId} (hw : w'.heap = w.heap.push (.cells cs ty (0, 0))) (hlen : len ≤ cs.size)
    (hc : ∀ j, j < len → ∃ v, cs[j]? = some v ∧ VR ρ L (getW ch j) v ∧ storable (getW ch j) = true) :
    Ctx base H n (updR ρ i (w.heap.size, 0, cs.size)) L w' ∧ Ext ρ L (updR ρ i (w.heap.size, 0, cs.size)) L := by
  have hs := c.sim
  have hsz : w'.heap.size = w.heap.size + 1 := by rw [hw]; simp
  have hold : ∀ x, x < w.heap.size → w'.heap[x]? = w.heap[x]? := fun x hx => by rw [hw, Array.getElem?_push, if_neg (by omega)]
  have ne : ∀ b r, ρ b = some r → b ≠ i := fun b r h hb => by rw [hb, hρ] at h; cases h
  have e : Ext ρ L (updR ρ i (w.heap.size, 0, cs.size)) L := ⟨⟨fun b r h => by rw [updR_ne _ _ (ne b r h)]; exact h, fun _ _ _ _ h => h, fun _ _ _ _ _ _ _ h => h, fun _ h => h⟩, fun _ h => h⟩
  have old : ∀ b r, updR ρ i (w.heap.size, 0, cs.size) b = some r → b ≠ i → ρ b = some r := fun b r h hne => by rw [updR_ne _ _ hne] at h; exact h
  have gi : grp L i = i + 1 := grp_of hL
  have ldne : ∀ b r, ρ b = some r → grp L b ≠ 0 → grp L b ≠ i + 1 := fun b r h h0 hg => by
    obtain ⟨⟨q, hq⟩, _⟩ := hs.ld b r h h0
    rw [hg] at hq
    simp at hq
    rw [hρ] at hq; cases hq
  refine ⟨⟨⟨?_, ?_, ?_, ?_, ?_, ?_, ?_, ?_, ?_, hs.kind, hs.pol, ?_, ?_⟩, c.agree, fun b hb => ?_⟩, e⟩
  · intro b r h
    by_cases hne : b = i
    · subst hne
      rw [updR_same] at h; injection h with h; subst h
      refine ⟨_, hL, fun _ => ⟨cs, ty, (0, 0), by rw [hw]; simp, by simp, hlen, fun _ => rfl, fun j hj => ?_⟩⟩
      obtain ⟨v, a1, a2, a3⟩ := hc j hj
      exact ⟨v, by simpa using a1, a2.mono e, a3⟩
    · have h' := old b r h hne
      obtain ⟨kk, h1, h2⟩ := hs.blk b r h'
      exact ⟨kk, h1, fun hl => (h2 hl).mono e (hold _ (hs.bnd b r h'))⟩
  · intro b b' r r' h h' hl hl' hg hg' hgg
    by_cases hne : b = i
    · by_cases hne' : b' = i
      · subst hne; subst hne'; exact absurd rfl hgg
      · subst hne
        rw [updR_same] at h; injection h with h; subst h
        have := hs.bnd b' r' (old b' r' h' hne')
        simp; omega
    · by_cases hne' : b' = i
      · subst hne'
        rw [updR_same] at h'; injection h' with h'; subst h'
        have := hs.bnd b r (old b r h hne)
        simp; omega
      · exact hs.sep b b' r r' (old b r h hne) (old b' r' h' hne') hl hl' hg hg' hgg
  · intro b b' r r' h h' hl hl' hg hgg hrr
    by_cases hne : b = i
    · by_cases hne' : b' = i
      · subst hne; subst hne'; rw [h] at h'; injection h' with h'; rw [h']
      · subst hne
        rw [updR_same] at h; injection h with h; subst h
        have := hs.bnd b' r' (old b' r' h' hne')
        simp at hrr; omega
    · by_cases hne' : b' = i
      · subst hne'
        rw [updR_same] at h'; injection h' with h'; subst h'
        have := hs.bnd b r (old b r h hne)
        simp at hrr; omega
      · exact hs.same b b' r r' (old b r h hne) (old b' r' h' hne') hl hl' hg hgg hrr
  · intro b r m c' g kk s mm h hl hLb hg
    by_cases hne : b = i
    · subst hne
      rw [hL] at hLb; injection hLb with hLb; injection hLb with q1 q2 q3 q4 q5 q6
      subst q3
      simp only [Nat.add_sub_cancel, info, hL]
      omega
    · exact hs.mx b r m c' g kk s mm (old b r h hne) hl hLb hg
  · intro b r h hg
    by_cases hne : b = i
    · subst hne; rw [updR_same] at h; injection h with h; subst h; exact hs.bs
    · exact hs.rw b r (old b r h hne) hg
  · intro b r h hg
    by_cases hne : b = i
    · subst hne; rw [gi] at hg; omega
    · exact hs.ro b r (old b r h hne) hg
  · intro b r h
    by_cases hne : b = i
    · subst hne; rw [updR_same] at h; injection h with h; subst h; simp; omega
    · have := hs.bnd b r (old b r h hne); omega
  · have := hs.bs; omega
  · intro b r h hg
    by_cases hne : b = i
    · subst hne; rw [gi]; exact ⟨⟨_, updR_same _ _ _⟩, gi⟩
    · have h' := old b r h hne
      obtain ⟨⟨q, hq⟩, h2⟩ := hs.ld b r h' hg
      exact ⟨⟨q, e.place _ _ hq⟩, h2⟩
  · intro b r h hg
    by_cases hne : b = i
    · subst hne; rw [updR_same] at h; injection h with h; subst h; exact hs.kptNone (Nat.le_refl _)
    · exact hs.rk b r (old b r h hne) hg
  · intro x o hx
    have := hs.kp x o hx
    rw [hold x (Array.getElem?_eq_some_iff.1 this).1]; exact this
  · obtain ⟨a1, a2⟩ := c.fresh b hb
    exact ⟨a1, by rw [updR_ne _ _ (by omega)]; exact a2⟩
end
end Go.Eng

/- Steps of the machine, and regions. -/
namespace Go.Eng
set_option linter.unusedSectionVars false
set_option linter.unusedSimpArgs false
set_option linter.unusedVariables false
open Go Go.RowKit
variable [E : Env]

structure FFix where
  fn : FuncId
  kind : CallKind
  ro : Option Nat

def mkF (f : FFix) (tmps : Array Value) (ds : List Deferred) (todo : List Item) : Frame :=
  { fn := f.fn, tmps := tmps, todo := todo, defers := ds, mode := .run, kind := f.kind, roundOf := f.ro }

theorem mkF_eval (f : FFix) (tmps : Array Value) (ds : List Deferred) (todo : List Item) : (mkF f tmps ds todo).eval = evT tmps := by
  funext x; cases x <;> rfl

def putT (tmps : Array Value) (dst : Option Tmp) (x : Value) : Array Value := match dst with | some d => tmps.setIfInBounds d x | none => tmps

section
variable {P : Program} {f : FFix} {tmps : Array Value} {ds : List Deferred} {k : List Item} {cs : List Frame} {w w' : World} {ops : Array Oper} {o : Oper} {fr0 : Frame}

theorem finish_mkF (i : Nat) (rest : List Nat) (x : Value) (ho : ops[i]? = some o) :
    (mkF f tmps ds (.inRegion ops (i :: rest) :: k)).finish x = mkF f (putT tmps o.dst x) ds (.inRegion ops rest :: k) := by
  unfold mkF Frame.finish putT
  simp only [ho, Option.bind_some]
  cases o.dst <;> rfl

theorem st_skip : Steps P (lone (mkF f tmps ds (.code .skip :: k)) cs w) (lone (mkF f tmps ds k) cs w) := .one (step_lone_go (by simp [stepG, stepG.exec, mkF]))
theorem st_label {l : Nat} : Steps P (lone (mkF f tmps ds (.code (.label l) :: k)) cs w) (lone (mkF f tmps ds k) cs w) := .one (step_lone_go (by simp [stepG, stepG.exec, mkF]))
theorem st_inBlock {id : Nat} : Steps P (lone (mkF f tmps ds (.inBlock id :: k)) cs w) (lone (mkF f tmps ds k) cs w) := .one (step_lone_go (by simp [stepG, stepG.exec, mkF]))
theorem st_inScope {b : Code} : Steps P (lone (mkF f tmps ds (.inScope b :: k)) cs w) (lone (mkF f tmps ds k) cs w) := .one (step_lone_go (by simp [stepG, stepG.exec, mkF]))
theorem st_seq {a b : Code} : Steps P (lone (mkF f tmps ds (.code (.seq a b) :: k)) cs w) (lone (mkF f tmps ds (.code a :: .code b :: k)) cs w) := .one (step_lone_go (by simp [stepG, stepG.exec, mkF]))
theorem st_cond {c : Operand} {a b : Code} {t : Bool} (h : evT tmps c = .bool t) : Steps P (lone (mkF f tmps ds (.code (.cond c a b) :: k)) cs w) (lone (mkF f tmps ds (.code (if t then a else b) :: k)) cs w) :=
  .one (step_lone_go (by
    have he := mkF_eval f tmps ds (.code (.cond c a b) :: k)
    simp only [mkF] at he
    simp [stepG, stepG.exec, mkF, he, h]))
theorem st_block {id : Nat} {b : Code} : Steps P (lone (mkF f tmps ds (.code (.block id b) :: k)) cs w) (lone (mkF f tmps ds (.code b :: .inBlock id :: k)) cs w) := .one (step_lone_go (by simp [stepG, stepG.exec, mkF]))
theorem st_scope {b : Code} : Steps P (lone (mkF f tmps ds (.code (.scope b) :: k)) cs w) (lone (mkF f tmps ds (.code b :: .inScope b :: k)) cs w) := .one (step_lone_go (by simp [stepG, stepG.exec, mkF]))
theorem st_loop {b : Code} : Steps P (lone (mkF f tmps ds (.code (.loop b) :: k)) cs w) (lone (mkF f tmps ds (.code b :: .inLoop b :: k)) cs w) := .one (step_lone_go (by simp [stepG, stepG.exec, mkF]))
theorem st_inLoop {b : Code} : Steps P (lone (mkF f tmps ds (.inLoop b :: k)) cs w) (lone (mkF f tmps ds (.code b :: .inLoop b :: k)) cs w) := .one (step_lone_go (by simp [stepG, stepG.exec, mkF]))
theorem st_exit {id : Nat} {k' : List Item} (h : exitTo id k = some k') : Steps P (lone (mkF f tmps ds (.code (.exit id) :: k)) cs w) (lone (mkF f tmps ds k') cs w) :=
  .one (step_lone_go (by simp [stepG, stepG.exec, mkF, h]))
theorem st_region {id : Nat} : Steps P (lone (mkF f tmps ds (.code (.region id ops false) :: k)) cs w) (lone (mkF f tmps ds (.inRegion ops (List.range ops.size) :: k)) cs w) :=
  .one (step_lone_go (by simp [stepG, stepG.exec, mkF]))
theorem st_regionEnd : Steps P (lone (mkF f tmps ds (.inRegion ops [] :: k)) cs w) (lone (mkF f tmps ds k) cs w) := .one (step_lone_go (by simp [stepG, stepG.exec, mkF]))

theorem st_opSkip {i : Nat} {rest : List Nat} (ho : ops[i]? = some o) (hw : Region.wanted o (yielded ops tmps) = false) :
    Steps P (lone (mkF f tmps ds (.inRegion ops (i :: rest) :: k)) cs w) (lone (mkF f (putT tmps o.dst Go.undef) ds (.inRegion ops rest :: k)) cs w) := by
  rw [← finish_mkF i rest Go.undef ho]
  exact .one (step_lone_go (by simp [stepG, stepG.exec, mkF, ho, hw]))

def notDefer (op : Op) : Bool := match op with | .defer _ => false | _ => true

theorem stepG_opr {i : Nat} {rest : List Nat} (ho : ops[i]? = some o) (hw : Region.wanted o (yielded ops tmps) = true) (hd : notDefer o.op = true) :
    stepG P true { frame := mkF f tmps ds (.inRegion ops (i :: rest) :: k), callers := cs, status := .running, dying := none } w =
      stepG.apply P true (mkF f tmps ds (.inRegion ops (i :: rest) :: k)) cs none (execOp (evT tmps) o) w := by
  have he := mkF_eval f tmps ds (.inRegion ops (i :: rest) :: k)
  simp only [mkF] at he
  have : ∀ l c, ¬ (f.ro = some l ∧ o.op = .defer c) := fun l c ⟨_, h2⟩ => by rw [h2] at hd; cases hd
  cases hr : f.ro with
  | none => simp [stepG, stepG.exec, stepG.oper, Frame.oper?, mkF, ho, hw, hr] at he ⊢; rw [he]
  | some l =>
    cases hop : o.op with
    | defer c => rw [hop] at hd; cases hd
    | _ => simp [stepG, stepG.exec, stepG.oper, Frame.oper?, mkF, ho, hw, hr, hop] at he ⊢; rw [he]

/-- What an operation's doing makes of the frame. -/
theorem st_apply {it : Item} {s : Sem Next} {x : Value} (hd : Does P s w x w' (mkF f tmps ds (it :: k)) cs) (hit : ∀ a b c d, it ≠ .call a b c d) {w0 : World}
    (hg : (stepG P true { frame := fr0, callers := cs, status := .running, dying := none } w0).bare = (stepG.apply P true (mkF f tmps ds (it :: k)) cs none s w).bare) :
    Steps P (lone fr0 cs w0) (lone ((mkF f tmps ds (it :: k)).finish x) cs w') := by
  cases hd with
  | value h => exact .one (step_lone_go (by rw [hg]; simp [stepG.apply, h]))
  | skip h hx => subst hx; exact .one (step_lone_go (by rw [hg]; simp [stepG.apply, h]))
  | enter f args w1 h hr =>
    refine .trans (.one ?_) hr
    refine step_lone_go ?_
    rw [hg]; simp only [stepG.apply, Sem.runT_eq, h, if_true, GStep.bare_after]
    cases it with
    | call a b c d => exact absurd rfl (hit _ _ _ _)
    | _ => rfl
  | round l f tmps assign body w1 h hr =>
    refine .trans (.one ?_) hr
    refine step_lone_go ?_
    rw [hg]; simp only [stepG.apply, Sem.runT_eq, h, if_true, GStep.bare_after]
    rfl

theorem st_op {i : Nat} {rest : List Nat} {x : Value} (ho : ops[i]? = some o) (hw : Region.wanted o (yielded ops tmps) = true) (hd : notDefer o.op = true) (h : Does P (execOp (evT tmps) o) w x w' (mkF f tmps ds (.inRegion ops (i :: rest) :: k)) cs) :
    Steps P (lone (mkF f tmps ds (.inRegion ops (i :: rest) :: k)) cs w) (lone (mkF f (putT tmps o.dst x) ds (.inRegion ops rest :: k)) cs w') := by
  rw [← finish_mkF i rest x ho]
  exact st_apply h (by intros; simp) (by rw [stepG_opr ho hw hd])
end

section
variable {base : Nat} {H H' : Trie} {n n' nt T T' v : Nat} {ρ : Rho} {L : Look} {w : World} {P : Program} {tmps : Array Value} {ops : Array Oper} {call : Nat → List Nat → Trie → Nat → OR}

theorem opE_notDefer {o : Oper} {op : Op} (h : opE P call T H n op = .ok v H' n') : notDefer op = true := by
  cases op <;> first | rfl | cases h

theorem VR.word_bool {w : Nat} {b : Bool} (h : VR ρ L w (.bool b)) : w = wB b := by cases h; rfl
theorem wB_inj (a b : Bool) : wB a = wB b ↔ a = b := by cases a <;> cases b <;> decide

theorem wanted_sound (ht : TR ρ L nt T tmps) (o : Oper) : wantedE ops T o = Region.wanted o (yielded ops tmps) := by
  unfold wantedE Region.wanted
  cases hg : o.guard with
  | none => rfl
  | some jw =>
    obtain ⟨j, want⟩ := jw
    simp only
    unfold yielded
    cases hd : (ops[j]?).bind (·.dst) with
    | none => simp
    | some d =>
      simp only [Option.bind_some]
      rw [nbeq]
      have hv := ht.2 d
      by_cases hds : d < tmps.size
      · have e : tmps.getD d Go.undef = tmps[d] := by simp [Array.getD, hds]
        rw [e] at hv
        have e2 : tmps[d]? = some tmps[d] := by simp [hds]
        rw [e2]
        cases hx : tmps[d] with
        | bool b =>
          rw [hx] at hv
          have hw : getW T d = wB b := hv.word_bool
          rw [hw]
          simp only
          rw [show (some b == some want) = (b == want) from by cases b <;> cases want <;> rfl]
          by_cases hbw : b = want
          · simp [hbw]
          · have : ¬ wB b = wB want := fun h => hbw ((wB_inj _ _).1 h)
            simp [hbw, this]
        | _ =>
          rw [hx] at hv
          have hne : ¬ getW T d = wB want := by
            intro h
            obtain ⟨b', _, h4⟩ := hv.bool_inv (by rw [h]; exact tag_wB _)
            cases h4
          simp [hne]
      · have e : tmps.getD d Go.undef = Go.undef := by simp [Array.getD, hds]
        rw [e] at hv
        have e2 : tmps[d]? = none := Array.getElem?_eq_none (Nat.le_of_not_lt hds)
        rw [e2]
        have hne : ¬ getW T d = wB want := by
          intro h
          obtain ⟨b', _, h4⟩ := hv.bool_inv (by rw [h]; exact tag_wB _)
          cases h4
        simp [hne]

theorem setD_sound {dst : Option Tmp} {k : Nat → RR} {r : RR} {x : Value} (ht : TR ρ L nt T tmps) (hx : VR ρ L v x) (h : setD nt T dst v k = r) (hr : ∀ q, r ≠ .bad q) : ∃ T', k T' = r ∧ TR ρ L nt T' (putT tmps dst x) := by
  unfold setD at h
  cases dst with
  | none => exact ⟨T, h, ht⟩
  | some d =>
    simp only at h
    rw [sel_ltb] at h
    split at h
    · rename_i hd
      rw [sel_ltb] at h
      split at h
      · rename_i hv
        exact ⟨_, h, ht.set hd hv hx⟩
      · exact absurd h.symm (hr _)
    · exact absurd h.symm (hr _)

/-- A region that is run in its text's order. -/
theorem regE_sound (hcall : CallS P call) (f : FFix) (ds : List Deferred) (k : List Item) (cs : List Frame) : ∀ (l : List Oper) (i T : Nat) (H : Trie) (n : Nat) (tmps : Array Value) (ρ : Rho) (L : Look) (w : World), (∀ j, l[j]? = ops[i + j]?) →
    regE P call nt ops l T H n = .ok T' H' n' → Ctx base H n ρ L w → TR ρ L nt T tmps →
    ∃ ρ' L' w' tmps', Ctx base H' n' ρ' L' w' ∧ TR ρ' L' nt T' tmps' ∧ Ext ρ L ρ' L' ∧ Below base w w' ∧ Loc H n ρ L ρ' L' ∧ n ≤ n' ∧
      Steps P (lone (mkF f tmps ds (.inRegion ops (List.range' i l.length) :: k)) cs w) (lone (mkF f tmps' ds (.inRegion ops [] :: k)) cs w')
  | [], i, T, H, n, tmps, ρ, L, w, hl, h, c, ht => by
    have e : regE P call nt ops [] T H n = .ok T H n := rfl
    rw [e] at h; injection h with h1 h2 h3
    subst h1; subst h2; subst h3
    exact ⟨ρ, L, w, tmps, c, ht, .refl _ _, Below.refl _ _, .refl _ _ _ _, Nat.le_refl _, Steps.refl _ _⟩
  | o :: l, i, T, H, n, tmps, ρ, L, w, hl, h, c, ht => by
    have e : regE P call nt ops (o :: l) T H n = sel (wantedE ops T o)
      (match opE P call T H n o.op with | .ok v H' n' => setD nt T o.dst v fun T' => regE P call nt ops l T' H' n' | .bad q => .bad q)
      (setD nt T o.dst 0 fun T' => regE P call nt ops l T' H n) := rfl
    rw [e, wanted_sound ht o] at h
    have ho : ops[i]? = some o := by have := hl 0; simpa using this.symm
    have hl' : ∀ j, l[j]? = ops[i + 1 + j]? := fun j => by have := hl (j + 1); simpa [Nat.add_assoc, Nat.add_comm 1 j] using this
    have hrange : List.range' i (o :: l).length = i :: List.range' (i + 1) l.length := by simp [List.range'_succ]
    cases hw : Region.wanted o (yielded ops tmps) with
    | true =>
      rw [hw, sel_true] at h
      split at h
      · rename_i v H1 n1 hop
        obtain ⟨ρ1, L1, w1, x, c1, e1, b1, l1, hn1, hv, hdo⟩ := opE_sound (cfr := mkF f tmps ds (.inRegion ops (i :: List.range' (i + 1) l.length) :: k)) (ccs := cs) c ht hcall hop
        obtain ⟨T1, h1, ht1⟩ := setD_sound (ht.mono e1) hv h (by simp)
        obtain ⟨ρ2, L2, w2, tmps2, c2, ht2, e2, b2, l2, hn2, hst⟩ := regE_sound hcall f ds k cs l (i + 1) T1 H1 n1 _ ρ1 L1 w1 hl' h1 c1 ht1
        refine ⟨ρ2, L2, w2, tmps2, c2, ht2, e1.trans e2, b1.trans b2, l1.trans hn1 l2, Nat.le_trans hn1 hn2, ?_⟩
        rw [hrange]
        exact (st_op ho hw (opE_notDefer (o := o) hop) hdo).trans hst
      · cases h
    | false =>
      rw [hw, sel_false] at h
      obtain ⟨T1, h1, ht1⟩ := setD_sound (x := Go.undef) ht .undef h (by simp)
      obtain ⟨ρ2, L2, w2, tmps2, c2, ht2, e2, b2, l2, hn2, hst⟩ := regE_sound hcall f ds k cs l (i + 1) T1 H n _ ρ L w hl' h1 c ht1
      refine ⟨ρ2, L2, w2, tmps2, c2, ht2, e2, b2, l2, hn2, ?_⟩
      rw [hrange]
      exact (st_opSkip ho hw).trans hst
end
end Go.Eng
