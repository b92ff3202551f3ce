/- What an operation makes that makes a row and does nothing else. -/
import Derived.Test.YthcdiaahpodkoabEngM
namespace Go.Eng
set_option linter.unusedSectionVars false
set_option linter.unusedSimpArgs false
set_option linter.unusedVariables false
open Go Go.RowKit
variable [E : Env]

section
variable {base n : Nat} {w : World} {H H' : Trie} {i n' nt T v : Nat} {ρ : Rho} {L : Look} {P : Program} {tmps : Array Value} {o : Oper} {call : Nat → List Nat → Trie → Nat → OR}

theorem fresh_info {len ch : Nat} {k : Trie → OR} {r : OR} (h : fresh H i len ch k = r) (hr : ∀ q, r ≠ .bad q) : i < 16384 ∧ k (hset H i (.cells len ch (i + 1) i i len)) = r := by
  unfold fresh at h
  rw [sel_ltb] at h
  split at h
  · exact ⟨by assumption, h⟩
  · exact absurd h.symm (hr _)

/-- What is made, and what the machine does. -/
def Makes (P : Program) (tmps : Array Value) (o : Oper) (ρ : Rho) (L : Look) (H : Trie) (i v : Nat) (H' : Trie) (n' : Nat) : Prop :=
  ∃ (len ch : Nat) (cs : Array Value) (ty : TypeId) (X : Nat → Value), H' = hset H i (.cells len ch (i + 1) i i len) ∧ n' = i + 1 ∧ i < 16384 ∧ len ≤ cs.size ∧
    (∀ j, j < len → ∃ u, cs[j]? = some u ∧ VR ρ L (getW ch j) u ∧ storable (getW ch j) = true) ∧
    (∀ w : World, (execOp (evT tmps) o).run P w = .ok (.value (X w.heap.size)) { w with heap := w.heap.push (.cells cs ty) }) ∧
    (∀ (ρ' : Rho) (L' : Look) (rb : Nat), ρ' i = some (rb, 0, cs.size) → VR ρ' L' v (X rb))

theorem Makes.of {S : Sem Value} (h : MakesA P S ρ L H i v H' n') (hS : ∀ w x w', S.run P w = .ok x w' → (execOp (evT tmps) o).run P w = .ok (.value x) w') : Makes P tmps o ρ L H i v H' n' := by
  obtain ⟨len, ch, cs, ty, X, h1, h2, h3, h4, h5, h6, h7⟩ := h.ex
  exact ⟨len, ch, cs, ty, X, h1, h2, h3, h4, h5, fun w => hS _ _ _ (h6 w), h7⟩
theorem makes_box (c : Ctx base H n ρ L w) (ht : TR ρ L nt T tmps) {x : Operand} {t : TypeId} (ho : o.op = .box t x) (h : opE P call T H i o.op = .ok v H' n') : Makes P tmps o ρ L H i v H' n' := by
  rw [ho] at h
  simp only [opE_eq, opX] at h
  rw [sel_eq] at h
  split at h
  · rename_i hs
    obtain ⟨hn, hk⟩ := fresh_info h (by simp)
    injection hk with h1 h2 h3
    subst h1; subst h2; subst h3
    have hx := ev_sound ht x ((storable_iff _).1 hs).2.2.1
    obtain ⟨hc1, hc2⟩ := hx.cell hs
    exact ⟨1, _, #[evT tmps x], t, fun rb => .pointer (some ⟨rb, 0, none⟩), rfl, rfl, hn, by simp, one_cell_row hx hs, fun w => by simp [execOp, ho, Instr.box, run_newVar hc1], fun ρ' L' rb hb => vr_ptr_new hb⟩
  · by_cases hnb : tagOf (ev T x) = 6
    · refine Makes.of (makes_boxA (P := P) (t := t) c (ev_sound ht x (by omega)) h) fun w y w' hy => ?_
      simp [execOp, ho, hy]
    · unfold boxA at h
      rw [sel_beq, if_neg hnb] at h
      cases h

theorem makes_alloc (ht : TR ρ L nt T tmps) {t : TypeId} (ho : o.op = .alloc t) (h : opE P call T H i o.op = .ok v H' n') : Makes P tmps o ρ L H i v H' n' := by
  rw [ho] at h
  simp only [opE_eq, opX] at h
  rw [sel_eq, sel_eq] at h
  split at h
  · rename_i hp
    split at h
    · rename_i hs
      obtain ⟨hn, hk⟩ := fresh_info h (by simp)
      injection hk with h1 h2 h3
      subst h1; subst h2; subst h3
      obtain ⟨j, z, hi, hz, hx⟩ := tzero_sound ρ L hs
      obtain ⟨hc1, hc2⟩ := hx.cell hs
      refine ⟨1, _, #[z], t, fun rb => .pointer (some ⟨rb, 0, none⟩), rfl, rfl, hn, by simp, one_cell_row hx hs, fun w => ?_, fun ρ' L' rb hb => vr_ptr_new hb⟩
      have hzv : (zeroValue t).run P w = .ok z w := by simp [zeroValue, typeInfo, hi, hz]
      simp [execOp, ho, Instr.alloc, hzv, run_newVar hc1]
    · cases h
  · refine Makes.of (makes_allocA (ρ := ρ) (L := L) h) fun w y w' hy => ?_
    simp [execOp, ho, hy]

theorem makes_makeSlice (ht : TR ρ L nt T tmps) {t : TypeId} {l q : Operand} (ho : o.op = .makeSlice t l q) (h : opE P call T H i o.op = .ok v H' n') : Makes P tmps o ρ L H i v H' n' := by
  rw [ho] at h
  simp only [opE_eq, opX] at h
  obtain ⟨e, hu, _, h⟩ := telem_inv h rfl (by simp)
  rw [sel_eq] at h
  split at h
  · rename_i hp
    rw [sel_eq] at h
    split at h
    · rename_i hby
      obtain ⟨hl1, h⟩ := isI_inv h (by simp)
      obtain ⟨hq1, h⟩ := isI_inv h (by simp)
      rw [sel_ble] at h
      split at h
      · rename_i hle
        rw [sel_ltb] at h
        split at h
        · rename_i hsm
          rw [sel_eq] at h
          split at h
          · rename_i hz
            obtain ⟨a, ha, _, hpa, hva⟩ := (ev_sound ht l (by omega)).int_inv hl1
            obtain ⟨b, hb, _, hpb, hvb⟩ := (ev_sound ht q (by omega)).int_inv hq1
            rw [hpa, hpb] at hle
            rw [hpb] at hsm
            obtain ⟨hn, hk⟩ := fresh_info h (by simp)
            injection hk with h1 h2 h3
            subst h1; subst h2; subst h3
            obtain ⟨i0, z, hi, hiz, hzx⟩ := tzero_sound ρ L hz
            obtain ⟨hc1, _⟩ := hzx.cell hz
            obtain ⟨i', hi', hb0, hb1⟩ := tbytes_inv hby
            rw [hi] at hi'; injection hi' with hi'; subst hi'
            have hsz1 : i0.size = 1 := by
              obtain ⟨j, _, hj, hs, _⟩ := plain_inv hp
              rw [hi] at hj; injection hj with hj; subst hj; exact hs
            have hsm' : b + 1 < 1048576 := hsm
            have hrow : madeCells z.cells ((b : Int).toNat * i0.size) = Array.replicate b z := by
              rw [hc1, hsz1]; simp only [madeCells]; rw [show (b : Int).toNat * 1 = b from by omega]; exact range_map_one z b
            rw [hpa, hpb]
            refine ⟨b, _, Array.replicate b z, e, fun rb => .slice (some ⟨rb, 0, none⟩) a b, rfl, rfl, hn, by simp, repRow _ z hzx hz b, fun w => ?_, fun ρ' L' rb hbb => ?_⟩
            · have hrun := run_make (P := P) w t e i0 z hu hi hiz .i64 .i64 (a : Int) (b : Int) (by omega) (by omega) (by
                have : (i0.bytes : Int) * (b : Int) ≤ 1024 * 1048576 := Int.mul_le_mul (by omega) (by omega) (by omega) (by omega)
                omega) (by omega)
              rw [hrow] at hrun
              have ea : sInt a = (a : Int) := sInt_small (by omega)
              have eb : sInt b = (b : Int) := sInt_small (by omega)
              simp only [execOp, ho, hva, hvb, ea, eb, Sem.run_bind, hrun, Result.andThen_ok, Sem.run_pure, Int.toNat_natCast]
              rfl
            · exact vr_slice_new hbb (by omega) (by omega) hsm' hle (by omega) (.inr rfl) (by simp)
          · cases h
        · cases h
      · cases h
    · cases h
  · cases h

theorem makes_buildSlice (c : Ctx base H n ρ L w) (ht : TR ρ L nt T tmps) {t : TypeId} {len : Nat} {ps : Array (Nat × Operand)} (ho : o.op = .buildSlice t len ps) (h : opE P call T H i o.op = .ok v H' n') : Makes P tmps o ρ L H i v H' n' := by
  rw [ho] at h
  simp only [opE_eq, opX] at h
  obtain ⟨e, hu, _, h⟩ := telem_inv h rfl (by simp)
  rw [sel_eq] at h
  split at h
  · rename_i hp
    rw [sel_ltb] at h
    split at h
    · rename_i hsm
      have hsm' : len + 1 < 1048576 := hsm
      rw [sel_eq] at h
      split at h
      · rename_i hst
        split at h
        · rename_i ch hfill
          obtain ⟨hn, hk⟩ := fresh_info h (by simp)
          injection hk with h1 h2 h3
          subst h1; subst h2; subst h3
          obtain ⟨i0, d, hi, hsz, _⟩ := plain_inv hp
          -- the cells to begin with
          obtain ⟨z0, hz0, hz1, hz2⟩ : ∃ z0 : Array Value, (∀ w : World, (if len * i0.size = 0 then pure #[] else do pure (← zeroValue e).cells : Sem (Array Value)).run P w = .ok z0 w) ∧
              ((Array.range (len * i0.size)).map (z0[· % z0.size]!)).size = len ∧
              ∀ j, j < len → ∃ u, ((Array.range (len * i0.size)).map (z0[· % z0.size]!))[j]? = some u ∧ VR ρ L (getW (repW (sel (Nat.beq len 0) 1 (tzero P e)) len) j) u ∧
                storable (getW (repW (sel (Nat.beq len 0) 1 (tzero P e)) len) j) = true := by
            by_cases hl : len = 0
            · subst hl
              exact ⟨#[], fun w => by simp, by simp, fun j hj => absurd hj (by omega)⟩
            · rw [sel_beq, if_neg hl] at hst ⊢
              obtain ⟨i', z, hi', hiz, hzx⟩ := tzero_sound ρ L hst
              rw [hi] at hi'; injection hi' with hi'; subst hi'
              obtain ⟨hc1, _⟩ := hzx.cell hst
              have hzv : ∀ w : World, (zeroValue e).run P w = .ok z w := fun w => by simp [zeroValue, typeInfo, hi, hiz]
              refine ⟨z.cells, fun w => by simp [hsz, hl, hzv], by simp [hsz], fun j hj => ?_⟩
              have := repRow (ρ := ρ) (L := L) (tzero P e) z hzx hst len j hj
              rw [hc1, hsz, Nat.mul_one, range_map_one]
              exact this
          obtain ⟨cells', f1, f2, f3⟩ := fill_sound ht len ps.toList _ ch _ hz1 hz2 hfill
          refine ⟨len, ch, cells', e, fun rb => .slice (some ⟨rb, 0, none⟩) len len, rfl, rfl, hn, by omega, f3, fun w => ?_, fun ρ' L' rb hb => ?_⟩
          · have hno : ¬ (16777216 < len * i0.size) := by rw [hsz]; omega
            have hfn : (fun j => some (j * i0.size, i0.size)) = (fun j : Nat => some (j * 1, 1)) := by rw [hsz]
            have hrun : (Instr.buildSlice t len (ps.map fun p => (p.1, evT tmps p.2))).run P w = .ok (.slice (some ⟨w.heap.size, 0, none⟩) len len) { w with heap := w.heap.push (.cells cells' e) } := by
              simp only [Nat.mul_one] at f1
              by_cases hl : len = 0
              · subst hl
                have r0 : ∀ f : Nat → Value, (Array.range 0).map f = #[] := fun f => Array.eq_empty_of_size_eq_zero (by simp)
                simp only [Nat.zero_mul, r0] at f1
                simp [Instr.buildSlice, run_underlying hu, run_sizeOf hi, hsz, f1, r0, newRow]
              · have hz0 := hz0 w
                simp [hsz, hl] at hz0
                obtain ⟨i', z, hi', hiz, hzx⟩ := tzero_sound ρ L (by rw [sel_beq, if_neg hl] at hst; exact hst)
                rw [hi] at hi'; injection hi' with hi'; subst hi'
                have hzv : (zeroValue e).run P w = .ok z w := by simp [zeroValue, typeInfo, hi, hiz]
                rw [hzv] at hz0
                simp at hz0
                subst hz0
                rw [hsz] at f1
                simp [Instr.buildSlice, run_underlying hu, run_sizeOf hi, hsz, hl, hzv, newRow, show ¬ (16777216 < len) from by omega]
                simp at f1
                rw [f1]
                simp
            simp only [execOp, ho]
            simp only [Sem.run_bind, hrun, Result.andThen_ok, Sem.run_pure]
          · exact vr_slice_new hb (by omega) (by omega) hsm' (Nat.le_refl _) (by omega) (.inr rfl) (by omega)
        · cases h
      · cases h
    · cases h
  · refine Makes.of (makes_buildSliceA c ht hu h) fun w y w' hy => ?_
    simp only [execOp, ho, Sem.run_bind]
    rw [hy]; rfl

theorem makes (c : Ctx base H n ρ L w) (ht : TR ρ L nt T tmps) (ha : allocOp o.op = true) (h : opE P call T H i o.op = .ok v H' n') : Makes P tmps o ρ L H i v H' n' := by
  cases hop : o.op with
  | alloc t => exact makes_alloc ht hop h
  | box t x => exact makes_box c ht hop h
  | buildSlice t len ps => exact makes_buildSlice c ht hop h
  | makeSlice t l q => exact makes_makeSlice ht hop h
  | _ => rw [hop] at ha; cases ha
end
end Go.Eng
