/- Stores, rows made, and append. -/
import Derived.Test.YthcdiaahpodkoabEngI
namespace Go.Eng
set_option linter.unusedSectionVars false
set_option linter.unusedSimpArgs false
set_option linter.unusedVariables false
open Go Go.RowKit
variable [E : Env]

section
variable {base : Nat} {H H' : Trie} {n n' nt T v : Nat} {ρ : Rho} {L : Look} {w : World} {P : Program} {tmps : Array Value} {o : Oper} {call : Nat → List Nat → Trie → Nat → OR} {cfr : Frame} {ccs : List Frame}

/-- The leader told anew. -/
theorem lead_sound (c : Ctx base H n ρ L w) {l K S M : Nat} {k : Trie → OR} {r : OR} (h : lead H l K S M k = r) (hr : ∀ q, r ≠ .bad q) :
    ∃ nl cl gl kl sl ml, tget H l = some (.cells nl cl gl kl sl ml) ∧ k (hset H l (.cells nl cl gl K S M)) = r := by
  unfold lead at h
  split at h
  · exact ⟨_, _, _, _, _, _, by assumption, h⟩
  · exact absurd h.symm (hr _)

theorem own_sound (c : Ctx base H n ρ L w) {b g nb cb kb sb mb n1 c1 : Nat} {k : Trie → OR} {r : OR} (hb : tget H b = some (.cells nb cb g kb sb mb)) (hg : g ≠ 0)
    (hl : live L b) (hρ : ∃ q, ρ b = some q) (h : own H n b g n1 c1 k = r) (hr : ∀ q, r ≠ .bad q) :
    ∃ H1 L1, k H1 = r ∧ Agree H1 L1 ∧ Relab L L1 b (g - 1) g n1 c1 b n n1 ∧ Loc H n ρ L ρ L1 := by
  have hb1 := c.agree.lt hb
  have hLb := c.agree.2 _ _ hb
  obtain ⟨q, hq⟩ := hρ
  unfold own at h
  rw [sel_beq] at h
  split at h
  · rename_i hgb
    have e : g - 1 = b := by omega
    refine ⟨_, upd L b (.cells n1 c1 g b n n1), h, c.agree.hset hb1 _, ⟨⟨_, _, _, upd_same _ _ _⟩, by rw [e]; simp [Eng.info, upd_same], fun j hj => .inl (upd_ne _ _ hj)⟩, ?_⟩
    refine ⟨fun j _ hj => ⟨upd_ne _ _ (fun hh => by subst hh; rw [hq] at hj; cases hj), hj⟩⟩
  · rename_i hgb
    have hne : g - 1 ≠ b := by intro hh; apply hgb; show g = b + 1; omega
    have ha1 : Agree (hset H b (.cells n1 c1 g 0 0 0)) (upd L b (.cells n1 c1 g 0 0 0)) := c.agree.hset hb1 _
    unfold lead at h
    split at h
    · rename_i nl cl gl kl sl ml hget
      have hget' := hget
      rw [show Nat.pred g = g - 1 from rfl, tget_hset c.agree.1 hb1, if_neg hne] at hget'
      have hLl := c.agree.2 _ _ hget'
      have hl1 := c.agree.lt hget'
      refine ⟨_, upd (upd L b (.cells n1 c1 g 0 0 0)) (g - 1) (.cells nl cl gl b n n1), h, ha1.hset hl1 _, ⟨?_, by simp [Eng.info, upd_same], fun j hj => ?_⟩, ?_⟩
      · exact ⟨0, 0, 0, by rw [upd_ne _ _ (Ne.symm hne), upd_same]⟩
      · by_cases hjl : j = g - 1
        · subst hjl
          exact .inr ⟨rfl, _, _, _, _, _, _, _, _, _, hLl, upd_same _ _ _⟩
        · exact .inl (by rw [upd_ne _ _ hjl, upd_ne _ _ hj])
      · have hgL : grp L b = g := grp_of hLb
        obtain ⟨⟨ql, hql⟩, _⟩ := c.sim.ld b q hq (by rw [hgL]; exact hg)
        rw [hgL] at hql
        refine ⟨fun j _ hj => ⟨?_, hj⟩⟩
        · rw [upd_ne _ _ (fun hh => by subst hh; rw [hql] at hj; cases hj), upd_ne _ _ (fun hh => by subst hh; rw [hq] at hj; cases hj)]
    · exact absurd h.symm (hr _)

theorem Relab.fresh {L1 : Look} {b l g n1 c1 K S M nb cb kb sb mb : Nat} (hR : Relab L L1 b l g n1 c1 K S M) (hL : L b = some (.cells nb cb g kb sb mb)) (hf : Fresh n ρ L) : Fresh n ρ L1 :=
  fun j hj => ⟨hR.none hL (hf j hj).1, (hf j hj).2⟩

/-- A cell is written. -/
theorem wr_sound (c : Ctx base H n ρ L w) {b off rb d sz xw : Nat} {x : Value} {k : Trie → OR} {r : OR} (hb : ρ b = some (rb, d, sz)) (hst : storable xw = true) (hx : VR ρ L xw x)
    (h : wr H n b off xw k = r) (hr : ∀ q, r ≠ .bad q) :
    ∃ H1 L1, k H1 = r ∧ Ctx base H1 n ρ L1 (w.setCell ⟨rb, d + off, none⟩ x) ∧ Ext ρ L ρ L1 ∧ Below base w (w.setCell ⟨rb, d + off, none⟩ x) ∧ Loc H n ρ L ρ L1 ∧
      base ≤ rb ∧ (∃ u, w.cell? ⟨rb, d + off, none⟩ = some u) ∧ w.frozen? ⟨rb, d + off, none⟩ = false := by
  unfold wr at h
  split at h
  · rename_i nb cb g kb sb mb hget
    rw [sel_beq] at h
    split at h
    · exact absurd h.symm (hr _)
    · rename_i hg
      rw [sel_ltb] at h
      split at h
      · rename_i hlt
        rw [sel_eq] at h
        split at h
        · rename_i hval
          have hL := c.agree.2 _ _ hget
          have hl := validE_iff c.agree hL hval
          obtain ⟨H1, L1, hk, hag, hR, hloc⟩ := own_sound c hget hg hl ⟨_, hb⟩ h hr
          obtain ⟨hc1, hc2⟩ := hx.cell hst
          have hxlt := ((storable_iff _).1 hst).2.2.2
          obtain ⟨k, hk2, hbr⟩ := c.sim.blk b _ hb
          rw [hL] at hk2; injection hk2 with hk2; subst hk2
          obtain ⟨cs, ty, fz, q1, q2, q3, q4, q5⟩ := hbr hl
          obtain rfl := q4 hg
          obtain ⟨u, hu, _⟩ := q5 off hlt
          have hgL : grp L b = g := grp_of hL
          have hbase : base ≤ rb := c.sim.rw b _ hb (by rw [hgL]; exact hg)
          have hcell : w.cell? ⟨rb, d + off, none⟩ = some u := by rw [cell_of_heap q1]; exact hu
          have hfro : w.frozen? ⟨rb, d + off, none⟩ = false := by simp [World.frozen?, q1]
          have hheap : (w.setCell ⟨rb, d + off, none⟩ x).heap[rb]? = some (.cells (cs.setIfInBounds (d + off) x) ty (0, 0)) := by
            simp only [World.setCell, Array.getElem?_modify, if_true]
            rw [q1]; simp
          have hother : ∀ y, y ≠ rb → (w.setCell ⟨rb, d + off, none⟩ x).heap[y]? = w.heap[y]? := fun y hy => by
            simp only [World.setCell, Array.getElem?_modify]
            rw [if_neg (by omega)]
          have hs' := c.sim.own (w' := w.setCell ⟨rb, d + off, none⟩ x) c.fresh hb hl hL hg hR hother (by simp) hheap (by simpa using q2) q3 (fun i hi => by
            by_cases hio : i = off
            · subst hio
              rw [getW_setW_same _ _ _ hxlt]
              have : d + i < cs.size := (Array.getElem?_eq_some_iff.1 hu).1
              exact ⟨x, by simp [this], hx, hst⟩
            · rw [getW_setW_ne _ _ _ _ hxlt hio]
              obtain ⟨u', a1, a2, a3⟩ := q5 i hi
              exact ⟨u', by rw [Array.getElem?_setIfInBounds, if_neg (by simp; omega)]; exact a1, a2, a3⟩)
          exact ⟨H1, L1, hk, ⟨hs', hag, hR.fresh hL c.fresh⟩, hR.ext hL ρ, (Below.refl _ _).setCell hbase _, hloc, hbase, ⟨u, hcell⟩, hfro⟩
        · exact absurd h.symm (hr _)
      · exact absurd h.symm (hr _)
  · exact absurd h.symm (hr _)

/-- Cells are written, one behind the other. -/
theorem wrR_sound (c : Ctx base H n ρ L w) {b off m rb d sz ch : Nat} {vs : Array Value} {k : Trie → OR} {r : OR} (hb : ρ b = some (rb, d, sz)) (hc : CellsR ρ L m ch vs)
    (h : wrR H n b off m ch k = r) (hr : ∀ q, r ≠ .bad q) :
    ∃ H1 L1 cur ty, k H1 = r ∧ w.heap[rb]? = some (.cells cur ty (0, 0)) ∧ d + off + vs.toList.length ≤ cur.size ∧
      Ctx base H1 n ρ L1 (w.setRow rb (cur.toList.take (d + off) ++ vs.toList ++ cur.toList.drop (d + off + vs.toList.length)).toArray) ∧ Ext ρ L ρ L1 ∧
      Below base w (w.setRow rb (cur.toList.take (d + off) ++ vs.toList ++ cur.toList.drop (d + off + vs.toList.length)).toArray) ∧ Loc H n ρ L ρ L1 := by
  unfold wrR at h
  split at h
  · rename_i nb cb g kb sb mb hget
    rw [sel_beq] at h
    split at h
    · exact absurd h.symm (hr _)
    · rename_i hg
      rw [sel_ble] at h
      split at h
      · rename_i hle
        have hle' : off + m ≤ nb := hle
        rw [sel_eq] at h
        split at h
        · rename_i hval
          have hL := c.agree.2 _ _ hget
          have hl := validE_iff c.agree hL hval
          obtain ⟨H1, L1, hk, hag, hR, hloc⟩ := own_sound c hget hg hl ⟨_, hb⟩ h hr
          obtain ⟨k, hk2, hbr⟩ := c.sim.blk b _ hb
          rw [hL] at hk2; injection hk2 with hk2; subst hk2
          obtain ⟨cs, ty, fz, q1, q2, q3, q4, q5⟩ := hbr hl
          obtain rfl := q4 hg
          simp only at q2 q3 q5
          have hgL : grp L b = g := grp_of hL
          have hbase : base ≤ rb := c.sim.rw b _ hb (by rw [hgL]; exact hg)
          have hvl : vs.toList.length = m := by rw [Array.length_toList]; exact hc.1
          have hcl : cs.toList.length = cs.size := Array.length_toList
          have hfit : d + off + vs.toList.length ≤ cs.size := by omega
          have hsz : (cs.toList.take (d + off) ++ vs.toList ++ cs.toList.drop (d + off + vs.toList.length)).toArray.size = cs.size := by
            simp only [List.size_toArray, List.length_append, List.length_take, List.length_drop]
            omega
          have hheap := setRow_heap w rb cs ((cs.toList.take (d + off) ++ vs.toList ++ cs.toList.drop (d + off + vs.toList.length)).toArray) ty (0, 0) q1
          -- the old cells of the row, as cells of a struct
          have hold : CellsR ρ L nb (Eng.chunk cb 0 nb) (cs.extract d (d + nb)) := by
            refine ⟨by simp; omega, chunk_lt _ _ _, fun i hi => ?_⟩
            rw [getW_chunk _ _ _ _ hi, Nat.zero_add]
            obtain ⟨u, a, b2, e⟩ := q5 i hi
            refine ⟨u, ?_, b2, e⟩
            rw [Array.getElem?_extract]
            simp [show i < min (d + nb) cs.size - d from by omega, a]
          have hs' := c.sim.own (w' := w.setRow rb (cs.toList.take (d + off) ++ vs.toList ++ cs.toList.drop (d + off + vs.toList.length)).toArray) c.fresh hb hl hL hg hR
            (fun x hx => setRow_other w rb x _ hx) (by simp [World.setRow]) hheap (by rw [hsz]; exact q2) q3 (fun i hi => by
              have hgp := get_put cs.toList vs.toList (d + off) (d + i) (by omega)
              simp only
              rw [List.getElem?_toArray, hgp]
              unfold Eng.splice
              have l1 : (Eng.chunk cb 0 off) < 2 ^ (128 * off) := chunk_lt _ _ _
              have l2 : cat (Eng.chunk cb 0 off) off ch < 2 ^ (128 * (off + m)) := cat_lt _ _ _ _ l1 hc.2.1
              by_cases h1 : i < off
              · obtain ⟨u, a, b2, e⟩ := q5 i hi
                rw [if_pos (by omega), show Nat.add off m = off + m from rfl, getW_cat_lt _ _ _ _ (by omega), getW_cat_lt _ _ _ _ h1, getW_chunk _ _ _ _ h1, Nat.zero_add]
                exact ⟨u, by simpa using a, b2, e⟩
              · rw [if_neg (by omega)]
                by_cases h2 : i < off + m
                · obtain ⟨u, a, b2, e⟩ := hc.2.2 (i - off) (by omega)
                  have q : getW (cat (Eng.chunk cb 0 off) off ch) i = getW ch (i - off) := by
                    have := getW_cat_ge (Eng.chunk cb 0 off) off ch (i - off) l1
                    rwa [show off + (i - off) = i from by omega] at this
                  rw [if_pos (by omega), show Nat.add off m = off + m from rfl, getW_cat_lt _ _ _ _ h2, q, show d + i - (d + off) = i - off from by omega]
                  exact ⟨u, by simpa using a, b2, e⟩
                · obtain ⟨u, a, b2, e⟩ := q5 i hi
                  have q : getW (cat (cat (Eng.chunk cb 0 off) off ch) (off + m) (Eng.chunk cb (off + m) (nb - (off + m)))) i = getW cb i := by
                    have := getW_cat_ge (cat (Eng.chunk cb 0 off) off ch) (off + m) (Eng.chunk cb (off + m) (nb - (off + m))) (i - (off + m)) l2
                    rw [show off + m + (i - (off + m)) = i from by omega, getW_chunk _ _ _ _ (by omega), show off + m + (i - (off + m)) = i from by omega] at this
                    exact this
                  rw [if_neg (by omega)]
                  show ∃ v, cs.toList[d + i]? = some v ∧ VR ρ L (getW (cat (cat (Eng.chunk cb 0 off) off ch) (off + m) (Eng.chunk cb (off + m) (nb - (off + m)))) i) v ∧ storable (getW (cat (cat (Eng.chunk cb 0 off) off ch) (off + m) (Eng.chunk cb (off + m) (nb - (off + m)))) i) = true
                  rw [q]
                  exact ⟨u, by simpa using a, b2, e⟩)
          refine ⟨H1, L1, cs, ty, hk, q1, hfit, ⟨hs', hag, hR.fresh hL c.fresh⟩, hR.ext hL ρ, ?_, hloc⟩
          exact ⟨rfl, rfl, rfl, by simp [World.setRow], fun x hx => setRow_other w rb x _ (by omega)⟩
        · exact absurd h.symm (hr _)
      · exact absurd h.symm (hr _)
  · exact absurd h.symm (hr _)

theorem storeA_sound (c : Ctx base H n ρ L w) {t : TypeId} {x y : Nat} {vx vy : Value} (hx : VR ρ L x vx) (hy : VR ρ L y vy) (h : storeA P t x y H n = .ok v H' n') :
    ∃ w', After base H n ρ L w v H' n' (fun r W => r = Go.undef ∧ (Instr.storeAt t vx vy).run P w = .ok () W) ∧ True ∧ w' = w := by
  unfold storeA at h
  rw [sel_eq] at h
  split at h
  · rename_i hinf
    obtain ⟨i, hi⟩ := hasInfo_inv hinf
    rw [tsz_of' hi] at h
    split at h
    · rename_i ch hcn
      have hcr := cellsN_sound c hy hcn
      rw [sel_beq] at h
      split at h
      · rename_i h3
        rw [sel_beq] at h
        split at h
        · cases h
        · rename_i hnz
          rcases hx.ptr_inv h3 with ⟨h4, _⟩ | ⟨b, off, rb, d, sz, hb, hof, hw, rfl⟩
          · rw [h4] at hnz; exact absurd rfl hnz
          · obtain ⟨_, p2, p3⟩ := p_parts b off hof
            rw [hw, p2, p3, Nat.pred_succ] at h
            obtain ⟨H1, L1, cur, ty, hk, hh, hfit, hc', he, hbel, hloc⟩ := wrR_sound c hb hcr h (by simp)
            injection hk with h1 h2 h3
            subst h1; subst h2; subst h3
            have hst := run_storeCells_at P rb (d + off) ty vy.cells.toList 0 cur w hh (by simpa using hfit) hcr.oneCell
            simp only [Nat.add_zero] at hst
            have hsz : vy.cells.size = i.size := hcr.1
            refine ⟨w, ⟨ρ, L1, _, Go.undef, hc', he, hbel, hloc, Nat.le_refl _, .undef, rfl, ?_⟩, trivial, rfl⟩
            simp [Instr.storeAt, Instr.sureAddr, storeVar, hsz, run_sizeOf' hi, hst]
      · cases h
    · cases h
  · cases h

theorem op_store (c : Ctx base H n ρ L w) (ht : TR ρ L nt T tmps) {t : TypeId} {a x : Operand} (ho : o.op = .store t a x) (h : opE P call T H n o.op = .ok v H' n') :
    After base H n ρ L w v H' n' (OpDone P tmps o w cfr ccs) := by
  rw [ho] at h
  simp only [opE_eq, opX] at h
  rw [sel_eq] at h
  split at h
  · rename_i hp
    rw [sel_eq] at h
    split at h
    · rename_i hst
      rw [sel_beq] at h
      split at h
      · rename_i h3
        rw [sel_beq] at h
        split at h
        · cases h
        · rename_i hnz
          rcases (ev_sound ht a (by omega)).ptr_inv h3 with ⟨h4, _⟩ | ⟨b, off, rb, d, sz, hb, hof, hw, hv⟩
          · rw [h4] at hnz; exact absurd rfl hnz
          · obtain ⟨_, p2, p3⟩ := p_parts b off hof
            rw [hw, p2, p3, Nat.pred_succ] at h
            have hx := ev_sound ht x ((storable_iff _).1 hst).2.2.1
            obtain ⟨hc1, hc2⟩ := hx.cell hst
            obtain ⟨H1, L1, hk, hc', he, hbel, hloc, hbase, ⟨u, hcell⟩, hfro⟩ := wr_sound c hb hst hx h (by simp)
            injection hk with h1 h2 h3
            subst h1; subst h2; subst h3
            have hrun : (execOp (evT tmps) o).run P w = .ok .skip (w.setCell ⟨rb, d + off, none⟩ (evT tmps x)) := by
              have hadd : (⟨rb, d + off, none⟩ : Addr).add 0 = ⟨rb, d + off, none⟩ := rfl
              simp [execOp, ho, Instr.storeAt, hv, Instr.sureAddr, storeVar, hc1, run_sizeOf_plain hp, storeCells, hadd, run_store P w _ _ _ hc2, hcell, hfro]
            exact ⟨ρ, L1, _, Go.undef, hc', he, hbel, hloc, Nat.le_refl _, .undef, .skip hrun rfl⟩
      · cases h
    · cases h
  · have nb : tagOf (ev T a) ≠ 15 ∧ tagOf (ev T x) ≠ 15 := by
      unfold storeA at h
      have h := sel_okX h
      split at h
      · rename_i ch hcn
        rw [sel_beq] at h
        split at h
        · refine ⟨by omega, fun hb => ?_⟩
          unfold cellsN at hcn
          rw [sel_beq, if_neg (by omega), sel_beq] at hcn
          split at hcn
          · rw [sel_eq] at hcn
            split at hcn
            · rename_i hs; exact ((storable_iff _).1 hs).2.2.1 hb
            · cases hcn
          · cases hcn
        · cases h
      · cases h
    obtain ⟨_, hA, _, _⟩ := storeA_sound c (ev_sound ht a nb.1) (ev_sound ht x nb.2) h
    refine hA.mono fun r W hr => .skip ?_ hr.1
    simp [execOp, ho, hr.2]

/-! ### rows made -/
theorem repRow (z : Nat) (x : Value) (hx : VR ρ L z x) (hs : storable z = true) (m : Nat) :
    ∀ i, i < m → ∃ u, (Array.replicate m x)[i]? = some u ∧ VR ρ L (getW (repW z m) i) u ∧ storable (getW (repW z m) i) = true := by
  intro i hi
  rw [getW_repW z ((storable_iff _).1 hs).2.2.2 m i hi]
  exact ⟨x, by simp [hi], hx, hs⟩

theorem range_map_one (x : Value) (m : Nat) : (Array.range m).map ((#[x] : Array Value)[· % (#[x] : Array Value).size]!) = Array.replicate m x := by
  apply Array.ext
  · simp
  · intro i h1 h2
    simp [Nat.mod_one]

theorem tbytes_inv {e : TypeId} (h : tbytesOk P e = true) : ∃ i, P.info? e = some i ∧ 0 < i.bytes ∧ i.bytes ≤ 1024 := by
  unfold tbytesOk at h
  split at h
  · rename_i i hi
    rw [sel_beq] at h
    split at h
    · cases h
    · rw [nble] at h
      exact ⟨i, hi, by omega, by simpa using h⟩
  · cases h

theorem op_makeSlice (c : Ctx base H n ρ L w) (ht : TR ρ L nt T tmps) {t : TypeId} {l q : Operand} (ho : o.op = .makeSlice t l q) (h : opE P call T H n o.op = .ok v H' n') :
    After base H n ρ L w v H' n' (OpDone P tmps o w cfr ccs) := by
  rw [ho] at h
  simp only [opE_eq, opX] at h
  obtain ⟨e, hu, _, h⟩ := telem_inv h rfl (by simp)
  rw [sel_eq] at h
  split at h
  · rename_i hp
    rw [sel_eq] at h
    split at h
    · rename_i hby
      obtain ⟨hl1, h⟩ := isI_inv h (by simp)
      obtain ⟨hq1, h⟩ := isI_inv h (by simp)
      rw [sel_ble] at h
      split at h
      · rename_i hle
        rw [sel_ltb] at h
        split at h
        · rename_i hsm
          rw [sel_eq] at h
          split at h
          · rename_i hz
            obtain ⟨a, ha, _, hpa, hva⟩ := (ev_sound ht l (by omega)).int_inv hl1
            obtain ⟨b, hb, _, hpb, hvb⟩ := (ev_sound ht q (by omega)).int_inv hq1
            rw [hpa, hpb] at hle
            rw [hpb] at hsm
            obtain ⟨hn, hk, hmk⟩ := fresh_sound c h (by simp)
            injection hk with h1 h2 h3
            subst h1; subst h2; subst h3
            obtain ⟨i, z, hi, hiz, hzx⟩ := tzero_sound ρ L hz
            obtain ⟨hc1, _⟩ := hzx.cell hz
            obtain ⟨i', hi', hb0, hb1⟩ := tbytes_inv hby
            rw [hi] at hi'; injection hi' with hi'; subst hi'
            have hsz1 : i.size = 1 := by
              obtain ⟨j, _, hj, hs, _⟩ := plain_inv hp
              rw [hi] at hj; injection hj with hj; subst hj; exact hs
            have hsm' : b + 1 < 1048576 := hsm
            have hrun := run_make (P := P) w t e i z hu hi hiz .i64 .i64 (a : Int) (b : Int) (by omega) (by omega) (by
              have : (i.bytes : Int) * (b : Int) ≤ 1024 * 1048576 := Int.mul_le_mul (by omega) (by omega) (by omega) (by omega)
              omega) (by omega)
            have hrow : madeCells z.cells ((b : Int).toNat * i.size) = Array.replicate b z := by
              rw [hc1, hsz1]; simp only [madeCells]; rw [show (b : Int).toNat * 1 = b from by omega]; exact range_map_one z b
            rw [hrow] at hrun
            obtain ⟨c', e', hb', hl'⟩ := hmk (w.alloc (.cells (Array.replicate b z) e)) (Array.replicate b z) e rfl rfl rfl rfl (by rw [hpb]; simp) (by rw [hpb]; exact repRow _ z hzx hz b)
            rw [hpb] at *
            refine ⟨_, _, _, .slice (some ⟨w.heap.size, 0, none⟩) a b, c', e', hb', hl', Nat.le_succ _, ?_, .value ?_⟩
            · rw [hpa]
              exact vr_slice_new (updR_same _ _ _) (by omega) (by omega) hsm' hle (by omega) (.inr rfl) (by simp)
            · have ea : sInt a = (a : Int) := sInt_small (by omega)
              have eb : sInt b = (b : Int) := sInt_small (by omega)
              simp only [execOp, ho, hva, hvb, ea, eb, Sem.run_bind, hrun, Result.andThen_ok, Sem.run_pure, Int.toNat_natCast]
          · cases h
        · cases h
      · cases h
    · cases h
  · cases h

theorem fill_sound (ht : TR ρ L nt T tmps) (len : Nat) : ∀ (ps : List (Nat × Operand)) (c c' : Nat) (cells : Array Value), cells.size = len →
    (∀ i, i < len → ∃ u, cells[i]? = some u ∧ VR ρ L (getW c i) u ∧ storable (getW c i) = true) → fillE T len ps c = .some c' →
    ∃ cells', Instr.fill (fun i => some (i * 1, 1)) cells (ps.map fun p => (p.1, evT tmps p.2)) = some cells' ∧ cells'.size = len ∧
      ∀ i, i < len → ∃ u, cells'[i]? = some u ∧ VR ρ L (getW c' i) u ∧ storable (getW c' i) = true
  | [], c, c', cells, hs, hc, h => by
    have e : fillE T len [] c = .some c := rfl
    rw [e] at h; injection h with h; subst h
    exact ⟨cells, rfl, hs, hc⟩
  | p :: ps, c, c', cells, hs, hc, h => by
    have e : fillE T len (p :: ps) c = sel (ltb p.1 len) (sel (storable (ev T p.2)) (fillE T len ps (setW c p.1 (ev T p.2))) .none) .none := rfl
    rw [e, sel_ltb] at h
    split at h
    · rename_i hlt
      rw [sel_eq] at h
      split at h
      · rename_i hst
        have hxlt := ((storable_iff _).1 hst).2.2.2
        have hx := ev_sound ht p.2 ((storable_iff _).1 hst).2.2.1
        obtain ⟨hc1, _⟩ := hx.cell hst
        obtain ⟨cells', h1, h2, h3⟩ := fill_sound ht len ps _ c' (cells.setIfInBounds p.1 (evT tmps p.2)) (by simpa using hs) (fun i hi => by
          by_cases hip : i = p.1
          · subst hip
            rw [getW_setW_same _ _ _ hxlt]
            exact ⟨_, by simp [hs, hlt], hx, hst⟩
          · rw [getW_setW_ne _ _ _ _ hxlt hip]
            obtain ⟨u, a1, a2, a3⟩ := hc i hi
            exact ⟨u, by rw [Array.getElem?_setIfInBounds, if_neg (by omega)]; exact a1, a2, a3⟩) h
        refine ⟨cells', ?_, h2, h3⟩
        have hno : ¬ (cells.size < p.1 + 1) := by omega
        simp only [Nat.mul_one] at h1 ⊢
        simp [Instr.fill, hc1, hno, h1]
      · cases h
    · cases h

theorem op_buildSlice (c : Ctx base H n ρ L w) (ht : TR ρ L nt T tmps) {t : TypeId} {len : Nat} {ps : Array (Nat × Operand)} (ho : o.op = .buildSlice t len ps) (h : opE P call T H n o.op = .ok v H' n') :
    After base H n ρ L w v H' n' (OpDone P tmps o w cfr ccs) := by
  rw [ho] at h
  simp only [opE_eq, opX] at h
  obtain ⟨e, hu, _, h⟩ := telem_inv h rfl (by simp)
  rw [sel_eq] at h
  split at h
  · rename_i hp
    rw [sel_ltb] at h
    split at h
    · rename_i hsm
      have hsm' : len + 1 < 1048576 := hsm
      rw [sel_eq] at h
      split at h
      · rename_i hst
        split at h
        · rename_i ch hfill
          obtain ⟨hn, hk, hmk⟩ := fresh_sound c h (by simp)
          injection hk with h1 h2 h3
          subst h1; subst h2; subst h3
          obtain ⟨i, d, hi, hsz, _⟩ := plain_inv hp
          -- the cells to begin with
          obtain ⟨z0, hz0, hz1, hz2⟩ : ∃ z0 : Array Value, ((if len * i.size = 0 then pure #[] else do pure (← zeroValue e).cells : Sem (Array Value)).run P w = .ok z0 w) ∧
              ((Array.range (len * i.size)).map (z0[· % z0.size]!)).size = len ∧
              ∀ j, j < len → ∃ u, ((Array.range (len * i.size)).map (z0[· % z0.size]!))[j]? = some u ∧ VR ρ L (getW (repW (sel (Nat.beq len 0) 1 (tzero P e)) len) j) u ∧
                storable (getW (repW (sel (Nat.beq len 0) 1 (tzero P e)) len) j) = true := by
            by_cases hl : len = 0
            · subst hl
              exact ⟨#[], by simp, by simp, fun j hj => absurd hj (by omega)⟩
            · rw [sel_beq, if_neg hl] at hst ⊢
              obtain ⟨i', z, hi', hiz, hzx⟩ := tzero_sound ρ L hst
              rw [hi] at hi'; injection hi' with hi'; subst hi'
              obtain ⟨hc1, _⟩ := hzx.cell hst
              have hzv : (zeroValue e).run P w = .ok z w := by simp [zeroValue, typeInfo, hi, hiz]
              refine ⟨z.cells, by simp [hsz, hl, hzv], by simp [hsz], fun j hj => ?_⟩
              have := repRow (ρ := ρ) (L := L) (tzero P e) z hzx hst len j hj
              rw [hc1, hsz, Nat.mul_one, range_map_one]
              exact this
          obtain ⟨cells', f1, f2, f3⟩ := fill_sound ht len ps.toList _ ch _ hz1 hz2 hfill
          obtain ⟨c', e', hb', hl'⟩ := hmk { w with heap := w.heap.push (.cells cells' e) } cells' e rfl rfl rfl rfl (by omega) f3
          refine ⟨_, _, _, .slice (some ⟨w.heap.size, 0, none⟩) len len, c', e', hb', hl', Nat.le_succ _, ?_, .value ?_⟩
          · exact vr_slice_new (updR_same _ _ _) (by omega) (by omega) hsm' (Nat.le_refl _) (by omega) (.inr rfl) (by omega)
          · have hno : ¬ (16777216 < len * i.size) := by rw [hsz]; omega
            have hfn : (fun j => some (j * i.size, i.size)) = (fun j : Nat => some (j * 1, 1)) := by rw [hsz]
            have hrun : (Instr.buildSlice t len (ps.map fun p => (p.1, evT tmps p.2))).run P w = .ok (.slice (some ⟨w.heap.size, 0, none⟩) len len) { w with heap := w.heap.push (.cells cells' e) } := by
              simp only [Nat.mul_one] at f1
              by_cases hl : len = 0
              · subst hl
                have r0 : ∀ f : Nat → Value, (Array.range 0).map f = #[] := fun f => Array.eq_empty_of_size_eq_zero (by simp)
                simp only [Nat.zero_mul, r0] at f1
                simp [Instr.buildSlice, run_underlying hu, run_sizeOf hi, hsz, f1, r0, newRow]
              · have hcell := hz0
                simp [hsz, hl] at hz0
                obtain ⟨i', z, hi', hiz, hzx⟩ := tzero_sound ρ L (by rw [sel_beq, if_neg hl] at hst; exact hst)
                rw [hi] at hi'; injection hi' with hi'; subst hi'
                have hzv : (zeroValue e).run P w = .ok z w := by simp [zeroValue, typeInfo, hi, hiz]
                rw [hzv] at hz0
                simp at hz0
                subst hz0
                rw [hsz] at f1
                simp [Instr.buildSlice, run_underlying hu, run_sizeOf hi, hsz, hl, hzv, newRow, show ¬ (16777216 < len) from by omega]
                simp at f1
                rw [f1]
                simp
            simp only [execOp, ho]
            simp only [Sem.run_bind, hrun, Result.andThen_ok, Sem.run_pure]
        · cases h
      · cases h
    · cases h
  · refine ((makes_buildSliceA (w := w) c ht hu h).after c).mono fun r W hr => .value ?_
    simp only [execOp, ho, Sem.run_bind]
    rw [hr]; rfl

end
end Go.Eng
