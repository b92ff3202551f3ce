/- The built-in functions, calls, and all operations together. -/
import Derived.Test.YthcdiaahpodkoabEngL
namespace Go.Eng
set_option linter.unusedSectionVars false
set_option linter.unusedSimpArgs false
set_option linter.unusedVariables false
open Go Go.RowKit
variable [E : Env]

section
variable {base : Nat} {H H' : Trie} {n n' nt T v : Nat} {ρ : Rho} {L : Look} {w : World} {P : Program} {tmps : Array Value} {o : Oper} {call : Nat → List Nat → Trie → Nat → OR} {cfr : Frame} {ccs : List Frame}

theorem lenE_sound {ts : List TypeId} {ty : TypeId} {x : Nat} {vx : Value} (hx : VR ρ L x vx) (h : tagOf (lenE P ts x) ≠ 15) :
    ∃ r, VR ρ L (lenE P ts x) r ∧ (Builtin.len_ ts.toArray ty #[vx]).run P w = .ok r w := by
  unfold lenE at h ⊢
  split at h
  · rename_i t
    split at h
    · rename_i e hu
      rw [sel_beq] at h ⊢
      by_cases h4 : tagOf x = 4
      · rw [if_pos h4]
        rcases hx.slice_inv h4 with ⟨rfl, rfl⟩ | ⟨b, es, off, m, k, rb, d, sz, cp, a, hb, he, hof, hm, hk, hmc, hcb, hk1, hcp, rfl, rfl⟩
        · exact ⟨_, .int 0 (by omega), by simp [Builtin.len_, run_underlying hu, goInt, sInt]⟩
        · obtain ⟨_, q1, _⟩ := s_parts b es off m k he hof hm hk
          rw [q1]
          exact ⟨_, .int m (by omega), by simp [Builtin.len_, run_underlying hu, goInt, sInt_small (show m < 9223372036854775808 by omega)]⟩
      · rw [if_neg h4, sel_beq] at h ⊢
        by_cases h5 : tagOf x = 14
        · rw [if_pos h5]
          obtain ⟨a, rfl⟩ := hx.sl0_inv h5
          exact ⟨_, .int 0 (by omega), by simp [Builtin.len_, run_underlying hu, goInt, sInt]⟩
        · rw [if_neg h5, sel_beq] at h ⊢
          by_cases h6 : tagOf x = 11
          · rw [if_pos h6]
            obtain ⟨b, j, lo, hi, rb, d, sz, cp, hb, hj, hlo, hhi, h7, h8, h9, h10, h11, rfl, rfl⟩ := hx.opq_inv h6
            obtain ⟨p1, p2, p3, p4⟩ := o_parts b j lo hi hj hlo hhi
            rw [p1, p2, p3]
            have e1 : Nat.add 549755813888 lo = 549755813888 + lo := rfl
            have e2 : Nat.add 549755813888 hi = 549755813888 + hi := rfl
            have hlen := E.len j hj
            refine ⟨_, .var (lenIx j) _ _ (by rw [e1]; omega) ?_ (.inr ?_) ?_, by rw [hlen]; simp [Builtin.len_, run_underlying hu, goInt]⟩
            · rw [sel_beq]; split
              · omega
              · rw [e2]; omega
            · rw [e1, hlen]; omega
            · rw [sel_beq]; split
              · exact .inl rfl
              · right; rw [e2, hlen]; omega
          · rw [if_neg h6] at h; exact absurd rfl h
    · exact absurd rfl h
  · exact absurd rfl h

theorem capE_sound {ts : List TypeId} {ty : TypeId} {x : Nat} {vx : Value} (hx : VR ρ L x vx) (h : tagOf (capE P ts x) ≠ 15) :
    ∃ r, VR ρ L (capE P ts x) r ∧ (Builtin.cap_ ts.toArray ty #[vx]).run P w = .ok r w := by
  unfold capE at h ⊢
  split at h
  · rename_i t
    split at h
    · rename_i e hu
      rw [sel_beq] at h ⊢
      by_cases h4 : tagOf x = 4
      · rw [if_pos h4, sel_beq] at h ⊢
        rcases hx.slice_inv h4 with ⟨rfl, rfl⟩ | ⟨b, es, off, m, k, rb, d, sz, cp, a, hb, he, hof, hm, hk, hmc, hcb, hk1, hcp, rfl, rfl⟩
        · rw [if_neg (by rw [s_nil.2.2.1]; omega)]
          exact ⟨_, .int 0 (by omega), by simp [Builtin.cap_, run_underlying hu, goInt, sInt]⟩
        · obtain ⟨_, _, q2, _⟩ := s_parts b es off m k he hof hm hk
          rw [q2] at h ⊢
          by_cases hk0 : k = 0
          · rw [if_pos hk0] at h; exact absurd rfl h
          · rw [if_neg hk0]
            have hkc := hk1.resolve_left hk0
            rw [show Nat.pred k = cp from by rw [hkc]; rfl]
            exact ⟨_, .int cp (by omega), by simp [Builtin.cap_, run_underlying hu, goInt, sInt_small hcb]⟩
      · rw [if_neg h4] at h; exact absurd rfl h
    · exact absurd rfl h
  · exact absurd rfl h

theorem minE_sound {lt : Nat → Nat → Bool} {l : List Nat} {vs : List Value} (hl : AR ρ L l vs) (h : tagOf (minE lt l) ≠ 15) :
    ∃ a b, l = [wI a, wI b] ∧ vs = [.int .i64 (sInt a), .int .i64 (sInt b)] ∧ a < 18446744073709551616 ∧ b < 18446744073709551616 ∧ minE lt l = sel (lt b a) (wI b) (wI a) := by
  unfold minE at h
  split at h
  · rename_i x y
    rw [sel_beq] at h
    split at h
    · rename_i hx
      rw [sel_beq] at h
      split at h
      · rename_i hy
        cases hl with
        | cons _ vx _ vs' hvx hl' =>
          cases hl' with
          | cons _ vy _ vs'' hvy hl'' =>
            cases hl''
            obtain ⟨a, ha, rfl, hpa, rfl⟩ := hvx.int_inv hx
            obtain ⟨b, hb, rfl, hpb, rfl⟩ := hvy.int_inv hy
            refine ⟨a, b, rfl, rfl, ha, hb, ?_⟩
            show sel (Nat.beq (tagOf (wI a)) 1) (sel (Nat.beq (tagOf (wI b)) 1) (sel (lt (payOf (wI b)) (payOf (wI a))) (wI b) (wI a)) badW) badW = _
            rw [tag_wI, tag_wI, pay_wI, pay_wI]; rfl
      · exact absurd rfl h
    · exact absurd rfl h
  · exact absurd rfl h

theorem op_min (c : Ctx base H n ρ L w) {l : List Nat} {vs : List Value} (hl : AR ρ L l vs) {ts : Array TypeId} {ty : TypeId} (h : okv (minE (fun y x => iLt y x) l) H n = .ok v H' n') :
    After base H n ρ L w v H' n' (fun x w' => (Builtin.min_ ts ty vs.toArray).run P w = .ok x w') := by
  obtain ⟨h1, rfl, rfl, rfl⟩ := okv_inv h
  obtain ⟨a, b, rfl, rfl, ha, hb, e⟩ := minE_sound hl h1
  rw [e, iLt_iff b a hb ha]
  by_cases hlt : sInt b < sInt a
  · refine .pure (x := .int .i64 (sInt b)) c ?_ (by simp [Builtin.min_, Builtin.min2, hlt])
    simp only [hlt, decide_true]; exact .int b hb
  · refine .pure (x := .int .i64 (sInt a)) c ?_ (by simp [Builtin.min_, Builtin.min2, hlt])
    simp only [hlt, decide_false]; exact .int a ha
theorem op_max (c : Ctx base H n ρ L w) {l : List Nat} {vs : List Value} (hl : AR ρ L l vs) {ts : Array TypeId} {ty : TypeId} (h : okv (minE (fun y x => iLt x y) l) H n = .ok v H' n') :
    After base H n ρ L w v H' n' (fun x w' => (Builtin.max_ ts ty vs.toArray).run P w = .ok x w') := by
  obtain ⟨h1, rfl, rfl, rfl⟩ := okv_inv h
  obtain ⟨a, b, rfl, rfl, ha, hb, e⟩ := minE_sound hl h1
  rw [e, iLt_iff a b ha hb]
  by_cases hlt : sInt a < sInt b
  · refine .pure (x := .int .i64 (sInt b)) c ?_ (by simp [Builtin.max_, Builtin.max2, hlt])
    simp only [hlt, decide_true]; exact .int b hb
  · refine .pure (x := .int .i64 (sInt a)) c ?_ (by simp [Builtin.max_, Builtin.max2, hlt])
    simp only [hlt, decide_false]; exact .int a ha

theorem wrap_zero : IntKind.i64.wrap 0 = 0 := wrap_nat 0 (by omega)
theorem run_app_none {t tx ty e : TypeId} {i : TypeInfo} {z : Value} (ht : P.underlying t = some (.slice e)) (hi : P.info? e = some i) {xv : Value} {news : List Value}
    (hs : SrcOk P tx i z w xv 0 news) {bs : Option Addr} {sLen sCap : Nat} (hle : sLen ≤ sCap) :
    (Builtin.append_ #[t, tx] ty #[.slice bs sLen sCap, xv]).run P w = .ok (.slice bs sLen sCap) w := by
  rcases hs with ⟨⟨e', hx⟩, hl, hnl, hf⟩ | ⟨⟨k, hx⟩, rfl, hsz, _, _, hzc, rfl⟩
  · have hf1 := hf w rfl
    have hn : news = [] := List.eq_nil_of_length_eq_zero (by simpa using hnl)
    subst hn
    cases bs <;> simp [Builtin.append_, run_underlying ht, run_underlying hx, sizeOf, typeInfo, hi, hl, hle, hf1, storeCells]
  · cases bs <;> simp [Builtin.append_, run_underlying ht, run_underlying hx, sizeOf, typeInfo, hi, asInt, asIntOf, wrap_zero, hle, storeCells]

theorem slice_le {s : Nat} {sv : Value} (hs : VR ρ L s sv) (h4 : tagOf s = 4) : ∃ bs l c, sv = .slice bs l c ∧ l ≤ c := by
  rcases hs.slice_inv h4 with ⟨_, rfl⟩ | ⟨b, es, off, m, k, rb, d, sz, cp, a, hb, he, hof, hm, hk, hmc, hcb, hk1, hcp, rfl, rfl⟩
  · exact ⟨_, _, _, rfl, Nat.le_refl _⟩
  · exact ⟨_, _, _, rfl, hmc⟩

theorem appendE_sound (c : Ctx base H n ρ L w) {ts : List TypeId} {ty : TypeId} {s x : Nat} {sv xv : Value} (hs : VR ρ L s sv) (hx : VR ρ L x xv) (h : appendE P ts H n s x = .ok v H' n') :
    After base H n ρ L w v H' n' (fun r w' => (Builtin.append_ ts.toArray ty #[sv, xv]).run P w = .ok r w') := by
  unfold appendE at h
  split at h
  · rename_i t tx
    rw [sel_beq] at h
    split at h
    · rename_i h4
      obtain ⟨e, hu, ⟨i, hi⟩, h⟩ := telem_inv h rfl (by simp)
      rw [sel_eq] at h
      split at h
      · rename_i hg
        rw [sel_eq] at hg
        split at hg
        · rename_i hby
          obtain ⟨i', hi', hb0, hb1⟩ := tbytes_inv hby
          rw [hi] at hi'; injection hi' with hi'; subst hi'
          obtain ⟨z, hz, hzs⟩ : ∃ z, i.zero = some z ∧ z.cells.size = i.size := by
            unfold zeroOk at hg
            rw [hi] at hg
            simp only at hg
            split at hg
            · rename_i z hz
              rw [sel_beq] at hg
              split at hg
              · exact ⟨z, hz, by assumption⟩
              · cases hg
            · cases hg
          obtain ⟨bs, sl, sc, hsv, hle⟩ := slice_le hs h4
          split at h
          · -- make's zeros
            rename_i k hxt
            rw [sel_beq] at h
            split at h
            · rename_i hx1
              rw [sel_eq] at h
              split at h
              · rename_i hp
                rw [sel_ltb] at h
                split at h
                · rename_i hsm
                  obtain ⟨p, hpl, rfl, hpp, rfl⟩ := hx.int_inv hx1
                  rw [hpp] at hsm h
                  have hsm' : p < 1048576 := hsm
                  have hsz1 : i.size = 1 := by
                    obtain ⟨j, _, hj, hs1, _⟩ := plain_inv hp
                    rw [hi] at hj; injection hj with hj; subst hj; exact hs1
                  have hsI : sInt p = (p : Int) := sInt_small (by omega)
                  rw [hsI]
                  rw [sel_beq] at h
                  split at h
                  · rename_i hp0
                    injection h with e1 e2 e3
                    subst e1; subst e2; subst e3
                    refine .pure c hs ?_
                    subst hsv
                    rw [hp0]
                    cases bs <;> simp [Builtin.append_, run_underlying hu, run_underlying hxt, sizeOf, typeInfo, hi, asInt, asIntOf, wrap_zero, hle, storeCells]
                  · rename_i hp0
                    rw [sel_eq] at h
                    split at h
                    · rename_i hst
                      obtain ⟨i2, z2, hi2, hz2, hzx⟩ := tzero_sound ρ L hst
                      rw [hi] at hi2; injection hi2 with hi2; subst hi2
                      rw [hz] at hz2; injection hz2 with hz2; subst hz2
                      obtain ⟨hc1, _⟩ := hzx.cell hst
                      have hzlt := ((storable_iff _).1 hst).2.2.2
                      have src : SrcOk P tx i z w (.int .i64 (p : Int)) p (List.replicate p z) := .inr ⟨⟨k, hxt⟩, rfl, hsz1, hsm', hb1, hc1, rfl⟩
                      rw [← hsz1] at h
                      refine appE_sound c hu hi hz hzs hb0 hb1 hs h4 src (by omega) (by rw [hsz1]; simp) (fun j u hj => ?_) (by rw [hsz1, Nat.mul_one]; exact repW_lt _ hzlt p) h
                      rw [List.getElem?_replicate] at hj
                      split at hj
                      · rename_i hjp
                        injection hj with hj; subst hj
                        rw [getW_repW _ hzlt p j hjp]; exact ⟨hzx, hst⟩
                      · cases hj
                    · cases h
                · cases h
              · cases h
            · cases h
          · -- a slice
            rename_i e' hxt
            unfold srcE at h
            have none' : ∀ news, SrcOk P tx i z w xv 0 news → OR.ok s H n = OR.ok v H' n' → After base H n ρ L w v H' n' (fun r w' => (Builtin.append_ #[t, tx] ty #[sv, xv]).run P w = .ok r w') := by
              intro news hsrc heq
              injection heq with e1 e2 e3
              subst e1; subst e2; subst e3
              refine .pure c hs ?_
              subst hsv
              exact run_app_none hu hi hsrc hle
            rw [sel_beq] at h
            split at h
            · rename_i hx4
              rw [tsz_of hi] at h
              rw [sel_beq] at h
              rcases hx.slice_inv hx4 with ⟨rfl, rfl⟩ | ⟨b, es, off, m, k, rb, d, sz, cp, a, hb, he, hof, hm, hk, hmc, hcb, hk1, hcp, rfl, rfl⟩
              · rw [if_pos s_nil.2.2.2.2.2] at h
                exact none' [] (.inl ⟨⟨_, hxt⟩, rfl, by simp, fun w2 _ => by simp [run_firstCells_none]⟩) h
              · obtain ⟨_, q1, q2, q3, q4, q5⟩ := s_parts b es off m k he hof hm hk
                rw [q5, q3, q1, if_neg (by omega), Nat.pred_succ] at h
                split at h
                · rename_i ch hrd
                  obtain ⟨news, ro⟩ := rdRange_sound c hb hrd
                  have hcells : ∀ j u, news[j]? = some u → w.cell? (a.add j) = some u := by
                    intro j u hj
                    rcases hcp with h0 | ⟨h0, _⟩
                    · have : m = 0 := by omega
                      subst this
                      have := ro.len
                      rw [show Nat.mul 0 i.size = 0 from Nat.zero_mul _] at this
                      rw [List.eq_nil_of_length_eq_zero this] at hj; simp at hj
                    · rw [h0]; exact ro.cell j u hj
                  have src : SrcOk P tx i z w (.slice (some a) m cp) m news := .inl ⟨⟨_, hxt⟩, rfl, ro.len, fun w2 hw2 => by
                    refine run_firstCells_some w2 i.size m a m cp news ro.len fun j u hj => ?_
                    have := hcells j u hj
                    simp only [World.cell?, hw2] at this ⊢; exact this⟩
                  dsimp only at h
                  rw [sel_beq] at h
                  split at h
                  · rename_i hm0
                    have src0 : ∀ m', m' = m → SrcOk P tx i z w (.slice (some a) m cp) m' news := fun m' e => by subst e; exact src
                    exact none' news (src0 0 hm0.symm) h
                  · rename_i hm0
                    exact appE_sound c hu hi hz hzs hb0 hb1 hs h4 src (by omega) ro.len ro.word ro.lt h
                · cases h
            · rw [sel_beq] at h
              split at h
              · rename_i h14
                obtain ⟨a, rfl⟩ := hx.sl0_inv (by rw [h14]; rfl)
                refine none' [] (.inl ⟨⟨_, hxt⟩, by simp [Builtin.lenOf], by simp, fun w2 _ => run_firstCells_some w2 i.size 0 a 0 0 [] (by simp) (fun j u hj => by simp at hj)⟩) h
              · cases h
          · cases h
        · cases hg
      · cases h
    · cases h
  · cases h

/-- copy: as much as fits. -/
theorem copyE_sound (c : Ctx base H n ρ L w) {ts : List TypeId} {ty : TypeId} {d s : Nat} {dv sv : Value} (hd : VR ρ L d dv) (hs : VR ρ L s sv) (h : copyE P ts d s H n = .ok v H' n') :
    After base H n ρ L w v H' n' (fun r W => (Builtin.copy_ ts.toArray ty #[dv, sv]).run P w = .ok r W) := by
  unfold copyE at h
  split at h
  · rename_i t t2
    obtain ⟨e, hu, ⟨i, hi⟩, h⟩ := telem_inv h rfl (by simp)
    rw [tsz_of hi] at h
    rw [sel_eq] at h
    split at h
    · rename_i hg
      rw [sel_beq] at hg
      split at hg
      · rename_i hd4
        have hs4 := Nat.eq_of_beq_eq_true hg
        -- what the two slices are
        have slen : ∀ {x : Nat} {xv : Value}, VR ρ L x xv → tagOf x = 4 → ∃ a l cp, xv = .slice a l cp ∧ sLen (payOf x) = l := by
          intro x xv hx h4
          rcases hx.slice_inv h4 with ⟨rfl, rfl⟩ | ⟨b, es, off, m, k, rb, dd, sz, cp, a, hb, he, hof, hm, hk, hmc, hbig, hk1, hcp, rfl, rfl⟩
          · exact ⟨_, _, _, rfl, s_nil.2.1⟩
          · exact ⟨_, _, _, rfl, (s_parts b es off m k he hof hm hk).2.1⟩
        obtain ⟨da, dl, dc, hdv, hdl⟩ := slen hd hd4
        obtain ⟨sa, sl, sc, hsv, hsl⟩ := slen hs hs4
        simp only at h
        rw [hdl, hsl] at h
        have hmin : sel (ltb sl dl) sl dl = Nat.min sl dl := by
          rw [sel_ltb]
          show _ = min sl dl
          split <;> omega
        rw [hmin] at h
        have hlen : (Builtin.lenOf sv).run P w = .ok sl w := by rw [hsv]; simp [Builtin.lenOf]
        rw [sel_beq] at h
        split at h
        · rename_i hm0
          injection h with h1 h2 h3
          subst h1; subst h2; subst h3
          refine .pure c (.int 0 (by omega)) ?_
          have hf : (Builtin.firstCells i.size 0 sv).run P w = .ok #[] w := by
            rw [hsv]
            cases sa with
            | none => simp [run_firstCells_none]
            | some a => exact run_firstCells_some w i.size 0 a sl sc [] (by simp) (fun j u hj => by simp at hj)
          subst hdv
          cases da <;> simp [Builtin.copy_, run_underlying hu, hlen, hm0, run_sizeOf hi, hf, storeCells, goInt, sInt]
        · rename_i hm0
          rw [sel_eq] at h
          split at h
          · rename_i hz
            rw [sel_beq] at hz
            split at hz
            · cases hz
            · rename_i hdz
              rw [sel_beq] at hz
              split at hz
              · cases hz
              · rename_i hsz
                have hes := Nat.eq_of_beq_eq_true hz
                split at h
                · rename_i ch hrd
                  have hW := h
                  rcases hs.slice_inv hs4 with ⟨rfl, _⟩ | ⟨b, es, off, m, k, rb, dd, sz, cp, a, hb, he, hof, hm, hk, hmc, hbig, hk1, hcp, rfl, hsv2⟩
                  · exact absurd s_nil.2.2.2.2.2 hsz
                  · obtain ⟨_, q1, q2, q3, q4, q5⟩ := s_parts b es off m k he hof hm hk
                    rw [q5, q3, Nat.pred_succ] at hrd
                    obtain ⟨news, ro⟩ := rdRange_sound c hb hrd
                    rcases hd.slice_inv hd4 with ⟨rfl, _⟩ | ⟨b', es', off', m', k', rb', dd', sz', cp', a', hb', he', hof', hm', hk', hmc', hbig', hk1', hcp', rfl, hdv2⟩
                    · exact absurd s_nil.2.2.2.2.2 hdz
                    · obtain ⟨_, r1, r2, r3, r4, r5⟩ := s_parts b' es' off' m' k' he' hof' hm' hk'
                      rw [r5, r3, Nat.pred_succ] at hW
                      have hcr : CellsR ρ L (Nat.mul (Nat.min sl dl) i.size) ch news.toArray := CellsR.of_row ro
                      obtain ⟨H1, L1, cur, cty, hk, hh, hfit, hc', hee, hbel, hloc⟩ := wrR_sound c hb' hcr hW (by simp)
                      injection hk with h1 h2 h3
                      subst h1; subst h2; subst h3
                      rw [q1] at hsl
                      rw [r1] at hdl
                      have hmpos : 0 < Nat.min sl dl := Nat.pos_of_ne_zero hm0
                      have hml : Nat.min sl dl ≤ sl := Nat.min_le_left _ _
                      have hmd : Nat.min sl dl ≤ dl := Nat.min_le_right _ _
                      have ha : a = ⟨rb, dd + off, none⟩ := (hcp.resolve_left (by omega)).1
                      have ha' : a' = ⟨rb', dd' + off', none⟩ := (hcp'.resolve_left (by omega)).1
                      have hf : (Builtin.firstCells i.size (Nat.min sl dl) sv).run P w = .ok news.toArray w := by
                        rw [hsv2]
                        refine run_firstCells_some w i.size (Nat.min sl dl) a m cp news ro.len fun j u hj => ?_
                        rw [ha]; exact ro.cell j u hj
                      have hst := run_storeCells_at P rb' (dd' + off') cty news 0 cur w hh (by simpa using hfit) (by
                        have := hcr.oneCell; simpa using this)
                      simp only [Nat.add_zero] at hst
                      refine ⟨ρ, L1, _, goInt (Nat.min sl dl : Nat), by simpa using hc', hee, by simpa using hbel, hloc, Nat.le_refl _, ?_, ?_⟩
                      · have hlt : Nat.min sl dl < 9223372036854775808 := by omega
                        have := VR.int (ρ := ρ) (L := L1) (Nat.min sl dl) (by omega)
                        rw [sInt_small hlt] at this
                        exact this
                      · rw [hdv2] at hdv ⊢
                        injection hdv with _ hdv3 _
                        subst hdv3
                        simp [Builtin.copy_, run_underlying hu, hlen, run_sizeOf hi, hf, ha', hst]
                · cases h
          · cases h
      · cases hg
    · cases h
  · cases h

theorem builtinE_sound (c : Ctx base H n ρ L w) {b : Builtin} {ts : Array TypeId} {ty : TypeId} {consts : Array Bool} {args : List Nat} {vs : List Value} (ha : AR ρ L args vs)
    (h : builtinE P b ts.toList args H n = .ok v H' n') :
    After base H n ρ L w v H' n' (fun x w' => (builtin b ts ty consts vs.toArray).run P w = .ok (.value x) w') := by
  have ets : ts.toList.toArray = ts := by simp
  unfold builtinE at h
  split at h
  · rename_i x
    obtain ⟨h1, rfl, rfl, rfl⟩ := okv_inv h
    cases ha with
    | cons _ vx _ _ hx ha' =>
      cases ha'
      obtain ⟨r, hr1, hr2⟩ := lenE_sound (w := w) (ty := ty) hx h1
      rw [ets] at hr2
      exact .pure c hr1 (by simp [builtin, hr2])
  · rename_i x
    obtain ⟨h1, rfl, rfl, rfl⟩ := okv_inv h
    cases ha with
    | cons _ vx _ _ hx ha' =>
      cases ha'
      obtain ⟨r, hr1, hr2⟩ := capE_sound (w := w) (ty := ty) hx h1
      rw [ets] at hr2
      exact .pure c hr1 (by simp [builtin, hr2])
  · rename_i s x
    cases ha with
    | cons _ vs1 _ _ hs ha' =>
      cases ha' with
      | cons _ vx _ _ hx ha'' =>
        cases ha''
        refine (appendE_sound (ty := ty) c hs hx h).mono fun r w' hr => ?_
        rw [ets] at hr
        simp [builtin, hr]
  · exact (op_min (P := P) (ts := ts) (ty := ty) c ha h).mono fun r w' hr => by simp [builtin, hr]
  · exact (op_max (P := P) (ts := ts) (ty := ty) c ha h).mono fun r w' hr => by simp [builtin, hr]
  · rename_i x
    cases ha with
    | cons _ vx _ _ hx ha' =>
      cases ha'
      refine (clearE_sound (ty := ty) c hx h).mono fun r w' hr => ?_
      rw [ets] at hr
      simp [builtin, hr]
  · rename_i d s
    cases ha with
    | cons _ vd _ _ hd ha' =>
      cases ha' with
      | cons _ vs1 _ _ hs ha'' =>
        cases ha''
        refine (copyE_sound (ty := ty) c hd hs h).mono fun r w' hr => ?_
        rw [ets] at hr
        simp [builtin, hr]
  · cases h

theorem op_call (c : Ctx base H n ρ L w) (ht : TR ρ L nt T tmps) (hcall : CallS P call) {q : Call} (ho : o.op = .call q) (h : opE P call T H n o.op = .ok v H' n') :
    After base H n ρ L w v H' n' (OpDone P tmps o w cfr ccs) := by
  rw [ho] at h
  simp only [opE_eq, opX, callE] at h
  rw [sel_eq] at h
  split at h
  · rename_i hnb
    have ha := evs_sound ht q.args.toList hnb
    have hargs : (q.args.map (evT tmps)) = (q.args.toList.map (evT tmps)).toArray := by apply Array.ext'; simp
    split at h
    · rename_i b hcal
      refine (builtinE_sound (ty := o.type) (consts := q.args.map fun | .const _ => true | _ => false) c ha h).mono fun x w' hx => ?_
      refine .value ?_
      rw [← hargs] at hx
      simp only [execOp, ho, resolve, hcal, invoke]
      exact hx
    · rename_i f hcal
      rw [sel_beq] at h
      split at h
      · cases h
      · rename_i hf
        have hfv := ev_sound ht f hf
        have ha' : AR ρ L (evs T q.args.toList) (q.args.map (evT tmps)).toList := by rw [hargs]; exact ha
        refine (hcall _ _ _ _ _ _ _ _ _ _ _ _ _ cfr ccs c hfv ha' h).mono fun x w' hx => ?_
        have e : execOp (evT tmps) o = (do let d ← Deferred.ofValue (evT tmps f) (q.args.map (evT tmps)); invoke d.target d.args) := by
          simp only [execOp, ho, resolve, hcal]
        show Does P (execOp (evT tmps) o) w x w' cfr ccs
        rw [e]; exact hx
    · cases h
  · cases h

/-- One operation. -/
theorem opE_sound (c : Ctx base H n ρ L w) (ht : TR ρ L nt T tmps) (hcall : CallS P call) (h : opE P call T H n o.op = .ok v H' n') : After base H n ρ L w v H' n' (OpDone P tmps o w cfr ccs) := by
  cases hop : o.op with
  | move x => rw [hop] at h; exact (op_move c ht (.inl hop) h).after c
  | assign x => rw [hop] at h; exact (op_move c ht (.inr hop) h).after c
  | pick q a b => exact (op_pick c ht hop h).after c
  | alloc t => exact op_alloc c hop h
  | box t x => exact op_box c ht hop h
  | buildSlice t len ps => exact op_buildSlice c ht hop h
  | load t a => exact (op_load c ht hop h).after c
  | store t a x => exact op_store c ht hop h
  | binOp op t x y yt => exact (op_bin c ht hop h).after c
  | unOp op t x => exact (op_un c ht hop h).after c
  | makeFunc fn first cap =>
    cases fn with
    | func f => exact (op_makeFunc c ht hop h).after c
    | _ => rw [hop] at h; cases h
  | makeSlice t l q => exact op_makeSlice c ht hop h
  | slice t x lo hi mx => exact (op_slice c ht hop h).after c
  | indexAddr t x i => exact (op_indexAddr c ht hop h).after c
  | extract x i => exact (op_extract c ht hop h).after c
  | call q => exact op_call c ht hcall hop h
  | convert s t x => exact (op_convert c ht hop h).after c
  | build t ps => exact (op_build c ht hop h).after c
  | field t x i => exact (op_field c ht hop h).after c
  | index t x i => exact (op_index c ht hop h).after c
  | fieldAddr t x i => exact (op_fieldAddr c ht hop h).after c
  | lookup t x i ok => exact (op_lookup c ht hop h).after c
  | mapUpdate t x i y => exact op_mapUpdate c ht hop h
  | makeMap t r => exact op_makeMap c ht hop h
  | _ => rw [hop] at h; cases h
end
end Go.Eng
