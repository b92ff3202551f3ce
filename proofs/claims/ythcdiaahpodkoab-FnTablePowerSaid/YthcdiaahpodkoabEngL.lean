/- append: the evaluator's words. -/
import Derived.Test.YthcdiaahpodkoabEngK
namespace Go.Eng
set_option linter.unusedSectionVars false
set_option linter.unusedSimpArgs false
set_option linter.unusedVariables false
open Go Go.RowKit
variable [E : Env]

theorem splice_get (cur : Array Value) (news : List Value) (A : Nat) (h : A + news.length ≤ cur.size) (j : Nat) :
    ((cur.toList.take A ++ news ++ cur.toList.drop (A + news.length)).toArray)[j]? = if j < A then cur[j]? else if j < A + news.length then news[j - A]? else cur[j]? := by
  have hl : (cur.toList.take A).length = A := by simp; omega
  simp only [List.getElem?_toArray, List.append_assoc]
  by_cases h1 : j < A
  · rw [if_pos h1, List.getElem?_append_left (by omega), List.getElem?_take_of_lt h1]; simp
  · rw [if_neg h1, List.getElem?_append_right (by omega), hl]
    by_cases h2 : j < A + news.length
    · rw [if_pos h2, List.getElem?_append_left (by omega)]
    · rw [if_neg h2, List.getElem?_append_right (by omega), List.getElem?_drop]
      rw [show A + news.length + (j - A - news.length) = j from by omega]; simp
theorem splice_size (cur : Array Value) (news : List Value) (A : Nat) (h : A + news.length ≤ cur.size) :
    (cur.toList.take A ++ news ++ cur.toList.drop (A + news.length)).toArray.size = cur.size := by simp; omega

section
variable {base : Nat} {H H' : Trie} {n n' nt T v : Nat} {ρ : Rho} {L : Look} {w : World} {P : Program} {tmps : Array Value} {o : Oper} {call : Nat → List Nat → Trie → Nat → OR} {cfr : Frame} {ccs : List Frame}

/-- The words of two lists, one behind the other. -/
theorem cat_words {olds news : List Value} {co new : Nat} (ho : ∀ j u, olds[j]? = some u → VR ρ L (getW co j) u ∧ storable (getW co j) = true) (hco : co < 2 ^ (128 * olds.length))
    (hn : ∀ j u, news[j]? = some u → VR ρ L (getW new j) u ∧ storable (getW new j) = true) {lo : Nat} (hlo : olds.length = lo) :
    ∀ i, i < lo + news.length → ∃ u, (olds ++ news)[i]? = some u ∧ VR ρ L (getW (cat co lo new) i) u ∧ storable (getW (cat co lo new) i) = true := by
  subst hlo
  intro i hi
  by_cases h : i < olds.length
  · have hu : olds[i]? = some olds[i] := by simp [h]
    rw [getW_cat_lt _ _ _ _ h]
    exact ⟨_, by rw [List.getElem?_append_left h]; exact hu, ho i _ hu⟩
  · have hu : news[i - olds.length]? = some news[i - olds.length] := by
      rw [List.getElem?_eq_getElem (by omega)]
    have e : getW (cat co olds.length new) i = getW new (i - olds.length) := by
      have := getW_cat_ge co olds.length new (i - olds.length) hco
      rw [show olds.length + (i - olds.length) = i from by omega] at this; exact this
    rw [e]
    exact ⟨_, by rw [List.getElem?_append_right (by omega)]; exact hu, hn _ _ hu⟩

theorem tget_dec (H : Trie) (b : Nat) : tget H b = none ∨ ∃ k, tget H b = some k := by cases tget H b <;> simp

/-- A row that has grown into a new block. -/
theorem grown_row {z : Value} {i : TypeInfo} (hzs : z.cells.size = i.size) {olds news : List Value} {need cap : Nat} (hl : olds.length + news.length = need * i.size) (hc : need ≤ cap) :
    (olds.toArray ++ (news.toArray ++ Builtin.zeroCells z.cells (cap - need))).size = cap * i.size ∧
    ∀ (j : Nat) (u : Value), (olds ++ news)[j]? = some u → (olds.toArray ++ (news.toArray ++ Builtin.zeroCells z.cells (cap - need)))[j]? = some u := by
  constructor
  · simp only [Array.size_append, List.size_toArray, size_zeroCells, hzs]
    have : (cap - need) * i.size + need * i.size = cap * i.size := by rw [← Nat.add_mul]; congr 1; omega
    omega
  · intro j u hj
    have hlt : j < (olds ++ news).length := by
      rcases Nat.lt_or_ge j (olds ++ news).length with h | h
      · exact h
      · rw [List.getElem?_eq_none h] at hj; cases hj
    rw [← Array.append_assoc, Array.getElem?_append, if_pos (by simpa using hlt)]
    simpa using hj

theorem grownCap_lt (w : World) (need old : Nat) (e : TypeId) (h : need < 1048576) : grownCap w need old e < 9223372036854775808 := by
  have := grownCap_le_maxLen w need old e (by unfold maxLen; omega)
  unfold maxLen at this; omega

theorem appE_sound (c : Ctx base H n ρ L w) {t tx ty e : TypeId} {i : TypeInfo} {z : Value} (ht : P.underlying t = some (.slice e)) (hi : P.info? e = some i) (hz : i.zero = some z)
    (hzs : z.cells.size = i.size) (hb0 : 0 < i.bytes) (hb1 : i.bytes ≤ 1024) {s : Nat} {sv : Value} (hs : VR ρ L s sv) (h4 : tagOf s = 4) {xv : Value} {m : Nat} {news : List Value} {new : Nat}
    (src : SrcOk P tx i z w xv m news) (hm : 0 < m) (hnl : news.length = m * i.size) (hw : ∀ j u, news[j]? = some u → VR ρ L (getW new j) u ∧ storable (getW new j) = true)
    (hlt : new < 2 ^ (128 * (m * i.size))) (h : appE H n i.size s m new = .ok v H' n') :
    After base H n ρ L w v H' n' (fun x w' => (Builtin.append_ #[t, tx] ty #[sv, xv]).run P w = .ok x w') := by
  have hone : ∀ u ∈ news, u.oneCell' = true := by
    intro u hu
    obtain ⟨j, hj, rfl⟩ := List.getElem_of_mem hu
    have := hw j _ (List.getElem?_eq_getElem hj)
    exact (this.1.cell this.2).2
  unfold appE at h
  simp only at h
  rw [sel_eq] at h
  split at h
  · rename_i hsz
    rw [sel_ltb] at hsz
    split at hsz
    · rename_i h256
      have hsm0 := (ltb_iff _ _).1 hsz
      have hsm : sLen (payOf s) + m < 1048576 ∧ (sLen (payOf s) + m) * i.size < 1048576 := by
        have e1 : (sLen (payOf s) + m) * (i.size + 1) < 1048576 := hsm0
        rw [Nat.mul_add, Nat.mul_one] at e1
        omega
      rcases hs.slice_inv h4 with ⟨rfl, rfl⟩ | ⟨b, es, off, len, k, rb, d, sz, cp, a, hb, he, hof, hmn, hk, hmc, hcb, hk1, hcp, rfl, rfl⟩
      · -- nil
        obtain ⟨_, q1, q2, q3, q4, q5⟩ := s_nil
        rw [q1] at hsm
        rw [q5, sel_beq, if_pos rfl] at h
        obtain ⟨hn, hkk, hmk⟩ := fresh_sound c h (by simp)
        injection hkk with h1 h2 h3
        subst h1; subst h2; subst h3
        have hrun := run_app_nil (ty := ty) ht hi hz src hm (by omega) hb0 hb1
        have hge := grownCap_ge w m 0 e
        obtain ⟨g1, g2⟩ := grown_row (z := z) hzs (olds := []) (news := news) (need := m) (cap := grownCap w m 0 e) (by simpa using hnl) hge
        simp only [List.nil_append] at g2
        have hemp : (([] : List Value).toArray ++ (news.toArray ++ Builtin.zeroCells z.cells (grownCap w m 0 e - m))) = news.toArray ++ Builtin.zeroCells z.cells (grownCap w m 0 e - m) := by simp
        rw [hemp] at g1 g2
        have hle : m * i.size ≤ (news.toArray ++ Builtin.zeroCells z.cells (grownCap w m 0 e - m)).size := by rw [g1]; exact Nat.mul_le_mul_right _ hge
        obtain ⟨c', e', hb', hl'⟩ := hmk (w.drew.alloc (.cells (news.toArray ++ Builtin.zeroCells z.cells (grownCap w m 0 e - m)) e)) _ e rfl rfl rfl rfl hle (fun j hj => by
          have hu : news[j]? = some (news[j]'(by rw [hnl]; exact hj)) := by simp
          exact ⟨_, g2 j _ hu, hw j _ hu⟩)
        refine ⟨_, _, _, _, c', e', hb', hl', Nat.le_succ _, ?_, hrun⟩
        exact vr_slice_new (updR_same _ _ _) h256 (by omega) (by omega) hge (grownCap_lt w m 0 e (by omega)) (.inl rfl) (by omega)
      · -- a row
        obtain ⟨_, q1, q2, q3, q4, q5⟩ := s_parts b es off len k he hof hmn hk
        rw [q1] at hsm
        rw [q1, q2, q3, q4, q5, sel_beq, if_neg (by omega), Nat.pred_succ] at h
        split at h
        · rename_i nb cb g keep since maxl hget
          rw [sel_eq] at h
          split at h
          · rename_i hval0
            rw [sel_beq] at hval0
            split at hval0
            · rename_i hes
              subst hes
              have hL := c.agree.2 _ _ hget
              have hl := validE_iff c.agree hL hval0
              have hgL : grp L b = g := grp_of hL
              obtain ⟨kk, hkk, hbr⟩ := c.sim.blk b _ hb
              rw [hL] at hkk; injection hkk with hkk; subst hkk
              obtain ⟨cs, cty, fz, r1, r2, r3, r4, r5⟩ := hbr hl
              dsimp only at r1 r2 r3 r5
              rw [sel_ble] at h
              split at h
              · rename_i hin
                have hin' : off + len * i.size ≤ nb := hin
                -- the elements that are there
                obtain ⟨olds, ro⟩ := row_of (w := w) r1 r5 hin'
                have holds : ∀ j u, olds[j]? = some u → w.cell? (a.add j) = some u := by
                  intro j u hj
                  rcases hcp with h0 | ⟨h0, _⟩
                  · have : len = 0 := by omega
                    subst this
                    have := ro.len
                    rw [Nat.zero_mul] at this
                    rw [List.eq_nil_of_length_eq_zero this] at hj; simp at hj
                  · rw [h0]; exact ro.cell j u hj
                have hcat : ∀ j, j < (len + m) * i.size → ∃ u, (olds ++ news)[j]? = some u ∧ VR ρ L (getW (cat (chunk cb off (len * i.size)) (len * i.size) new) j) u ∧
                    storable (getW (cat (chunk cb off (len * i.size)) (len * i.size) new) j) = true := fun j hj =>
                  cat_words ro.word (by rw [ro.len]; exact chunk_lt _ _ _) hw ro.len j (by rw [hnl, ← Nat.add_mul]; exact hj)
                have hlen2 : olds.length + news.length = (len + m) * i.size := by rw [ro.len, hnl, ← Nat.add_mul]
                -- it grows
                have grow : cp < len + m → (Builtin.append_ #[t, tx] ty #[.slice (some a) len cp, xv]).run P w =
                    .ok (.slice (some ⟨w.heap.size, 0, none⟩) (len + m) (grownCap w (len + m) cp e))
                      (w.drew.alloc (.cells (olds.toArray ++ (news.toArray ++ Builtin.zeroCells z.cells (grownCap w (len + m) cp e - (len + m)))) e)) :=
                  fun hgr => run_app_grow ht hi hz src ro.len holds hm hgr (by omega) hb0 hb1
                have hge := grownCap_ge w (len + m) cp e
                obtain ⟨g1, g2⟩ := grown_row (z := z) hzs (olds := olds) (news := news) (need := len + m) (cap := grownCap w (len + m) cp e) hlen2 hge
                have hleg : (len + m) * i.size ≤ (olds.toArray ++ (news.toArray ++ Builtin.zeroCells z.cells (grownCap w (len + m) cp e - (len + m)))).size := by
                  rw [g1]; exact Nat.mul_le_mul_right _ hge
                rw [sel_beq] at h
                split at h
                · -- the capacity is not known
                  rw [sel_beq] at h
                  split at h
                  · cases h
                  · rename_i hg
                    rw [sel_ltb] at h
                    split at h
                    · rename_i hn
                      -- the leader
                      obtain ⟨nl, cl, gl, kl, sl, ml, hLl, hbr2, hget2⟩ : ∃ nl cl gl kl sl ml, L (g - 1) = some (.cells nl cl gl kl sl ml) ∧
                          (sel (sel (Nat.beq off 0) (Nat.ble ml (len * i.size)) false)
                            (OR.ok (wS n i.size 0 (len + m) 0) (hset (hset H n (.cells ((len + m) * i.size) (cat (chunk cb off (len * i.size)) (len * i.size) new) g 0 0 0)) (g - 1) (.cells nl cl gl kl sl ((len + m) * i.size))) (n + 1))
                            (OR.ok (wS n i.size 0 (len + m) 0) (hset (hset H n (.cells ((len + m) * i.size) (cat (chunk cb off (len * i.size)) (len * i.size) new) g 0 0 0)) (g - 1) (.cells nl cl gl n (n + 1) ((len + m) * i.size))) (n + 1)) = OR.ok v H' n') ∧
                          tget H (g - 1) = some (.cells nl cl gl kl sl ml) := by
                        split at h
                        · rename_i nl cl gl kl sl ml hq
                          rw [sel_beq] at hq
                          split at hq
                          · rename_i hgb
                            have hgb' : g - 1 = b := hgb
                            injection hq with hq; injection hq with e1 e2 e3 e4 e5 e6
                            subst e1; subst e2; subst e3; subst e4; subst e5; subst e6
                            exact ⟨_, _, _, _, _, _, by rw [hgb']; exact hL, h, by rw [hgb']; exact hget⟩
                          · exact ⟨_, _, _, _, _, _, c.agree.2 _ _ hq, h, hq⟩
                        · cases h
                      have hl1 := c.agree.lt hget2
                      have hne : g - 1 ≠ n := by have := c.fresh.ltL hLl; omega
                      have hil : Eng.info L (g - 1) = (kl, sl, ml) := by simp [Eng.info, hLl]
                      obtain ⟨⟨ql, hql⟩, _⟩ := c.sim.ld b _ hb (by rw [hgL]; exact hg)
                      rw [hgL] at hql
                      -- the new member, whatever the leader says
                      have member : ∀ K S : Nat, (∀ j p, ρ j = some p → grp L j = g → (K = j ∨ S ≤ j) → off = 0 ∧ ml ≤ len * i.size ∧ live L j) →
                          v = wS n i.size 0 (len + m) 0 → H' = hset (hset H n (.cells ((len + m) * i.size) (cat (chunk cb off (len * i.size)) (len * i.size) new) g 0 0 0)) (g - 1) (.cells nl cl gl K S ((len + m) * i.size)) → n' = n + 1 →
                          After base H n ρ L w v H' n' (fun x w' => (Builtin.append_ #[t, tx] ty #[.slice (some a) len cp, xv]).run P w = .ok x w') := by
                        intro K S hKS ev eH en
                        subst ev; subst eH; subst en
                        -- the look
                        have hR : Relab L (upd L (g - 1) (.cells nl cl gl K S ((len + m) * i.size))) b (g - 1) g nb cb K S ((len + m) * i.size) := by
                          refine ⟨?_, by simp [Eng.info, upd_same], fun j hj => ?_⟩
                          · by_cases hgb : b = g - 1
                            · rw [hgb, hLl] at hL; injection hL with hL; injection hL with e1 e2 e3
                              subst e1; subst e2; subst e3
                              exact ⟨_, _, _, by rw [hgb]; exact upd_same _ _ _⟩
                            · exact ⟨_, _, _, by rw [upd_ne _ _ hgb]; exact hL⟩
                          · by_cases hjl : j = g - 1
                            · subst hjl; exact .inr ⟨rfl, _, _, _, _, _, _, _, _, _, hLl, upd_same _ _ _⟩
                            · exact .inl (upd_ne _ _ hjl)
                        have hf1 : Fresh n ρ (upd L (g - 1) (.cells nl cl gl K S ((len + m) * i.size))) := hR.fresh hL c.fresh
                        have hag : Agree (hset (hset H n (.cells ((len + m) * i.size) (cat (chunk cb off (len * i.size)) (len * i.size) new) g 0 0 0)) (g - 1) (.cells nl cl gl K S ((len + m) * i.size)))
                            (upd (upd L (g - 1) (.cells nl cl gl K S ((len + m) * i.size))) n (.cells ((len + m) * i.size) (cat (chunk cb off (len * i.size)) (len * i.size) new) g 0 0 0)) := by
                          have h1 := (c.agree.hset hn (.cells ((len + m) * i.size) (cat (chunk cb off (len * i.size)) (len * i.size) new) g 0 0 0)).hset hl1 (.cells nl cl gl K S ((len + m) * i.size))
                          refine ⟨h1.1, fun j kk hj => ?_⟩
                          rw [← h1.2 j kk hj]
                          unfold upd
                          by_cases e1 : j = n
                          · have : j ≠ g - 1 := by omega
                            simp [e1, Ne.symm hne]
                          · by_cases e2 : j = g - 1 <;> simp [e1, e2, hne]
                        have hloc : ∀ q, Loc H n ρ L (updR ρ n q) (upd (upd L (g - 1) (.cells nl cl gl K S ((len + m) * i.size))) n (.cells ((len + m) * i.size) (cat (chunk cb off (len * i.size)) (len * i.size) new) g 0 0 0)) := by
                          intro q
                          refine ⟨fun j hj hjn => ⟨?_, by rw [updR_ne _ _ (by omega)]; exact hjn⟩⟩
                          · rw [upd_ne _ _ (by omega), upd_ne _ _ (fun hh => by subst hh; rw [hql] at hjn; cases hjn)]
                        by_cases hroom : len + m ≤ cp
                        · -- in place
                          obtain ⟨ha, hfit⟩ := hcp.resolve_left (by omega)
                          subst ha
                          have r4' := r4 hg
                          subst r4'
                          have hfitm : off + (len + m) * i.size ≤ sz := by
                            have : (len + m) * i.size ≤ cp * i.size := Nat.mul_le_mul_right _ hroom
                            omega
                          have hsplit : len * i.size + m * i.size = (len + m) * i.size := by rw [← Nat.add_mul]
                          have hA : d + off + len * i.size + news.length ≤ cs.size := by
                            rw [hnl]
                            omega
                          have hrun := run_app_room (ty := ty) ht hi hz src r1 hone hm hroom hA (by omega) hb1
                          have hheap := setRow_heap w rb cs ((cs.toList.take (d + off + len * i.size) ++ news ++ cs.toList.drop (d + off + len * i.size + news.length)).toArray) cty (0, 0) r1
                          have hgets := splice_get cs news (d + off + len * i.size) hA
                          have hss := splice_size cs news (d + off + len * i.size) hA
                          generalize hrow : (cs.toList.take (d + off + len * i.size) ++ news ++ cs.toList.drop (d + off + len * i.size + news.length)).toArray = row at *
                          have hbase : base ≤ rb := c.sim.rw b _ hb (by rw [hgL]; exact hg)
                          have hsim := c.sim.member (w' := w.setRow rb row) (q := (rb, d + off, sz - off)) (n' := (len + m) * i.size) (c' := cat (chunk cb off (len * i.size)) (len * i.size) new) c.fresh hb hl hL hg hR
                            (fun x _ hx => setRow_other w rb x row hx) (by simp [World.setRow]) (by have := c.sim.bnd b _ hb; simpa [World.setRow] using this) (.inl rfl) (Nat.le_refl _)
                            (fun j p hj hgj hKj => by
                              obtain ⟨hoff, hml, hlj⟩ := hKS j p hj hgj hKj
                              subst hoff
                              refine ⟨hlj, fun kk hkk hbrk => ?_, fun hpp => ?_, fun nn cc kk ss mm hLj => ?_⟩
                              · by_cases hp : p.1 = rb
                                · cases kk with
                                  | cells nj cj gj kj sj mj =>
                                    obtain ⟨cs2, ty2, fz2, w1, w2, w3, w4, w5⟩ := hbrk
                                    rw [hp, r1] at w1; injection w1 with w1; injection w1 with x1 x2 x3
                                    subst x1; subst x2; subst x3
                                    have hgj' : gj = g := by rw [← grp_of hkk]; exact hgj
                                    have hnj : nj ≤ ml := by
                                      have := c.sim.mx j p nj cj gj kj sj mj hj hlj hkk (by rw [hgj']; exact hg)
                                      rw [hgj', hil] at this; exact this
                                    have hd : p.2.1 = d := by
                                      have := c.sim.same j b p _ hj hb hlj hl (by rw [hgj]; exact hg) (by rw [hgj, hgL]) hp
                                      exact this
                                    refine ⟨row, cty, (0, 0), by rw [hp]; exact hheap, by rw [hss]; exact w2, w3, w4, fun x hx => ?_⟩
                                    obtain ⟨u, y1, y2⟩ := w5 x hx
                                    refine ⟨u, ?_, y2⟩
                                    rw [hgets, if_pos (by rw [hd]; omega)]; exact y1
                                  | loop => obtain ⟨lp, w1, _⟩ := hbrk; rw [hp, r1] at w1; cases w1
                                  | defr => have w1 := hbrk; simp only [BR] at w1; rw [hp, r1] at w1; cases w1
                                  | gone => exact trivial
                                  | opq jj ro =>
                                    exfalso
                                    simp only [Eng.grp, hkk] at hgj
                                    split at hgj
                                    · have hjg : g - 1 = j := by omega
                                      rw [hjg, hkk] at hLl; cases hLl
                                    · exact hg hgj.symm
                                  | box => exact hbrk.elim
                                  | poly => exact hbrk.elim
                                  | mp => obtain ⟨ents, clock, w1, _⟩ := hbrk; rw [hp, r1] at w1; cases w1
                                · exact hbrk.mono (Ext.refl _ _) (setRow_other w rb _ row hp)
                              · have := c.sim.same j b p _ hj hb hlj hl (by rw [hgj]; exact hg) (by rw [hgj, hgL]) hpp
                                simpa using this
                              · have := c.sim.mx j p nn cc g kk ss mm hj hlj hLj hg
                                rw [hil] at this
                                simp only at this
                                have e2 : len * i.size ≤ (len + m) * i.size := Nat.mul_le_mul_right _ (by omega)
                                omega)
                            ⟨row, cty, (0, 0), hheap, by rw [hss]; simp only; omega, by simp only; omega, fun _ => rfl, fun x hx => by
                              obtain ⟨u, y1, y2, y3⟩ := hcat x hx
                              refine ⟨u, ?_, y2.mono ((hR.ext hL ρ).trans (.fresh hf1 _ _)), y3⟩
                              simp only
                              rw [hgets]
                              by_cases hxl : x < len * i.size
                              · rw [if_pos (by omega)]
                                rw [List.getElem?_append_left (by rw [ro.len]; exact hxl)] at y1
                                have := ro.cell x u y1
                                rw [addr_add, cell_of_heap r1] at this
                                exact this
                              · rw [if_neg (by omega), if_pos (by rw [hnl]; omega)]
                                rw [List.getElem?_append_right (by rw [ro.len]; omega), ro.len] at y1
                                rw [show d + off + x - (d + off + len * i.size) = x - len * i.size from by omega]; exact y1⟩
                          refine ⟨_, _, _, _, ⟨hsim, hag, hf1.upd _ _⟩, (hR.ext hL ρ).trans (.fresh hf1 _ _), ?_, hloc _, Nat.le_succ _, ?_, hrun⟩
                          · exact ⟨rfl, rfl, rfl, by simp [World.setRow], fun x hx => setRow_other w rb x row (by omega)⟩
                          · exact .slice n i.size 0 (len + m) 0 rb (d + off) (sz - off) cp ⟨rb, d + off, none⟩ (updR_same _ _ _) h256 (by omega) (by omega) (by omega) hroom hcb (.inl rfl) (.inr ⟨by simp, by omega⟩)
                        · -- it moves
                          have hrun := grow (by omega)
                          generalize hrow : (olds.toArray ++ (news.toArray ++ Builtin.zeroCells z.cells (grownCap w (len + m) cp e - (len + m)))) = row at *
                          have hsim := c.sim.member (w' := w.drew.alloc (.cells row e)) (q := (w.heap.size, 0, grownCap w (len + m) cp e * i.size)) (n' := (len + m) * i.size) (c' := cat (chunk cb off (len * i.size)) (len * i.size) new) c.fresh hb hl hL hg hR
                            (fun x hx _ => heap_alloc_old w.drew _ x hx) (by simp) (by simp) (.inr (Nat.le_refl _)) (Nat.le_refl _)
                            (fun j p hj hgj hKj => by
                              obtain ⟨hoff, hml, hlj⟩ := hKS j p hj hgj hKj
                              have hp := c.sim.bnd j p hj
                              refine ⟨hlj, fun kk _ hbrk => hbrk.mono (Ext.refl _ _) (heap_alloc_old w.drew _ _ hp), fun hpp => by simp only at hpp; omega, fun nn cc kk ss mm hLj => ?_⟩
                              have := c.sim.mx j p nn cc g kk ss mm hj hlj hLj hg
                              rw [hil] at this
                              simp only at this
                              have e2 : len * i.size ≤ (len + m) * i.size := Nat.mul_le_mul_right _ (by omega)
                              omega)
                            ⟨row, e, (0, 0), heap_alloc_new w.drew _, by simp only; omega, by simp only; omega, fun _ => rfl, fun x hx => by
                              obtain ⟨u, y1, y2, y3⟩ := hcat x hx
                              exact ⟨u, by simp only [Nat.zero_add]; exact g2 x u y1, y2.mono ((hR.ext hL ρ).trans (.fresh hf1 _ _)), y3⟩⟩
                          refine ⟨_, _, _, _, ⟨hsim, hag, hf1.upd _ _⟩, (hR.ext hL ρ).trans (.fresh hf1 _ _), ?_, hloc _, Nat.le_succ _, ?_, hrun⟩
                          · exact ((Below.refl _ _).drew).alloc (by have := c.sim.bs; simpa using this) _
                          · exact vr_slice_new (updR_same _ _ _) h256 (by omega) (by omega) hge (grownCap_lt w _ _ e (by omega)) (.inl rfl) (Nat.le_refl _)
                      rw [sel_eq] at hbr2
                      split at hbr2
                      · rename_i hcase
                        rw [sel_beq] at hcase
                        split at hcase
                        · rename_i hoff
                          have hml := Nat.le_of_ble_eq_true hcase
                          injection hbr2 with e1 e2 e3
                          exact member kl sl (fun j p hj hgj hKj => ⟨hoff, hml, by right; rw [hgj, hil]; exact hKj⟩) e1.symm e2.symm e3.symm
                        · cases hcase
                      · injection hbr2 with e1 e2 e3
                        exact member n (n + 1) (fun j p hj hgj hKj => by have := c.fresh.lt hj; omega) e1.symm e2.symm e3.symm
                    · cases h
                · rename_i hk0
                  have hkc : k = cp + 1 := hk1.resolve_left hk0
                  rw [sel_ltb] at h
                  split at h
                  · -- it fits
                    rename_i hfits
                    have hroom : len + m ≤ cp := by have : len + m < k := hfits; omega
                    rw [sel_beq] at h
                    split at h
                    · cases h
                    · rename_i hg
                      obtain ⟨ha, hfit⟩ := hcp.resolve_left (by omega)
                      subst ha
                      have r4' := r4 hg
                      subst r4'
                      have hfitm : off + (len + m) * i.size ≤ sz := by
                        have : (len + m) * i.size ≤ cp * i.size := Nat.mul_le_mul_right _ hroom
                        omega
                      have hsplit : len * i.size + m * i.size = (len + m) * i.size := by rw [← Nat.add_mul]
                      have hA : d + off + len * i.size + news.length ≤ cs.size := by rw [hnl]; omega
                      have hrun := run_app_room (ty := ty) ht hi hz src r1 hone hm hroom hA (by omega) hb1
                      have hheap := setRow_heap w rb cs ((cs.toList.take (d + off + len * i.size) ++ news ++ cs.toList.drop (d + off + len * i.size + news.length)).toArray) cty (0, 0) r1
                      have hgets := splice_get cs news (d + off + len * i.size) hA
                      have hss := splice_size cs news (d + off + len * i.size) hA
                      generalize hrow : (cs.toList.take (d + off + len * i.size) ++ news ++ cs.toList.drop (d + off + len * i.size + news.length)).toArray = row at *
                      obtain ⟨H1, L1, hk', hag, hR, hloc⟩ := own_sound c hget hg hl ⟨_, hb⟩ h (by simp)
                      injection hk' with e1 e2 e3
                      subst e1; subst e2; subst e3
                      have hbase : base ≤ rb := c.sim.rw b _ hb (by rw [hgL]; exact hg)
                      have eE : Nat.add off (Nat.mul (Nat.add len m) i.size) = off + (len + m) * i.size := rfl
                      have eA : Nat.add off (Nat.mul len i.size) = off + len * i.size := rfl
                      rw [eE, eA, sel_ble] at hR
                      have hs' := c.sim.own (w' := w.setRow rb row) c.fresh hb hl hL hg hR (fun x hx => setRow_other w rb x row hx) (by simp [World.setRow]) hheap (by rw [hss]; exact r2)
                        (by split <;> omega) (fun x hx => by
                          show ∃ v, row[d + x]? = some v ∧ _
                          rw [hgets]
                          by_cases hx1 : x < off + len * i.size
                          · rw [if_pos (by omega), getW_cat_lt _ _ _ _ (by omega), getW_cat_lt _ _ _ _ hx1, getW_chunk _ _ _ _ hx1, Nat.zero_add]
                            exact r5 x (by omega)
                          · rw [if_neg (by omega)]
                            by_cases hx2 : x < off + (len + m) * i.size
                            · rw [if_pos (by rw [hnl]; omega), getW_cat_lt _ _ _ _ hx2]
                              have hxx : x = off + len * i.size + (x - (off + len * i.size)) := by omega
                              have hg3 := getW_cat_ge (chunk cb 0 (off + len * i.size)) (off + len * i.size) new (x - (off + len * i.size)) (chunk_lt _ _ _)
                              rw [← hxx] at hg3
                              rw [hg3]
                              have hu : news[x - (off + len * i.size)]? = some (news[x - (off + len * i.size)]'(by rw [hnl]; omega)) := by rw [List.getElem?_eq_getElem]
                              rw [show d + x - (d + off + len * i.size) = x - (off + len * i.size) from by omega]
                              exact ⟨_, hu, hw _ _ hu⟩
                            · rw [if_neg (by rw [hnl]; omega)]
                              have hxn : x < nb := by split at hx <;> omega
                              have hxx : x = off + (len + m) * i.size + (x - (off + (len + m) * i.size)) := by omega
                              have hg3 := getW_cat_ge (cat (chunk cb 0 (off + len * i.size)) (off + len * i.size) new) (off + (len + m) * i.size) (chunk cb (off + (len + m) * i.size) (nb - (off + (len + m) * i.size))) (x - (off + (len + m) * i.size)) (by
                                have := cat_lt (chunk cb 0 (off + len * i.size)) (off + len * i.size) new (m * i.size) (chunk_lt _ _ _) hlt
                                rw [show off + len * i.size + m * i.size = off + (len + m) * i.size from by omega] at this
                                exact this)
                              rw [← hxx] at hg3
                              have hg4 := getW_chunk cb (off + (len + m) * i.size) (nb - (off + (len + m) * i.size)) (x - (off + (len + m) * i.size)) (by omega)
                              rw [← hxx] at hg4
                              have hg5 : getW (cat (cat (chunk cb 0 (off + len * i.size)) (off + len * i.size) new) (off + (len + m) * i.size) (chunk cb (off + (len + m) * i.size) (Nat.sub nb (off + (len + m) * i.size)))) x = getW cb x := hg3.trans hg4
                              rw [hg5]
                              exact r5 x hxn)
                      refine ⟨ρ, L1, _, _, ⟨hs', hag, hR.fresh hL c.fresh⟩, hR.ext hL ρ, ?_, hloc, Nat.le_refl _, ?_, hrun⟩
                      · exact ⟨rfl, rfl, rfl, by simp [World.setRow], fun x hx => setRow_other w rb x row (by omega)⟩
                      · exact .slice b i.size off (len + m) k rb d sz cp _ hb h256 hof (by omega) hk hroom hcb hk1 (.inr ⟨rfl, hfit⟩)
                  · -- it grows
                    rename_i hfits
                    have hgr : cp < len + m := by have : ¬ (len + m < k) := hfits; omega
                    have hrun := grow hgr
                    obtain ⟨hn, hkk, hmk⟩ := fresh_sound c h (by simp)
                    injection hkk with h1 h2 h3
                    subst h1; subst h2; subst h3
                    obtain ⟨c', e', hb', hl'⟩ := hmk (w.drew.alloc (.cells (olds.toArray ++ (news.toArray ++ Builtin.zeroCells z.cells (grownCap w (len + m) cp e - (len + m)))) e)) _ e rfl rfl rfl rfl hleg (fun j hj => by
                      obtain ⟨u, y1, y2⟩ := hcat j hj
                      exact ⟨u, g2 j u y1, y2⟩)
                    refine ⟨_, _, _, _, c', e', hb', hl', Nat.le_succ _, ?_, hrun⟩
                    exact vr_slice_new (updR_same _ _ _) h256 hsm.1 (by omega) hge (grownCap_lt w _ _ e hsm.1) (.inl rfl) (Nat.le_of_eq g1.symm)
              · cases h
            · cases hval0
          · cases h
        · cases h
    · cases hsz
  · cases h
end
end Go.Eng
