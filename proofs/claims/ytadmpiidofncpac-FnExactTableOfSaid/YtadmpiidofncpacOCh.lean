/- Part of the evaluator, in company. -/
import Derived.Test.YtadmpiidofncpacOCg
import Derived.Test.YtadmpiidofncpacOCd
set_option linter.unusedSectionVars false
set_option linter.unusedSimpArgs false
set_option linter.unusedVariables false
namespace Go.Eng
open Go Go.RowKit
variable [E : Env] [Pd : Pad]
theorem z7g (cur : Array Value) (news : List Value) (A : Nat) (h : A + news.length ≤ cur.size) (j : Nat) :
  ((cur.toList.take A ++ news ++ cur.toList.drop (A + news.length)).toArray)[j]? = if j < A then cur[j]? else if j < A + news.length then news[j - A]? else cur[j]? := by
 have hl : (cur.toList.take A).length = A := by simp; omega
 simp only [List.getElem?_toArray, List.append_assoc]
 by_cases h1 : j < A
 ·rw [if_pos h1, List.getElem?_append_left (by omega), List.getElem?_take_of_lt h1]; simp
 ·rw [if_neg h1, List.getElem?_append_right (by omega), hl]
  by_cases h2 : j < A + news.length
  ·rw [if_pos h2, List.getElem?_append_left (by omega)]
  ·rw [if_neg h2, List.getElem?_append_right (by omega), List.getElem?_drop]
   rw [show A + news.length + (j - A - news.length) = j from by omega]; simp
theorem z6e (cur : Array Value) (news : List Value) (A : Nat) (h : A + news.length ≤ cur.size) :
  (cur.toList.take A ++ news ++ cur.toList.drop (A + news.length)).toArray.size = cur.size := by simp; omega
section
variable {base : Nat} {H H' : Trie} {n n' nt T v : Nat} {ρ : Rho} {L : Look} {w : World} {P : Program} {tmps : Array Value} {o : Oper} {call : Nat → List Nat → Trie → Nat → OR} {cfr : Frame} {ccs : List Frame}
theorem zck {olds news : List Value} {co new : Nat} (ho : ∀ j u, olds[j]? = some u → VR ρ L (getW co j) u ∧ storable (getW co j) = true) (hco : co < 2 ^ (128 * olds.length))
  (hn : ∀ j u, news[j]? = some u → VR ρ L (getW new j) u ∧ storable (getW new j) = true) {lo : Nat} (hlo : olds.length = lo) :
  ∀ i, i < lo + news.length → ∃ u, (olds ++ news)[i]? = some u ∧ VR ρ L (getW (cat co lo new) i) u ∧ storable (getW (cat co lo new) i) = true := by
 subst hlo
 intro i hi
 by_cases h : i < olds.length
 ·have hu : olds[i]? = some olds[i] := by simp [h]
  rw [z0G _ _ _ _ h]
  exact ⟨_, by rw [List.getElem?_append_left h]; exact hu, ho i _ hu⟩
 ·have hu : news[i - olds.length]? = some news[i - olds.length] := by
   rw [List.getElem?_eq_getElem (by omega)]
  have e : getW (cat co olds.length new) i = getW new (i - olds.length) := by
   have := z11 co olds.length new (i - olds.length) hco
   rw [show olds.length + (i - olds.length) = i from by omega] at this; exact this
  rw [e]
  exact ⟨_, by rw [List.getElem?_append_right (by omega)]; exact hu, hn _ _ hu⟩
theorem z8K {z : Value} {i : TypeInfo} (hzs : z.cells.size = i.size) {olds news : List Value} {need cap : Nat} (hl : olds.length + news.length = need * i.size) (hc : need ≤ cap) :
  (olds.toArray ++ (news.toArray ++ Builtin.zeroCells z.cells (cap - need))).size = cap * i.size ∧
  ∀ (j : Nat) (u : Value), (olds ++ news)[j]? = some u → (olds.toArray ++ (news.toArray ++ Builtin.zeroCells z.cells (cap - need)))[j]? = some u := by
 constructor
 ·simp only [Array.size_append, List.size_toArray, size_zeroCells, hzs]
  have : (cap - need) * i.size + need * i.size = cap * i.size := by rw [← Nat.add_mul]; congr 1; omega
  omega
 ·intro j u hj
  have hlt : j < (olds ++ news).length := by
   rcases Nat.lt_or_ge j (olds ++ news).length with h | h
   ·exact h
   ·rw [List.getElem?_eq_none h] at hj; cases hj
  rw [← Array.append_assoc, Array.getElem?_append, if_pos (by simpa using hlt)]
  simpa using hj
theorem z4a (w : World) (need old : Nat) (e : TypeId) (h : need < 1048576) : grownCap w need old e < 9223372036854775808 := by
 have := grownCap_le_maxLen w need old e (by unfold maxLen; omega)
 unfold maxLen at this; omega
theorem z7h (c : Ctx base H n ρ L w) {t tx ty e : TypeId} {i : TypeInfo} {z : Value} (ht : P.underlying t = some (.slice e)) (hi : P.info? e = some i) (hz : i.zero = some z)
  (hzs : z.cells.size = i.size) (hb0 : 0 < i.bytes) (hb1 : i.bytes ≤ 1024) {s : Nat} {sv : Value} (hs : VR ρ L s sv) (h4 : tagOf s = 4) {xv : Value} {m : Nat} {news : List Value} {new : Nat}
  (src : SrcOk P tx i z w xv m news) (hm : 0 < m) (hnl : news.length = m * i.size) (hw : ∀ j u, news[j]? = some u → VR ρ L (getW new j) u ∧ storable (getW new j) = true)
  (hlt : new < 2 ^ (128 * (m * i.size))) (h : appE H n i.size s m new = .ok v H' n') :
  After base H n ρ L w v H' n' (fun x w' => (Builtin.append_ #[t, tx] ty #[sv, xv]).run P w = .ok x w') := by
 have hone : ∀ u ∈ news, u.oneCell' = true := by
  intro u hu
  obtain ⟨j, hj, rfl⟩ := List.getElem_of_mem hu
  have := hw j _ (List.getElem?_eq_getElem hj)
  exact (this.1.cell this.2).2
 unfold appE at h
 simp only at h
 rw [zf] at h
 split at h
 ·rename_i hsz
  rw [zJ] at hsz
  split at hsz
  ·rename_i h256
   have hsm0 := (z08 _ _).1 hsz
   have hsm : sLen (payOf s) + m < 1048576 ∧ (sLen (payOf s) + m) * i.size < 1048576 := by
    have e1 : (sLen (payOf s) + m) * (i.size + 1) < 1048576 := hsm0
    rw [Nat.mul_add, Nat.mul_one] at e1
    omega
   rcases hs.z0E h4 with ⟨rfl, rfl⟩ | ⟨b, es, off, len, k, rb, d, sz, cp, a, hb, he, hof, hmn, hk, hmc, hcb, hk1, hcp, rfl, rfl⟩
   ·-- nil
    obtain ⟨_, q1, q2, q3, q4, q5⟩ := z6E
    rw [q1] at hsm
    rw [q5, z8, if_pos rfl] at h
    obtain ⟨hn, hkk, hmk⟩ := z1B c h (by simp)
    injection hkk with h1 h2 h3
    subst h1; subst h2; subst h3
    have hrun := z9G (ty := ty) ht hi hz src hm (by omega) hb0 hb1
    have hge := grownCap_ge w m 0 e
    obtain ⟨g1, g2⟩ := z8K (z := z) hzs (olds := []) (news := news) (need := m) (cap := grownCap w m 0 e) (by simpa using hnl) hge
    simp only [List.nil_append] at g2
    have hemp : (([] : List Value).toArray ++ (news.toArray ++ Builtin.zeroCells z.cells (grownCap w m 0 e - m))) = news.toArray ++ Builtin.zeroCells z.cells (grownCap w m 0 e - m) := by simp
    rw [hemp] at g1 g2
    have hle : m * i.size ≤ (news.toArray ++ Builtin.zeroCells z.cells (grownCap w m 0 e - m)).size := by rw [g1]; exact Nat.mul_le_mul_right _ hge
    obtain ⟨c', e', hb', hl'⟩ := hmk (w.drew.alloc (.cells (news.toArray ++ Builtin.zeroCells z.cells (grownCap w m 0 e - m)) e)) _ e rfl rfl rfl rfl hle (fun j hj => by
     have hu : news[j]? = some (news[j]'(by rw [hnl]; exact hj)) := by simp
     exact ⟨_, g2 j _ hu, hw j _ hu⟩)
    refine ⟨_, _, _, _, c', e', hb', hl', Nat.le_succ _, ?_, hrun⟩
    exact z1a (zU _ _ _) h256 (by omega) (by omega) hge (z4a w m 0 e (by omega)) (.inl rfl) (by omega)
   ·-- a row
    obtain ⟨_, q1, q2, q3, q4, q5⟩ := z1S b es off len k he hof hmn hk
    rw [q1] at hsm
    rw [q1, q2, q3, q4, q5, z8, if_neg (by omega), Nat.pred_succ] at h
    split at h
    ·rename_i nb cb g keep since maxl hget
     rw [zf] at h
     split at h
     ·rename_i hval0
      rw [z8] at hval0
      split at hval0
      ·rename_i hes
       subst hes
       have hL := c.agree.2 _ _ hget
       have hl := z1E c.agree hL hval0
       have hgL : grp L b = g := z0x hL
       obtain ⟨kk, hkk, hbr⟩ := c.sim.blk b _ hb
       rw [hL] at hkk; injection hkk with hkk; subst hkk
       obtain ⟨cs, cty, fz, r1, r2, r3, r4, r5⟩ := hbr hl
       dsimp only at r1 r2 r3 r5
       rw [z0k] at h
       split at h
       ·rename_i hin
        have hin' : off + len * i.size ≤ nb := hin
        obtain ⟨olds, ro⟩ := row_of (w := w) r1 r5 hin'
        have holds : ∀ j u, olds[j]? = some u → w.cell? (a.add j) = some u := by
         intro j u hj
         rcases hcp with h0 | ⟨h0, _⟩
         ·have : len = 0 := by omega
          subst this
          have := ro.len
          rw [Nat.zero_mul] at this
          rw [List.eq_nil_of_length_eq_zero this] at hj; simp at hj
         ·rw [h0]; exact ro.cell j u hj
        have hcat : ∀ j, j < (len + m) * i.size → ∃ u, (olds ++ news)[j]? = some u ∧ VR ρ L (getW (cat (chunk cb off (len * i.size)) (len * i.size) new) j) u ∧
          storable (getW (cat (chunk cb off (len * i.size)) (len * i.size) new) j) = true := fun j hj =>
         zck ro.word (by rw [ro.len]; exact z2h _ _ _) hw ro.len j (by rw [hnl, ← Nat.add_mul]; exact hj)
        have hlen2 : olds.length + news.length = (len + m) * i.size := by rw [ro.len, hnl, ← Nat.add_mul]
        have grow : cp < len + m → (Builtin.append_ #[t, tx] ty #[.slice (some a) len cp, xv]).run P w =
          .ok (.slice (some ⟨w.heap.size, 0, none⟩) (len + m) (grownCap w (len + m) cp e))
           (w.drew.alloc (.cells (olds.toArray ++ (news.toArray ++ Builtin.zeroCells z.cells (grownCap w (len + m) cp e - (len + m)))) e)) :=
         fun hgr => z8J ht hi hz src ro.len holds hm hgr (by omega) hb0 hb1
        have hge := grownCap_ge w (len + m) cp e
        obtain ⟨g1, g2⟩ := z8K (z := z) hzs (olds := olds) (news := news) (need := len + m) (cap := grownCap w (len + m) cp e) hlen2 hge
        have hleg : (len + m) * i.size ≤ (olds.toArray ++ (news.toArray ++ Builtin.zeroCells z.cells (grownCap w (len + m) cp e - (len + m)))).size := by
         rw [g1]; exact Nat.mul_le_mul_right _ hge
        rw [z8] at h
        split at h
        ·-- the capacity is not known
         rw [z8] at h
         split at h
         ·cases h
         ·rename_i hg
          rw [zJ] at h
          split at h
          ·rename_i hn
           obtain ⟨nl, cl, gl, kl, sl, ml, hLl, hbr2, hget2⟩ : ∃ nl cl gl kl sl ml, L (g - 1) = some (.cells nl cl gl kl sl ml) ∧
             (sel (sel (Nat.beq off 0) (Nat.ble ml (len * i.size)) false)
              (OR.ok (wS n i.size 0 (len + m) 0) (hset (hset H n (.cells ((len + m) * i.size) (cat (chunk cb off (len * i.size)) (len * i.size) new) g 0 0 0)) (g - 1) (.cells nl cl gl kl sl ((len + m) * i.size))) (n + 1))
              (OR.ok (wS n i.size 0 (len + m) 0) (hset (hset H n (.cells ((len + m) * i.size) (cat (chunk cb off (len * i.size)) (len * i.size) new) g 0 0 0)) (g - 1) (.cells nl cl gl n (n + 1) ((len + m) * i.size))) (n + 1)) = OR.ok v H' n') ∧
             tget H (g - 1) = some (.cells nl cl gl kl sl ml) := by
            split at h
            ·rename_i nl cl gl kl sl ml hq
             rw [z8] at hq
             split at hq
             ·rename_i hgb
              have hgb' : g - 1 = b := hgb
              injection hq with hq; injection hq with e1 e2 e3 e4 e5 e6
              subst e1; subst e2; subst e3; subst e4; subst e5; subst e6
              exact ⟨_, _, _, _, _, _, by rw [hgb']; exact hL, h, by rw [hgb']; exact hget⟩
             ·exact ⟨_, _, _, _, _, _, c.agree.2 _ _ hq, h, hq⟩
            ·cases h
           have hl1 := c.agree.lt hget2
           have hne : g - 1 ≠ n := by have := c.fresh.ltL hLl; omega
           have hil : Eng.info L (g - 1) = (kl, sl, ml) := by simp [Eng.info, hLl]
           obtain ⟨⟨ql, hql⟩, _⟩ := c.sim.ld b _ hb (by rw [hgL]; exact hg)
           rw [hgL] at hql
           have member : ∀ K S : Nat, (∀ j p, ρ j = some p → grp L j = g → (K = j ∨ S ≤ j) → off = 0 ∧ ml ≤ len * i.size ∧ live L j) →
             v = wS n i.size 0 (len + m) 0 → H' = hset (hset H n (.cells ((len + m) * i.size) (cat (chunk cb off (len * i.size)) (len * i.size) new) g 0 0 0)) (g - 1) (.cells nl cl gl K S ((len + m) * i.size)) → n' = n + 1 →
             After base H n ρ L w v H' n' (fun x w' => (Builtin.append_ #[t, tx] ty #[.slice (some a) len cp, xv]).run P w = .ok x w') := by
            intro K S hKS ev eH en
            subst ev; subst eH; subst en
            have hR : Relab L (upd L (g - 1) (.cells nl cl gl K S ((len + m) * i.size))) b (g - 1) g nb cb K S ((len + m) * i.size) := by
             refine ⟨?_, by simp [Eng.info, upd_same], fun j hj => ?_⟩
             ·by_cases hgb : b = g - 1
              ·rw [hgb, hLl] at hL; injection hL with hL; injection hL with e1 e2 e3
               subst e1; subst e2; subst e3
               exact ⟨_, _, _, by rw [hgb]; exact upd_same _ _ _⟩
              ·exact ⟨_, _, _, by rw [upd_ne _ _ hgb]; exact hL⟩
             ·by_cases hjl : j = g - 1
              ·subst hjl; exact .inr ⟨rfl, _, _, _, _, _, _, _, _, _, hLl, upd_same _ _ _⟩
              ·exact .inl (upd_ne _ _ hjl)
            have hf1 : Fresh n ρ (upd L (g - 1) (.cells nl cl gl K S ((len + m) * i.size))) := hR.fresh hL c.fresh
            have hag : Agree (hset (hset H n (.cells ((len + m) * i.size) (cat (chunk cb off (len * i.size)) (len * i.size) new) g 0 0 0)) (g - 1) (.cells nl cl gl K S ((len + m) * i.size)))
              (upd (upd L (g - 1) (.cells nl cl gl K S ((len + m) * i.size))) n (.cells ((len + m) * i.size) (cat (chunk cb off (len * i.size)) (len * i.size) new) g 0 0 0)) := by
             have h1 := (c.agree.hset hn (.cells ((len + m) * i.size) (cat (chunk cb off (len * i.size)) (len * i.size) new) g 0 0 0)).hset hl1 (.cells nl cl gl K S ((len + m) * i.size))
             refine ⟨h1.1, fun j kk hj => ?_⟩
             rw [← h1.2 j kk hj]
             unfold upd
             by_cases e1 : j = n
             ·have : j ≠ g - 1 := by omega
              simp [e1, Ne.symm hne]
             ·by_cases e2 : j = g - 1 <;> simp [e1, e2, hne]
            have hloc : ∀ q, Loc H n ρ L (updR ρ n q) (upd (upd L (g - 1) (.cells nl cl gl K S ((len + m) * i.size))) n (.cells ((len + m) * i.size) (cat (chunk cb off (len * i.size)) (len * i.size) new) g 0 0 0)) := by
             intro q
             refine ⟨fun j hj hjn => ⟨?_, by rw [z1T _ _ (by omega)]; exact hjn⟩⟩
             ·rw [upd_ne _ _ (by omega), upd_ne _ _ (fun hh => by subst hh; rw [hql] at hjn; cases hjn)]
            by_cases hroom : len + m ≤ cp
            ·-- in place
             obtain ⟨ha, hfit⟩ := hcp.resolve_left (by omega)
             subst ha
             have r4' := r4 hg
             subst r4'
             have hfitm : off + (len + m) * i.size ≤ sz := by
              have : (len + m) * i.size ≤ cp * i.size := Nat.mul_le_mul_right _ hroom
              omega
             have hsplit : len * i.size + m * i.size = (len + m) * i.size := by rw [← Nat.add_mul]
             have hA : d + off + len * i.size + news.length ≤ cs.size := by
              rw [hnl]
              omega
             have hrun := z5f (ty := ty) ht hi hz src r1 hone hm hroom hA (by omega) hb1
             have hheap := setRow_heap w rb cs ((cs.toList.take (d + off + len * i.size) ++ news ++ cs.toList.drop (d + off + len * i.size + news.length)).toArray) cty (0, 0) r1
             have hgets := z7g cs news (d + off + len * i.size) hA
             have hss := z6e cs news (d + off + len * i.size) hA
             generalize hrow : (cs.toList.take (d + off + len * i.size) ++ news ++ cs.toList.drop (d + off + len * i.size + news.length)).toArray = row at *
             have hbase : base ≤ rb := c.sim.rw b _ hb (by rw [hgL]; exact hg)
             have hsim := c.sim.member (w' := w.setRow rb row) (q := (rb, d + off, sz - off)) (n' := (len + m) * i.size) (c' := cat (chunk cb off (len * i.size)) (len * i.size) new) c.fresh hb hl hL hg hR
              (fun x _ hx => setRow_other w rb x row hx) (by simp [World.setRow]) (by have := c.sim.bnd b _ hb; simpa [World.setRow] using this) (.inl rfl) (Nat.le_refl _)
              (fun j p hj hgj hKj => by
               obtain ⟨hoff, hml, hlj⟩ := hKS j p hj hgj hKj
               subst hoff
               refine ⟨hlj, fun kk hkk hbrk => ?_, fun hpp => ?_, fun nn cc kk ss mm hLj => ?_⟩
               ·by_cases hp : p.1 = rb
                ·cases kk with
                 | cells nj cj gj kj sj mj =>
                  obtain ⟨cs2, ty2, fz2, w1, w2, w3, w4, w5⟩ := hbrk
                  rw [hp, r1] at w1; injection w1 with w1; injection w1 with x1 x2 x3
                  subst x1; subst x2; subst x3
                  have hgj' : gj = g := by rw [← z0x hkk]; exact hgj
                  have hnj : nj ≤ ml := by
                   have := c.sim.mx j p nj cj gj kj sj mj hj hlj hkk (by rw [hgj']; exact hg)
                   rw [hgj', hil] at this; exact this
                  have hd : p.2.1 = d := by
                   have := c.sim.same j b p _ hj hb hlj hl (by rw [hgj]; exact hg) (by rw [hgj, hgL]) hp
                   exact this
                  refine ⟨row, cty, (0, 0), by rw [hp]; exact hheap, by rw [hss]; exact w2, w3, w4, fun x hx => ?_⟩
                  obtain ⟨u, y1, y2⟩ := w5 x hx
                  refine ⟨u, ?_, y2⟩
                  rw [hgets, if_pos (by rw [hd]; omega)]; exact y1
                 | loop => obtain ⟨lp, w1, _⟩ := hbrk; rw [hp, r1] at w1; cases w1
                 | defr => have w1 := hbrk; simp only [BR] at w1; rw [hp, r1] at w1; cases w1
                 | gone => exact trivial
                 | opq jj ro =>
                  exfalso
                  simp only [Eng.grp, hkk] at hgj
                  split at hgj
                  ·have hjg : g - 1 = j := by omega
                   rw [hjg, hkk] at hLl; cases hLl
                  ·exact hg hgj.symm
                 | box => exact hbrk.elim
                 | poly => exact hbrk.elim
                 | mp => obtain ⟨ents, clock, w1, _⟩ := hbrk; rw [hp, r1] at w1; cases w1
                 | chn => obtain ⟨vs, sn, rc, tm, w1, _⟩ := hbrk; rw [hp, r1] at w1; cases w1
                ·exact hbrk.mono (Ext.refl _ _) (setRow_other w rb _ row hp)
               ·have := c.sim.same j b p _ hj hb hlj hl (by rw [hgj]; exact hg) (by rw [hgj, hgL]) hpp
                simpa using this
               ·have := c.sim.mx j p nn cc g kk ss mm hj hlj hLj hg
                rw [hil] at this
                simp only at this
                have e2 : len * i.size ≤ (len + m) * i.size := Nat.mul_le_mul_right _ (by omega)
                omega)
              ⟨row, cty, (0, 0), hheap, by rw [hss]; simp only; omega, by simp only; omega, fun _ => rfl, fun x hx => by
               obtain ⟨u, y1, y2, y3⟩ := hcat x hx
               refine ⟨u, ?_, y2.mono ((hR.ext hL ρ).trans (.fresh hf1 _ _)), y3⟩
               simp only
               rw [hgets]
               by_cases hxl : x < len * i.size
               ·rw [if_pos (by omega)]
                rw [List.getElem?_append_left (by rw [ro.len]; exact hxl)] at y1
                have := ro.cell x u y1
                rw [addr_add, cell_of_heap r1] at this
                exact this
               ·rw [if_neg (by omega), if_pos (by rw [hnl]; omega)]
                rw [List.getElem?_append_right (by rw [ro.len]; omega), ro.len] at y1
                rw [show d + off + x - (d + off + len * i.size) = x - len * i.size from by omega]; exact y1⟩
             refine ⟨_, _, _, _, ⟨hsim, hag, hf1.upd _ _⟩, (hR.ext hL ρ).trans (.fresh hf1 _ _), ?_, hloc _, Nat.le_succ _, ?_, hrun⟩
             ·exact ⟨rfl, rfl, rfl, by simp [World.setRow], fun x hx => setRow_other w rb x row (by omega)⟩
             ·exact .slice n i.size 0 (len + m) 0 rb (d + off) (sz - off) cp ⟨rb, d + off, none⟩ (zU _ _ _) h256 (by omega) (by omega) (by omega) hroom hcb (.inl rfl) (.inr ⟨by simp, by omega⟩)
            ·-- it moves
             have hrun := grow (by omega)
             generalize hrow : (olds.toArray ++ (news.toArray ++ Builtin.zeroCells z.cells (grownCap w (len + m) cp e - (len + m)))) = row at *
             have hsim := c.sim.member (w' := w.drew.alloc (.cells row e)) (q := (w.heap.size, 0, grownCap w (len + m) cp e * i.size)) (n' := (len + m) * i.size) (c' := cat (chunk cb off (len * i.size)) (len * i.size) new) c.fresh hb hl hL hg hR
              (fun x hx _ => heap_alloc_old w.drew _ x hx) (by simp) (by simp) (.inr (Nat.le_refl _)) (Nat.le_refl _)
              (fun j p hj hgj hKj => by
               obtain ⟨hoff, hml, hlj⟩ := hKS j p hj hgj hKj
               have hp := c.sim.bnd j p hj
               refine ⟨hlj, fun kk _ hbrk => hbrk.mono (Ext.refl _ _) (heap_alloc_old w.drew _ _ hp), fun hpp => by simp only at hpp; omega, fun nn cc kk ss mm hLj => ?_⟩
               have := c.sim.mx j p nn cc g kk ss mm hj hlj hLj hg
               rw [hil] at this
               simp only at this
               have e2 : len * i.size ≤ (len + m) * i.size := Nat.mul_le_mul_right _ (by omega)
               omega)
              ⟨row, e, (0, 0), heap_alloc_new w.drew _, by simp only; omega, by simp only; omega, fun _ => rfl, fun x hx => by
               obtain ⟨u, y1, y2, y3⟩ := hcat x hx
               exact ⟨u, by simp only [Nat.zero_add]; exact g2 x u y1, y2.mono ((hR.ext hL ρ).trans (.fresh hf1 _ _)), y3⟩⟩
             refine ⟨_, _, _, _, ⟨hsim, hag, hf1.upd _ _⟩, (hR.ext hL ρ).trans (.fresh hf1 _ _), ?_, hloc _, Nat.le_succ _, ?_, hrun⟩
             ·exact ((Below.refl _ _).drew).alloc (by have := c.sim.bs; simpa using this) _
             ·exact z1a (zU _ _ _) h256 (by omega) (by omega) hge (z4a w _ _ e (by omega)) (.inl rfl) (Nat.le_refl _)
           rw [zf] at hbr2
           split at hbr2
           ·rename_i hcase
            rw [z8] at hcase
            split at hcase
            ·rename_i hoff
             have hml := Nat.le_of_ble_eq_true hcase
             injection hbr2 with e1 e2 e3
             exact member kl sl (fun j p hj hgj hKj => ⟨hoff, hml, by right; rw [hgj, hil]; exact hKj⟩) e1.symm e2.symm e3.symm
            ·cases hcase
           ·injection hbr2 with e1 e2 e3
            exact member n (n + 1) (fun j p hj hgj hKj => by have := c.fresh.lt hj; omega) e1.symm e2.symm e3.symm
          ·cases h
        ·rename_i hk0
         have hkc : k = cp + 1 := hk1.resolve_left hk0
         rw [zJ] at h
         split at h
         ·-- it fits
          rename_i hfits
          have hroom : len + m ≤ cp := by have : len + m < k := hfits; omega
          rw [z8] at h
          split at h
          ·cases h
          ·rename_i hg
           obtain ⟨ha, hfit⟩ := hcp.resolve_left (by omega)
           subst ha
           have r4' := r4 hg
           subst r4'
           have hfitm : off + (len + m) * i.size ≤ sz := by
            have : (len + m) * i.size ≤ cp * i.size := Nat.mul_le_mul_right _ hroom
            omega
           have hsplit : len * i.size + m * i.size = (len + m) * i.size := by rw [← Nat.add_mul]
           have hA : d + off + len * i.size + news.length ≤ cs.size := by rw [hnl]; omega
           have hrun := z5f (ty := ty) ht hi hz src r1 hone hm hroom hA (by omega) hb1
           have hheap := setRow_heap w rb cs ((cs.toList.take (d + off + len * i.size) ++ news ++ cs.toList.drop (d + off + len * i.size + news.length)).toArray) cty (0, 0) r1
           have hgets := z7g cs news (d + off + len * i.size) hA
           have hss := z6e cs news (d + off + len * i.size) hA
           generalize hrow : (cs.toList.take (d + off + len * i.size) ++ news ++ cs.toList.drop (d + off + len * i.size + news.length)).toArray = row at *
           obtain ⟨H1, L1, hk', hag, hR, hloc⟩ := z6d c hget hg hl ⟨_, hb⟩ h (by simp)
           injection hk' with e1 e2 e3
           subst e1; subst e2; subst e3
           have hbase : base ≤ rb := c.sim.rw b _ hb (by rw [hgL]; exact hg)
           have eE : Nat.add off (Nat.mul (Nat.add len m) i.size) = off + (len + m) * i.size := rfl
           have eA : Nat.add off (Nat.mul len i.size) = off + len * i.size := rfl
           rw [eE, eA, z0k] at hR
           have hs' := c.sim.own (w' := w.setRow rb row) c.fresh hb hl hL hg hR (fun x hx => setRow_other w rb x row hx) (by simp [World.setRow]) hheap (by rw [hss]; exact r2)
            (by split <;> omega) (fun x hx => by
             show ∃ v, row[d + x]? = some v ∧ _
             rw [hgets]
             by_cases hx1 : x < off + len * i.size
             ·rw [if_pos (by omega), z0G _ _ _ _ (by omega), z0G _ _ _ _ hx1, z1q _ _ _ _ hx1, Nat.zero_add]
              exact r5 x (by omega)
             ·rw [if_neg (by omega)]
              by_cases hx2 : x < off + (len + m) * i.size
              ·rw [if_pos (by rw [hnl]; omega), z0G _ _ _ _ hx2]
               have hxx : x = off + len * i.size + (x - (off + len * i.size)) := by omega
               have hg3 := z11 (chunk cb 0 (off + len * i.size)) (off + len * i.size) new (x - (off + len * i.size)) (z2h _ _ _)
               rw [← hxx] at hg3
               rw [hg3]
               have hu : news[x - (off + len * i.size)]? = some (news[x - (off + len * i.size)]'(by rw [hnl]; omega)) := by rw [List.getElem?_eq_getElem]
               rw [show d + x - (d + off + len * i.size) = x - (off + len * i.size) from by omega]
               exact ⟨_, hu, hw _ _ hu⟩
              ·rw [if_neg (by rw [hnl]; omega)]
               have hxn : x < nb := by split at hx <;> omega
               have hxx : x = off + (len + m) * i.size + (x - (off + (len + m) * i.size)) := by omega
               have hg3 := z11 (cat (chunk cb 0 (off + len * i.size)) (off + len * i.size) new) (off + (len + m) * i.size) (chunk cb (off + (len + m) * i.size) (nb - (off + (len + m) * i.size))) (x - (off + (len + m) * i.size)) (by
                have := z5O (chunk cb 0 (off + len * i.size)) (off + len * i.size) new (m * i.size) (z2h _ _ _) hlt
                rw [show off + len * i.size + m * i.size = off + (len + m) * i.size from by omega] at this
                exact this)
               rw [← hxx] at hg3
               have hg4 := z1q cb (off + (len + m) * i.size) (nb - (off + (len + m) * i.size)) (x - (off + (len + m) * i.size)) (by omega)
               rw [← hxx] at hg4
               have hg5 : getW (cat (cat (chunk cb 0 (off + len * i.size)) (off + len * i.size) new) (off + (len + m) * i.size) (chunk cb (off + (len + m) * i.size) (Nat.sub nb (off + (len + m) * i.size)))) x = getW cb x := hg3.trans hg4
               rw [hg5]
               exact r5 x hxn)
           refine ⟨ρ, L1, _, _, ⟨hs', hag, hR.fresh hL c.fresh⟩, hR.ext hL ρ, ?_, hloc, Nat.le_refl _, ?_, hrun⟩
           ·exact ⟨rfl, rfl, rfl, by simp [World.setRow], fun x hx => setRow_other w rb x row (by omega)⟩
           ·exact .slice b i.size off (len + m) k rb d sz cp _ hb h256 hof (by omega) hk hroom hcb hk1 (.inr ⟨rfl, hfit⟩)
         ·-- it grows
          rename_i hfits
          have hgr : cp < len + m := by have : ¬ (len + m < k) := hfits; omega
          have hrun := grow hgr
          obtain ⟨hn, hkk, hmk⟩ := z1B c h (by simp)
          injection hkk with h1 h2 h3
          subst h1; subst h2; subst h3
          obtain ⟨c', e', hb', hl'⟩ := hmk (w.drew.alloc (.cells (olds.toArray ++ (news.toArray ++ Builtin.zeroCells z.cells (grownCap w (len + m) cp e - (len + m)))) e)) _ e rfl rfl rfl rfl hleg (fun j hj => by
           obtain ⟨u, y1, y2⟩ := hcat j hj
           exact ⟨u, g2 j u y1, y2⟩)
          refine ⟨_, _, _, _, c', e', hb', hl', Nat.le_succ _, ?_, hrun⟩
          exact z1a (zU _ _ _) h256 hsm.1 (by omega) hge (z4a w _ _ e hsm.1) (.inl rfl) (Nat.le_of_eq g1.symm)
       ·cases h
      ·cases hval0
     ·cases h
    ·cases h
  ·cases hsz
 ·cases h
end
end Go.Eng
namespace Go.Eng
open Go Go.RowKit
variable [E : Env] [Pd : Pad]
section
variable {base : Nat} {H H' : Trie} {n n' nt T v : Nat} {ρ : Rho} {L : Look} {w : World} {P : Program} {tmps : Array Value} {o : Oper} {call : Nat → List Nat → Trie → Nat → OR} {cfr : Frame} {ccs : List Frame}
theorem z7i {ts : List TypeId} {ty : TypeId} {x : Nat} {vx : Value} (hx : VR ρ L x vx) (h : tagOf (lenE P ts x) ≠ 15) :
  ∃ r, VR ρ L (lenE P ts x) r ∧ (Builtin.len_ ts.toArray ty #[vx]).run P w = .ok r w := by
 unfold lenE at h ⊢
 split at h
 ·rename_i t
  split at h
  ·rename_i e hu
   rw [z8] at h ⊢
   by_cases h4 : tagOf x = 4
   ·rw [if_pos h4]
    rcases hx.z0E h4 with ⟨rfl, rfl⟩ | ⟨b, es, off, m, k, rb, d, sz, cp, a, hb, he, hof, hm, hk, hmc, hcb, hk1, hcp, rfl, rfl⟩
    ·exact ⟨_, .int 0 (by omega), by simp [Builtin.len_, run_underlying hu, goInt, sInt]⟩
    ·obtain ⟨_, q1, _⟩ := z1S b es off m k he hof hm hk
     rw [q1]
     exact ⟨_, .int m (by omega), by simp [Builtin.len_, run_underlying hu, goInt, z0J (show m < 9223372036854775808 by omega)]⟩
   ·rw [if_neg h4, z8] at h ⊢
    by_cases h5 : tagOf x = 14
    ·rw [if_pos h5]
     obtain ⟨a, rfl⟩ := hx.z5K h5
     exact ⟨_, .int 0 (by omega), by simp [Builtin.len_, run_underlying hu, goInt, sInt]⟩
    ·rw [if_neg h5, z8] at h ⊢
     by_cases h6 : tagOf x = 11
     ·rw [if_pos h6]
      obtain ⟨b, j, lo, hi, rb, d, sz, cp, hb, hj, hlo, hhi, h7, h8, h9, h10, h11, rfl, rfl⟩ := hx.zdW h6
      obtain ⟨p1, p2, p3, p4⟩ := zdS b j lo hi hj hlo hhi
      rw [p1, p2, p3]
      have e1 : Nat.add 549755813888 lo = 549755813888 + lo := rfl
      have e2 : Nat.add 549755813888 hi = 549755813888 + hi := rfl
      have hlen := E.len j hj
      refine ⟨_, .var (lenIx j) _ _ (by rw [e1]; omega) ?_ (.inr ?_) ?_, by rw [hlen]; simp [Builtin.len_, run_underlying hu, goInt]⟩
      ·rw [z8]; split
       ·omega
       ·rw [e2]; omega
      ·rw [e1, hlen]; omega
      ·rw [z8]; split
       ·exact .inl rfl
       ·right; rw [e2, hlen]; omega
     ·rw [if_neg h6] at h; exact absurd rfl h
  ·rename_i hu
   rw [zf] at h ⊢
   split
   ·rename_i h1
    obtain ⟨j, lo, hi, hlo, hhi, h7, h8, hlen, rfl, rfl⟩ := hx.z5y h1
    obtain ⟨p1, p2, p3⟩ := z4A j lo hi hlo hhi
    rw [p1, p2, p3]
    have e1 : Nat.add 549755813888 lo = 549755813888 + lo := rfl
    have e2 : Nat.add 549755813888 hi = 549755813888 + hi := rfl
    refine ⟨_, .var (txtIx j) _ _ (by rw [e1]; omega) ?_ (.inr ?_) ?_, by rw [hlen]; simp [Builtin.len_, run_underlying hu, goInt]⟩
    ·rw [z8]; split
     ·omega
     ·rw [e2]; omega
    ·rw [e1, hlen]; omega
    ·rw [z8]; split
     ·exact .inl rfl
     ·right; rw [e2, hlen]; omega
   ·rename_i h1
    rw [if_neg h1, zf] at h
    rw [zf]
    split
    ·rename_i h2
     rw [if_pos h2] at h
     obtain ⟨s, rfl, hs, hlt⟩ := z8C hx h2 h
     rw [hs]
     exact ⟨_, .int s.size (by omega), by simp [Builtin.len_, run_underlying hu, goInt, z0J (show s.size < 9223372036854775808 by omega)]⟩
    ·rename_i h2
     rw [if_neg h2] at h
     exact absurd rfl h
  ·exact absurd rfl h
 ·exact absurd rfl h
theorem z7j {ts : List TypeId} {ty : TypeId} {x : Nat} {vx : Value} (hx : VR ρ L x vx) (h : tagOf (capE P ts x) ≠ 15) :
  ∃ r, VR ρ L (capE P ts x) r ∧ (Builtin.cap_ ts.toArray ty #[vx]).run P w = .ok r w := by
 unfold capE at h ⊢
 split at h
 ·rename_i t
  split at h
  ·rename_i e hu
   rw [z8] at h ⊢
   by_cases h4 : tagOf x = 4
   ·rw [if_pos h4, z8] at h ⊢
    rcases hx.z0E h4 with ⟨rfl, rfl⟩ | ⟨b, es, off, m, k, rb, d, sz, cp, a, hb, he, hof, hm, hk, hmc, hcb, hk1, hcp, rfl, rfl⟩
    ·rw [if_neg (by rw [z6E.2.2.1]; omega)]
     exact ⟨_, .int 0 (by omega), by simp [Builtin.cap_, run_underlying hu, goInt, sInt]⟩
    ·obtain ⟨_, _, q2, _⟩ := z1S b es off m k he hof hm hk
     rw [q2] at h ⊢
     by_cases hk0 : k = 0
     ·rw [if_pos hk0] at h; exact absurd rfl h
     ·rw [if_neg hk0]
      have hkc := hk1.resolve_left hk0
      rw [show Nat.pred k = cp from by rw [hkc]; rfl]
      exact ⟨_, .int cp (by omega), by simp [Builtin.cap_, run_underlying hu, goInt, z0J hcb]⟩
   ·rw [if_neg h4] at h; exact absurd rfl h
  ·exact absurd rfl h
 ·exact absurd rfl h
theorem z7X {a b : Bool} (h : wB a = wB b) : a = b := by
 cases a <;> cases b <;> first | rfl | (exact absurd h (by decide))
theorem z3L {P : Program} {w : World} {op : BinOp} (ho : op = .lss ∨ op = .gtr) {l : List Nat} {vs : List Value} (hl : AR ρ L l vs) (h : tagOf (minE op l) ≠ 15) :
  ∃ a b z : Int, vs = [.int .i64 a, .int .i64 b] ∧ VR ρ L (minE op l) (.int .i64 z) ∧ (op = .lss → z = if b < a then b else a) ∧ (op = .gtr → z = if a < b then b else a) := by
 unfold minE at h ⊢
 split at h
 rotate_left
 ·exact absurd rfl h
 rename_i x y
 cases hl with
 | cons _ vx _ vs' hvx hl' =>
 cases hl' with
 | cons _ vy _ vs'' hvy hl'' =>
 cases hl''
 have fin : ∀ (a b : Int) (r : Bool), vx = .int .i64 a → vy = .int .i64 b → (∀ w : World, (binOp op 0 (.int .i64 b) (.int .i64 a)).run P w = .ok (.bool r) w) → ∀ W, W = (if r = true then y else x) →
   ∃ a b z : Int, [vx, vy] = [.int .i64 a, .int .i64 b] ∧ VR ρ L W (.int .i64 z) ∧ (op = .lss → z = if b < a then b else a) ∧ (op = .gtr → z = if a < b then b else a) := by
  intro a b r hx hy hr W hW
  subst hx; subst hy; subst hW
  refine ⟨a, b, if r = true then b else a, rfl, by cases r <;> assumption, fun hop => ?_, fun hop => ?_⟩
  ·subst hop
   have := hr w
   simp [binOp, Op.intCmp] at this
   subst this
   by_cases hlt : b < a <;> simp [hlt]
  ·subst hop
   have := hr w
   simp [binOp, Op.intCmp] at this
   subst this
   by_cases hlt : a < b <;> simp [hlt]
 by_cases hbI : bothI x y = true
 ·rw [hbI, z0b] at h ⊢
  unfold bothI at hbI
  obtain ⟨h1, h2⟩ := z0e hbI
  have h1 := Nat.eq_of_beq_eq_true h1
  have h2 := Nat.eq_of_beq_eq_true h2
  obtain ⟨a, ha, rfl, hpa, rfl⟩ := hvx.z0i h1
  obtain ⟨b, hb, rfl, hpb, rfl⟩ := hvy.z0i h2
  rw [hpa, hpb] at h ⊢
  have ht : tagOf (binI op b a) ≠ 15 := by
   rcases ho with rfl | rfl
   ·show tagOf (wB _) ≠ 15
    rw [z15]; decide
   ·show tagOf (wB _) ≠ 15
    rw [z15]; decide
  obtain ⟨r, hr1, hr2⟩ := z6S (P := P) (ρ := ρ) (L := L) (w := w) op 0 b a hb ha ht
  have hb2 : ∃ q : Bool, binI op b a = wB q ∧ r = .bool q ∧ ∀ w : World, (binOp op 0 (.int .i64 (sInt b)) (.int .i64 (sInt a))).run P w = .ok (.bool q) w := by
   rcases ho with rfl | rfl
   ·exact ⟨iLt b a, rfl, by have := hr1.z1J (z15 _); obtain ⟨q, h1, h2⟩ := this; have : iLt b a = q := z7X h1; rw [this]; exact h2, fun w => by rw [z7G b a hb ha]; simp [binOp, Op.intCmp]⟩
   ·exact ⟨iLt a b, rfl, by have := hr1.z1J (z15 _); obtain ⟨q, h1, h2⟩ := this; have : iLt a b = q := z7X h1; rw [this]; exact h2, fun w => by rw [z7G a b ha hb]; simp [binOp, Op.intCmp]⟩
  obtain ⟨q, q1, _, q3⟩ := hb2
  refine fin _ _ q rfl rfl q3 _ ?_
  rw [q1]
  cases q <;> rfl
 ·have hbI : bothI x y = false := by simpa using hbI
  rw [hbI, z0f] at h ⊢
  dsimp only at h ⊢
  generalize hc : sel (Nat.beq (tagOf x) 1) (sel (Nat.beq (tagOf y) 12) (nearB (payOf x) fun c => cmpV op (payOf y) c) badW) (sel (Nat.beq (tagOf x) 12) (sel (Nat.beq (tagOf y) 1) (nearB (payOf y) fun c => cmpV (flipOp op) (payOf x) c) (sel (Nat.beq (tagOf y) 12) (mk 15 (askMid (payOf x))) badW)) badW) = cw at h ⊢
  have hcw : cw = 18 ∨ cw = 2 := by
   rw [z8] at h
   split at h
   ·left; assumption
   ·rw [z8] at h
    split at h
    ·right; assumption
    ·rw [z8] at h
     split at h
     ·rename_i h15; exact absurd h15 h
     ·exact absurd rfl h
  have hcb : tagOf cw ≠ 15 := by rcases hcw with h | h <;> rw [h] <;> decide
  have hq : ∃ (a b : Int) (q : Bool), vx = .int .i64 a ∧ vy = .int .i64 b ∧ cw = wB q ∧ ∀ w : World, (binOp op 0 (.int .i64 b) (.int .i64 a)).run P w = .ok (.bool q) w := by
   rw [z8] at hc
   split at hc
   ·rename_i h1
    rw [z8] at hc
    split at hc
    ·rename_i h12
     obtain ⟨a, ha, rfl, hpa, rfl⟩ := hvx.z0i h1
     obtain ⟨j, lo, hi, q1, q2, q3, q4, rfl, rfl⟩ := hvy.z3V h12
     rw [hpa] at hc
     obtain ⟨c, c0, _, hcs, hnb⟩ := z4o ha (by rw [hc]; exact hcb)
     rw [hc] at hnb
     obtain ⟨q, k1, k2, _⟩ := z2l (P := P) (w := w) (op := op) (ty := 0) q1 q2 q3 q4 c0 (by rw [← hnb]; exact hcb)
     refine ⟨_, _, q, rfl, rfl, hnb.trans k1, fun w => ?_⟩
     rw [hcs]
     exact (z2l (P := P) (w := w) (op := op) (ty := 0) q1 q2 q3 q4 c0 (by rw [← hnb]; exact hcb)).elim fun q' ⟨l1, l2, _⟩ => by
      have : q = q' := z7X (k1.symm.trans l1)
      rw [this]; exact l2
    ·rw [← hc] at hcb; exact absurd rfl hcb
   ·rw [z8] at hc
    split at hc
    ·rename_i h12
     rw [z8] at hc
     split at hc
     ·rename_i h1
      obtain ⟨b, hb, rfl, hpb, rfl⟩ := hvy.z0i h1
      obtain ⟨j, lo, hi, q1, q2, q3, q4, rfl, rfl⟩ := hvx.z3V h12
      rw [hpb] at hc
      obtain ⟨c, c0, _, hcs, hnb⟩ := z4o hb (by rw [hc]; exact hcb)
      rw [hc] at hnb
      obtain ⟨q, k1, _, k2⟩ := z2l (P := P) (w := w) (op := flipOp op) (ty := 0) q1 q2 q3 q4 c0 (by rw [← hnb]; exact hcb)
      refine ⟨_, _, q, rfl, rfl, hnb.trans k1, fun w => ?_⟩
      rw [hcs]
      have hff : flipOp (flipOp op) = op := by rcases ho with rfl | rfl <;> rfl
      exact (z2l (P := P) (w := w) (op := flipOp op) (ty := 0) q1 q2 q3 q4 c0 (by rw [← hnb]; exact hcb)).elim fun q' ⟨l1, _, l2⟩ => by
       have : q = q' := z7X (k1.symm.trans l1)
       rw [this]; rw [hff] at l2; exact l2
     ·rw [z8] at hc
      split at hc
      ·rw [← hc] at hcb; exact absurd (z1I _) hcb
      ·rw [← hc] at hcb; exact absurd rfl hcb
    ·rw [← hc] at hcb; exact absurd rfl hcb
  obtain ⟨a, b, q, hx, hy, q1, q2⟩ := hq
  refine fin a b q hx hy q2 _ ?_
  rw [q1]
  cases q <;> rfl
theorem zek (c : Ctx base H n ρ L w) {l : List Nat} {vs : List Value} (hl : AR ρ L l vs) {ts : Array TypeId} {ty : TypeId} (h : okv (minE .lss l) H n = .ok v H' n') :
  After base H n ρ L w v H' n' (fun x w' => (Builtin.min_ ts ty vs.toArray).run P w = .ok x w') := by
 obtain ⟨h1, rfl, rfl, rfl⟩ := z0N h
 obtain ⟨a, b, z, rfl, hz, e, _⟩ := z3L (P := P) (w := w) (.inl rfl) hl h1
 refine .pure c hz ?_
 rw [e rfl]
 by_cases hlt : b < a <;> simp [Builtin.min_, Builtin.min2, hlt]
theorem zel (c : Ctx base H n ρ L w) {l : List Nat} {vs : List Value} (hl : AR ρ L l vs) {ts : Array TypeId} {ty : TypeId} (h : okv (minE .gtr l) H n = .ok v H' n') :
  After base H n ρ L w v H' n' (fun x w' => (Builtin.max_ ts ty vs.toArray).run P w = .ok x w') := by
 obtain ⟨h1, rfl, rfl, rfl⟩ := z0N h
 obtain ⟨a, b, z, rfl, hz, _, e⟩ := z3L (P := P) (w := w) (.inr rfl) hl h1
 refine .pure c hz ?_
 rw [e rfl]
 by_cases hlt : a < b <;> simp [Builtin.max_, Builtin.max2, hlt]
theorem wrap_zero : IntKind.i64.wrap 0 = 0 := z5A 0 (by omega)
theorem z8L {t tx ty e : TypeId} {i : TypeInfo} {z : Value} (ht : P.underlying t = some (.slice e)) (hi : P.info? e = some i) {xv : Value} {news : List Value}
  (hs : SrcOk P tx i z w xv 0 news) {bs : Option Addr} {sLen sCap : Nat} (hle : sLen ≤ sCap) :
  (Builtin.append_ #[t, tx] ty #[.slice bs sLen sCap, xv]).run P w = .ok (.slice bs sLen sCap) w := by
 rcases hs with ⟨⟨e', hx⟩, hl, hnl, hf⟩ | ⟨⟨k, hx⟩, rfl, hsz, _, _, hzc, rfl⟩
 ·have hf1 := hf w rfl
  have hn : news = [] := List.eq_nil_of_length_eq_zero (by simpa using hnl)
  subst hn
  cases bs <;> simp [Builtin.append_, run_underlying ht, run_underlying hx, sizeOf, typeInfo, hi, hl, hle, hf1, storeCells]
 ·cases bs <;> simp [Builtin.append_, run_underlying ht, run_underlying hx, sizeOf, typeInfo, hi, asInt, asIntOf, wrap_zero, hle, storeCells]
theorem zdi {s : Nat} {sv : Value} (hs : VR ρ L s sv) (h4 : tagOf s = 4) : ∃ bs l c, sv = .slice bs l c ∧ l ≤ c := by
 rcases hs.z0E h4 with ⟨_, rfl⟩ | ⟨b, es, off, m, k, rb, d, sz, cp, a, hb, he, hof, hm, hk, hmc, hcb, hk1, hcp, rfl, rfl⟩
 ·exact ⟨_, _, _, rfl, Nat.le_refl _⟩
 ·exact ⟨_, _, _, rfl, hmc⟩
theorem z7Y (c : Ctx base H n ρ L w) {ts : List TypeId} {ty : TypeId} {s x : Nat} {sv xv : Value} (hs : VR ρ L s sv) (hx : VR ρ L x xv) (h : appendE P ts H n s x = .ok v H' n') :
  After base H n ρ L w v H' n' (fun r w' => (Builtin.append_ ts.toArray ty #[sv, xv]).run P w = .ok r w') := by
 unfold appendE at h
 split at h
 ·rename_i t tx
  rw [z8] at h
  split at h
  ·rename_i h4
   obtain ⟨e, hu, ⟨i, hi⟩, h⟩ := z0M h rfl (by simp)
   rw [zf] at h
   split at h
   ·rename_i hg
    rw [zf] at hg
    split at hg
    ·rename_i hby
     obtain ⟨i', hi', hb0, hb1⟩ := z4P hby
     rw [hi] at hi'; injection hi' with hi'; subst hi'
     obtain ⟨z, hz, hzs⟩ : ∃ z, i.zero = some z ∧ z.cells.size = i.size := by
      unfold zeroOk at hg
      rw [hi] at hg
      simp only at hg
      split at hg
      ·rename_i z hz
       rw [z8] at hg
       split at hg
       ·exact ⟨z, hz, by assumption⟩
       ·cases hg
      ·cases hg
     obtain ⟨bs, sl, sc, hsv, hle⟩ := zdi hs h4
     split at h
     ·-- make's zeros
      rename_i k hxt
      rw [z8] at h
      split at h
      ·rename_i hx1
       rw [zf] at h
       split at h
       ·rename_i hp
        rw [zJ] at h
        split at h
        ·rename_i hsm
         obtain ⟨p, hpl, rfl, hpp, rfl⟩ := hx.z0i hx1
         rw [hpp] at hsm h
         have hsm' : p < 1048576 := hsm
         have hsz1 : i.size = 1 := by
          obtain ⟨j, _, hj, hs1, _⟩ := z2t hp
          rw [hi] at hj; injection hj with hj; subst hj; exact hs1
         have hsI : sInt p = (p : Int) := z0J (by omega)
         rw [hsI]
         rw [z8] at h
         split at h
         ·rename_i hp0
          injection h with e1 e2 e3
          subst e1; subst e2; subst e3
          refine .pure c hs ?_
          subst hsv
          rw [hp0]
          cases bs <;> simp [Builtin.append_, run_underlying hu, run_underlying hxt, sizeOf, typeInfo, hi, asInt, asIntOf, wrap_zero, hle, storeCells]
         ·rename_i hp0
          rw [zf] at h
          split at h
          ·rename_i hst
           obtain ⟨i2, z2, hi2, hz2, hzx⟩ := z13 ρ L hst
           rw [hi] at hi2; injection hi2 with hi2; subst hi2
           rw [hz] at hz2; injection hz2 with hz2; subst hz2
           obtain ⟨hc1, _⟩ := hzx.cell hst
           have hzlt := ((z0g _).1 hst).2.2.2
           have src : SrcOk P tx i z w (.int .i64 (p : Int)) p (List.replicate p z) := .inr ⟨⟨k, hxt⟩, rfl, hsz1, hsm', hb1, hc1, rfl⟩
           rw [← hsz1] at h
           refine z7h c hu hi hz hzs hb0 hb1 hs h4 src (by omega) (by rw [hsz1]; simp) (fun j u hj => ?_) (by rw [hsz1, Nat.mul_one]; exact z9v _ hzlt p) h
           rw [List.getElem?_replicate] at hj
           split at hj
           ·rename_i hjp
            injection hj with hj; subst hj
            rw [z5P _ hzlt p j hjp]; exact ⟨hzx, hst⟩
           ·cases hj
          ·cases h
        ·cases h
       ·cases h
      ·cases h
     ·-- a slice
      rename_i e' hxt
      unfold srcE at h
      have none' : ∀ news, SrcOk P tx i z w xv 0 news → OR.ok s H n = OR.ok v H' n' → After base H n ρ L w v H' n' (fun r w' => (Builtin.append_ #[t, tx] ty #[sv, xv]).run P w = .ok r w') := by
       intro news hsrc heq
       injection heq with e1 e2 e3
       subst e1; subst e2; subst e3
       refine .pure c hs ?_
       subst hsv
       exact z8L hu hi hsrc hle
      rw [z8] at h
      split at h
      ·rename_i hx4
       rw [zaF hi] at h
       rw [z8] at h
       rcases hx.z0E hx4 with ⟨rfl, rfl⟩ | ⟨b, es, off, m, k, rb, d, sz, cp, a, hb, he, hof, hm, hk, hmc, hcb, hk1, hcp, rfl, rfl⟩
       ·rw [if_pos z6E.2.2.2.2.2] at h
        exact none' [] (.inl ⟨⟨_, hxt⟩, rfl, by simp, fun w2 _ => by simp [run_firstCells_none]⟩) h
       ·obtain ⟨_, q1, q2, q3, q4, q5⟩ := z1S b es off m k he hof hm hk
        rw [q5, q3, q1, if_neg (by omega), Nat.pred_succ] at h
        split at h
        ·rename_i ch hrd
         obtain ⟨news, ro⟩ := z2i c hb hrd
         have hcells : ∀ j u, news[j]? = some u → w.cell? (a.add j) = some u := by
          intro j u hj
          rcases hcp with h0 | ⟨h0, _⟩
          ·have : m = 0 := by omega
           subst this
           have := ro.len
           rw [show Nat.mul 0 i.size = 0 from Nat.zero_mul _] at this
           rw [List.eq_nil_of_length_eq_zero this] at hj; simp at hj
          ·rw [h0]; exact ro.cell j u hj
         have src : SrcOk P tx i z w (.slice (some a) m cp) m news := .inl ⟨⟨_, hxt⟩, rfl, ro.len, fun w2 hw2 => by
          refine run_firstCells_some w2 i.size m a m cp news ro.len fun j u hj => ?_
          have := hcells j u hj
          simp only [World.cell?, hw2] at this ⊢; exact this⟩
         dsimp only at h
         rw [z8] at h
         split at h
         ·rename_i hm0
          have src0 : ∀ m', m' = m → SrcOk P tx i z w (.slice (some a) m cp) m' news := fun m' e => by subst e; exact src
          exact none' news (src0 0 hm0.symm) h
         ·rename_i hm0
          exact z7h c hu hi hz hzs hb0 hb1 hs h4 src (by omega) ro.len ro.word ro.lt h
        ·cases h
      ·rw [z8] at h
       split at h
       ·rename_i h14
        obtain ⟨a, rfl⟩ := hx.z5K (by rw [h14]; rfl)
        refine none' [] (.inl ⟨⟨_, hxt⟩, by simp [Builtin.lenOf], by simp, fun w2 _ => run_firstCells_some w2 i.size 0 a 0 0 [] (by simp) (fun j u hj => by simp at hj)⟩) h
       ·cases h
     ·cases h
    ·cases hg
   ·cases h
  ·cases h
 ·cases h
theorem z9H (c : Ctx base H n ρ L w) {ts : List TypeId} {ty : TypeId} {d s : Nat} {dv sv : Value} (hd : VR ρ L d dv) (hs : VR ρ L s sv) (h : copyE P ts d s H n = .ok v H' n') :
  After base H n ρ L w v H' n' (fun r W => (Builtin.copy_ ts.toArray ty #[dv, sv]).run P w = .ok r W) := by
 unfold copyE at h
 split at h
 ·rename_i t t2
  obtain ⟨e, hu, ⟨i, hi⟩, h⟩ := z0M h rfl (by simp)
  rw [zaF hi] at h
  rw [zf] at h
  split at h
  ·rename_i hg
   rw [z8] at hg
   split at hg
   ·rename_i hd4
    have hs4 := Nat.eq_of_beq_eq_true hg
    have slen : ∀ {x : Nat} {xv : Value}, VR ρ L x xv → tagOf x = 4 → ∃ a l cp, xv = .slice a l cp ∧ sLen (payOf x) = l := by
     intro x xv hx h4
     rcases hx.z0E h4 with ⟨rfl, rfl⟩ | ⟨b, es, off, m, k, rb, dd, sz, cp, a, hb, he, hof, hm, hk, hmc, hbig, hk1, hcp, rfl, rfl⟩
     ·exact ⟨_, _, _, rfl, z6E.2.1⟩
     ·exact ⟨_, _, _, rfl, (z1S b es off m k he hof hm hk).2.1⟩
    obtain ⟨da, dl, dc, hdv, hdl⟩ := slen hd hd4
    obtain ⟨sa, sl, sc, hsv, hsl⟩ := slen hs hs4
    simp only at h
    rw [hdl, hsl] at h
    have hmin : sel (ltb sl dl) sl dl = Nat.min sl dl := by
     rw [zJ]
     show _ = min sl dl
     split <;> omega
    rw [hmin] at h
    have hlen : (Builtin.lenOf sv).run P w = .ok sl w := by rw [hsv]; simp [Builtin.lenOf]
    rw [z8] at h
    split at h
    ·rename_i hm0
     injection h with h1 h2 h3
     subst h1; subst h2; subst h3
     refine .pure c (.int 0 (by omega)) ?_
     have hf : (Builtin.firstCells i.size 0 sv).run P w = .ok #[] w := by
      rw [hsv]
      cases sa with
      | none => simp [run_firstCells_none]
      | some a => exact run_firstCells_some w i.size 0 a sl sc [] (by simp) (fun j u hj => by simp at hj)
     subst hdv
     cases da <;> simp [Builtin.copy_, run_underlying hu, hlen, hm0, run_sizeOf hi, hf, storeCells, goInt, sInt]
    ·rename_i hm0
     rw [zf] at h
     split at h
     ·rename_i hz
      rw [z8] at hz
      split at hz
      ·cases hz
      ·rename_i hdz
       rw [z8] at hz
       split at hz
       ·cases hz
       ·rename_i hsz
        have hes := Nat.eq_of_beq_eq_true hz
        split at h
        ·rename_i ch hrd
         have hW := h
         rcases hs.z0E hs4 with ⟨rfl, _⟩ | ⟨b, es, off, m, k, rb, dd, sz, cp, a, hb, he, hof, hm, hk, hmc, hbig, hk1, hcp, rfl, hsv2⟩
         ·exact absurd z6E.2.2.2.2.2 hsz
         ·obtain ⟨_, q1, q2, q3, q4, q5⟩ := z1S b es off m k he hof hm hk
          rw [q5, q3, Nat.pred_succ] at hrd
          obtain ⟨news, ro⟩ := z2i c hb hrd
          rcases hd.z0E hd4 with ⟨rfl, _⟩ | ⟨b', es', off', m', k', rb', dd', sz', cp', a', hb', he', hof', hm', hk', hmc', hbig', hk1', hcp', rfl, hdv2⟩
          ·exact absurd z6E.2.2.2.2.2 hdz
          ·obtain ⟨_, r1, r2, r3, r4, r5⟩ := z1S b' es' off' m' k' he' hof' hm' hk'
           rw [r5, r3, Nat.pred_succ] at hW
           have hcr : CellsR ρ L (Nat.mul (Nat.min sl dl) i.size) ch news.toArray := CellsR.zdJ ro
           obtain ⟨H1, L1, cur, cty, hk, hh, hfit, hc', hee, hbel, hloc⟩ := z8G c hb' hcr hW (by simp)
           injection hk with h1 h2 h3
           subst h1; subst h2; subst h3
           rw [q1] at hsl
           rw [r1] at hdl
           have hmpos : 0 < Nat.min sl dl := Nat.pos_of_ne_zero hm0
           have hml : Nat.min sl dl ≤ sl := Nat.min_le_left _ _
           have hmd : Nat.min sl dl ≤ dl := Nat.min_le_right _ _
           have ha : a = ⟨rb, dd + off, none⟩ := (hcp.resolve_left (by omega)).1
           have ha' : a' = ⟨rb', dd' + off', none⟩ := (hcp'.resolve_left (by omega)).1
           have hf : (Builtin.firstCells i.size (Nat.min sl dl) sv).run P w = .ok news.toArray w := by
            rw [hsv2]
            refine run_firstCells_some w i.size (Nat.min sl dl) a m cp news ro.len fun j u hj => ?_
            rw [ha]; exact ro.cell j u hj
           have hst := run_storeCells_at P rb' (dd' + off') cty news 0 cur w hh (by simpa using hfit) (by
            have := hcr.oneCell; simpa using this)
           simp only [Nat.add_zero] at hst
           refine ⟨ρ, L1, _, goInt (Nat.min sl dl : Nat), by simpa using hc', hee, by simpa using hbel, hloc, Nat.le_refl _, ?_, ?_⟩
           ·have hlt : Nat.min sl dl < 9223372036854775808 := by omega
            have := VR.int (ρ := ρ) (L := L1) (Nat.min sl dl) (by omega)
            rw [z0J hlt] at this
            exact this
           ·rw [hdv2] at hdv ⊢
            injection hdv with _ hdv3 _
            subst hdv3
            simp [Builtin.copy_, run_underlying hu, hlen, run_sizeOf hi, hf, ha', hst]
        ·cases h
     ·cases h
   ·cases hg
  ·cases h
 ·cases h
theorem z6O (c : Ctx base H n ρ L w) {b : Builtin} {ts : Array TypeId} {ty : TypeId} {consts : Array Bool} {args : List Nat} {vs : List Value} (ha : AR ρ L args vs)
  (h : builtinE P b ts.toList args H n = .ok v H' n') :
  After base H n ρ L w v H' n' (fun x w' => (builtin b ts ty consts vs.toArray).run P w = .ok (.value x) w') := by
 have ets : ts.toList.toArray = ts := by simp
 unfold builtinE at h
 split at h
 ·rename_i x
  obtain ⟨h1, rfl, rfl, rfl⟩ := z0N h
  cases ha with
  | cons _ vx _ _ hx ha' =>
   cases ha'
   obtain ⟨r, hr1, hr2⟩ := z7i (w := w) (ty := ty) hx h1
   rw [ets] at hr2
   exact .pure c hr1 (by simp [builtin, hr2])
 ·rename_i x
  obtain ⟨h1, rfl, rfl, rfl⟩ := z0N h
  cases ha with
  | cons _ vx _ _ hx ha' =>
   cases ha'
   obtain ⟨r, hr1, hr2⟩ := z7j (w := w) (ty := ty) hx h1
   rw [ets] at hr2
   exact .pure c hr1 (by simp [builtin, hr2])
 ·rename_i s x
  cases ha with
  | cons _ vs1 _ _ hs ha' =>
   cases ha' with
   | cons _ vx _ _ hx ha'' =>
    cases ha''
    refine (z7Y (ty := ty) c hs hx h).mono fun r w' hr => ?_
    rw [ets] at hr
    simp [builtin, hr]
 ·exact (zek (P := P) (ts := ts) (ty := ty) c ha h).mono fun r w' hr => by simp [builtin, hr]
 ·exact (zel (P := P) (ts := ts) (ty := ty) c ha h).mono fun r w' hr => by simp [builtin, hr]
 ·rename_i x
  cases ha with
  | cons _ vx _ _ hx ha' =>
   cases ha'
   refine (z8x (ty := ty) c hx h).mono fun r w' hr => ?_
   rw [ets] at hr
   simp [builtin, hr]
 ·rename_i d s
  cases ha with
  | cons _ vd _ _ hd ha' =>
   cases ha' with
   | cons _ vs1 _ _ hs ha'' =>
    cases ha''
    refine (z9H (ty := ty) c hd hs h).mono fun r w' hr => ?_
    rw [ets] at hr
    simp [builtin, hr]
 ·cases h
theorem z7k (l : List Method) (name : String) : l.find? (·.name == name) = methL l name := by
 induction l with
 | nil => rfl
 | cons m l ih =>
  have e : methL (m :: l) name = if m.name = name then some m else methL l name := rfl
  rw [e, List.find?_cons]
  by_cases h : m.name = name
  ·have hb : (m.name == name) = true := by rw [h]; exact beq_self_eq_true name
   rw [hb, if_pos h]
  ·have hb : (m.name == name) = false := beq_false_of_ne h
   rw [hb, if_neg h]; exact ih
theorem z8M {t : TypeId} {name : String} {k : Nat → OR} (h : methK P t name k = .ok v H' n') : ∃ f, (∀ (u : Value) (w : World), (method (P.types.size + Made.depth) t u name).run P w = .ok (f, u) w) ∧ k f = .ok v H' n' := by
 unfold methK at h
 split at h
 ·rename_i i hi
  split at h
  ·rename_i m hm
   split at h
   ·rename_i f hp hf
    rw [zf] at h
    split at h
    ·cases h
    ·rename_i hpt
     refine ⟨f, fun u w => ?_, h⟩
     have hfind : i.methods.find? (·.name == name) = some m := by rw [← Array.find?_toList, z7k, hm]
     have hd : Made.depth + P.types.size = (P.types.size + Made.depth - 1) + 1 := by unfold Made.depth; omega
     rw [Nat.add_comm, hd]
     have hu : ∃ d, P.underlying t = some d ∧ ∀ e, d ≠ .pointer e := by
      unfold ptrT at hpt
      cases hu : P.underlying t with
      | none => rw [hu] at hpt; exact absurd rfl hpt
      | some d => exact ⟨d, rfl, fun e he => by rw [hu, he] at hpt; exact absurd rfl hpt⟩
     obtain ⟨d, hu, hne⟩ := hu
     have hrec : (receiverAt t (.val u) false (if m.path.isEmpty = true then some ((name.splitOn ".").getLastD name) else none)).run P w = .ok u w := by
      unfold receiverAt
      simp only [Sem.run_bind, run_underlying hu, Result.andThen_ok]
      cases d <;> first | exact absurd rfl (hne _) | rfl
     simp only [method, Sem.run_bind, run_typeInfo w hi, Result.andThen_ok, hfind, hp, hf, follow, Sem.run_pure, hrec]
   ·cases h
  ·cases h
 ·cases h
theorem _root_.Go.Eng.Does.congr {s s' : Sem Next} {w w' : World} {x : Value} {c : Frame} {cs : List Frame} (h : Does P s w x w' c cs) (e : s'.run P w = s.run P w) : Does P s' w x w' c cs := by
 cases h with
 | value h => exact .value (e.trans h)
 | skip h hx => exact .skip (e.trans h) hx
 | enter f args w1 h hr => exact .enter f args w1 (e.trans h) hr
 | round l f tmps assign body w1 h hr => exact .round l f tmps assign body w1 (e.trans h) hr
theorem zdY (c : Ctx base H n ρ L w) (ht : TR ρ L nt T tmps) (hcall : CallS P call) {q : Call} (ho : o.op = .call q) (h : opE P call T H n o.op = .ok v H' n') :
  After base H n ρ L w v H' n' (OpDone P tmps o w cfr ccs) := by
 rw [ho] at h
 simp only [z01, opX, callE] at h
 rw [zf] at h
 split at h
 ·rename_i hnb
  have ha := z1N ht q.args.toList hnb
  have hargs : (q.args.map (evT tmps)) = (q.args.toList.map (evT tmps)).toArray := by apply Array.ext'; simp
  split at h
  ·rename_i b hcal
   refine (z6O (ty := o.type) (consts := q.args.map fun | .const _ => true | _ => false) c ha h).mono fun x w' hx => ?_
   refine .value ?_
   rw [← hargs] at hx
   simp only [execOp, ho, resolve, hcal, invoke]
   exact hx
  ·rename_i f hcal
   rw [z8] at h
   split at h
   ·cases h
   ·rename_i hf
    have hfv := zC ht f hf
    have ha' : AR ρ L (evs T q.args.toList) (q.args.map (evT tmps)).toList := by rw [hargs]; exact ha
    refine (hcall _ _ _ _ _ _ _ _ _ _ _ _ _ cfr ccs c hfv ha' h).mono fun x w' hx => ?_
    have e : execOp (evT tmps) o = (do let d ← Deferred.ofValue (evT tmps f) (q.args.map (evT tmps)); invoke d.target d.args) := by
     simp only [execOp, ho, resolve, hcal]
    show Does P (execOp (evT tmps) o) w x w' cfr ccs
    rw [e]; exact hx
  ·rename_i r m hcal
   rw [z8] at h
   split at h
   ·rename_i h10
    split at h
    ·rename_i ty cc hget
     have hr := zC ht r (by rw [h10]; decide)
     obtain ⟨u, hu, hvu, hlt⟩ := hr.z8l h10 (c.agree.2 _ _ hget)
     obtain ⟨f, hmk, hk⟩ := z8M h
     have ha' : AR ρ L (cc :: evs T q.args.toList) (#[u] ++ q.args.map (evT tmps)).toList := by
      rw [hargs]
      simpa using AR.cons _ _ _ _ hvu ha
     refine (hcall _ _ _ _ _ _ _ _ _ _ _ _ _ cfr ccs c (.fn f) ha' hk).mono fun x w' hx => ?_
     have e : (execOp (evT tmps) o).run P w = ((do let d ← Deferred.ofValue (.func (.func f) #[] #[]) (#[u] ++ q.args.map (evT tmps)); invoke d.target d.args : Sem Next)).run P w := by
      simp only [execOp, ho, resolve, hcal]
      have h0 : (#[Value.iface ty u] ++ Array.map (evT tmps) q.args)[0]? = some (Value.iface ty u) := by simp [Array.getElem?_append]
      have hex : (Array.map (evT tmps) q.args).extract 0 q.args.size = Array.map (evT tmps) q.args := by
       apply Array.ext'
       rw [Array.toList_extract]
       simp
       exact List.take_of_length_le (by simp)
      have hpr : ∀ k : Program → Sem Next, (program >>= k : Sem Next).run P w = (k P).run P w := fun k => by simp
      simp [Deferred.ofValue, invoke, callMethod, hu, h0, hex, hmk u w]
     exact hx.congr e
    ·cases h
   ·cases h
 ·cases h
theorem z6f (c : Ctx base H n ρ L w) (ht : TR ρ L nt T tmps) (hcall : CallS P call) (h : opE P call T H n o.op = .ok v H' n') : After base H n ρ L w v H' n' (OpDone P tmps o w cfr ccs) := by
 cases hop : o.op with
 | move x => rw [hop] at h; exact (z9E c ht (.inl hop) h).after c
 | assign x => rw [hop] at h; exact (z9E c ht (.inr hop) h).after c
 | nilCheck x => exact (zdM c ht hop h).after c
 | pick q a b => exact (zci c ht hop h).after c
 | alloc t => exact zdf c hop h
 | box t x => exact zei c ht hop h
 | buildSlice t len ps => exact z7W c ht hop h
 | load t a => exact (zcj c ht hop h).after c
 | store t a x => exact zdh c ht hop h
 | binOp op t x y yt => exact (zdL c ht hop h).after c
 | unOp op t x => exact (zej c ht hop h).after c
 | makeFunc fn first cap =>
  cases fn with
  | func f => exact (z6c c ht hop h).after c
  | _ => rw [hop] at h; cases h
 | makeSlice t l q => exact z8I c ht hop h
 | slice t x lo hi mx => exact (zaG c ht hop h).after c
 | indexAddr t x i => exact (z5e c ht hop h).after c
 | extract x i => exact (z7e c ht hop h).after c
 | call q => exact zdY c ht hcall hop h
 | convert s t x => exact (z7f c ht hop h).after c
 | build t ps => exact (zaC c ht hop h).after c
 | field t x i => exact (zaD c ht hop h).after c
 | index t x i => exact (zaE c ht hop h).after c
 | fieldAddr t x i => exact (z5d c ht hop h).after c
 | lookup t x i ok => exact (z8E c ht hop h).after c
 | mapUpdate t x i y => exact z8F c ht hop h
 | makeMap t r => exact zbc c ht hop h
 | makeInterface t x => exact (z3l c ht hop h).after c
 | _ => rw [hop] at h; cases h
end
end Go.Eng
namespace Go.Eng
open Go Go.RowKit
variable [E : Env] [Pd : Pad]
section
variable {base n : Nat} {w : World} {H H' : Trie} {i n' nt T v : Nat} {ρ : Rho} {L : Look} {P : Program} {tmps : Array Value} {o : Oper} {call : Nat → List Nat → Trie → Nat → OR}
theorem z0H {len ch : Nat} {k : Trie → OR} {r : OR} (h : fresh H i len ch k = r) (hr : ∀ q, r ≠ .bad q) : i < 16384 ∧ k (hset H i (.cells len ch (i + 1) i i len)) = r := by
 unfold fresh at h
 rw [zJ] at h
 split at h
 ·exact ⟨by assumption, h⟩
 ·exact absurd h.symm (hr _)
def Makes (P : Program) (tmps : Array Value) (o : Oper) (ρ : Rho) (L : Look) (H : Trie) (i v : Nat) (H' : Trie) (n' : Nat) : Prop :=
 ∃ (len ch : Nat) (cs : Array Value) (ty : TypeId) (X : Nat → Value), H' = hset H i (.cells len ch (i + 1) i i len) ∧ n' = i + 1 ∧ i < 16384 ∧ len ≤ cs.size ∧
  (∀ j, j < len → ∃ u, cs[j]? = some u ∧ VR ρ L (getW ch j) u ∧ storable (getW ch j) = true) ∧
  (∀ w : World, (execOp (evT tmps) o).run P w = .ok (.value (X w.heap.size)) { w with heap := w.heap.push (.cells cs ty) }) ∧
  (∀ (ρ' : Rho) (L' : Look) (rb : Nat), ρ' i = some (rb, 0, cs.size) → VR ρ' L' v (X rb))
theorem Makes.of {S : Sem Value} (h : MakesA P S ρ L H i v H' n') (hS : ∀ w x w', S.run P w = .ok x w' → (execOp (evT tmps) o).run P w = .ok (.value x) w') : Makes P tmps o ρ L H i v H' n' := by
 obtain ⟨len, ch, cs, ty, X, h1, h2, h3, h4, h5, h6, h7⟩ := h.ex
 exact ⟨len, ch, cs, ty, X, h1, h2, h3, h4, h5, fun w => hS _ _ _ (h6 w), h7⟩
theorem zcl (c : Ctx base H n ρ L w) (ht : TR ρ L nt T tmps) {x : Operand} {t : TypeId} (ho : o.op = .box t x) (h : opE P call T H i o.op = .ok v H' n') : Makes P tmps o ρ L H i v H' n' := by
 rw [ho] at h
 simp only [z01, opX] at h
 rw [zf] at h
 split at h
 ·rename_i hs
  obtain ⟨hn, hk⟩ := z0H h (by simp)
  injection hk with h1 h2 h3
  subst h1; subst h2; subst h3
  have hx := zC ht x ((z0g _).1 hs).2.2.1
  obtain ⟨hc1, hc2⟩ := hx.cell hs
  exact ⟨1, _, #[evT tmps x], t, fun rb => .pointer (some ⟨rb, 0, none⟩), rfl, rfl, hn, by simp, z2H hx hs, fun w => by simp [execOp, ho, Instr.box, z3J hc1], fun ρ' L' rb hb => z1V hb⟩
 ·by_cases hnb : tagOf (ev T x) = 6
  ·refine Makes.of (z6V (P := P) (t := t) c (zC ht x (by omega)) h) fun w y w' hy => ?_
   simp [execOp, ho, hy]
  ·unfold boxA at h
   rw [z8, if_neg hnb] at h
   cases h
theorem z9I (ht : TR ρ L nt T tmps) {t : TypeId} (ho : o.op = .alloc t) (h : opE P call T H i o.op = .ok v H' n') : Makes P tmps o ρ L H i v H' n' := by
 rw [ho] at h
 simp only [z01, opX] at h
 rw [zf, zf] at h
 split at h
 ·rename_i hp
  split at h
  ·rename_i hs
   obtain ⟨hn, hk⟩ := z0H h (by simp)
   injection hk with h1 h2 h3
   subst h1; subst h2; subst h3
   obtain ⟨j, z, hi, hz, hx⟩ := z13 ρ L hs
   obtain ⟨hc1, hc2⟩ := hx.cell hs
   refine ⟨1, _, #[z], t, fun rb => .pointer (some ⟨rb, 0, none⟩), rfl, rfl, hn, by simp, z2H hx hs, fun w => ?_, fun ρ' L' rb hb => z1V hb⟩
   have hzv : (zeroValue t).run P w = .ok z w := by simp [zeroValue, typeInfo, hi, hz]
   simp [execOp, ho, Instr.alloc, hzv, z3J hc1]
  ·cases h
 ·refine Makes.of (z5a (ρ := ρ) (L := L) h) fun w y w' hy => ?_
  simp [execOp, ho, hy]
theorem z6g (ht : TR ρ L nt T tmps) {t : TypeId} {l q : Operand} (ho : o.op = .makeSlice t l q) (h : opE P call T H i o.op = .ok v H' n') : Makes P tmps o ρ L H i v H' n' := by
 rw [ho] at h
 simp only [z01, opX] at h
 obtain ⟨e, hu, _, h⟩ := z0M h rfl (by simp)
 rw [zf] at h
 split at h
 ·rename_i hp
  rw [zf] at h
  split at h
  ·rename_i hby
   obtain ⟨hl1, h⟩ := z2M h (by simp)
   obtain ⟨hq1, h⟩ := z2M h (by simp)
   rw [z0k] at h
   split at h
   ·rename_i hle
    rw [zJ] at h
    split at h
    ·rename_i hsm
     rw [zf] at h
     split at h
     ·rename_i hz
      obtain ⟨a, ha, _, hpa, hva⟩ := (zC ht l (by omega)).z0i hl1
      obtain ⟨b, hb, _, hpb, hvb⟩ := (zC ht q (by omega)).z0i hq1
      rw [hpa, hpb] at hle
      rw [hpb] at hsm
      obtain ⟨hn, hk⟩ := z0H h (by simp)
      injection hk with h1 h2 h3
      subst h1; subst h2; subst h3
      obtain ⟨i0, z, hi, hiz, hzx⟩ := z13 ρ L hz
      obtain ⟨hc1, _⟩ := hzx.cell hz
      obtain ⟨i', hi', hb0, hb1⟩ := z4P hby
      rw [hi] at hi'; injection hi' with hi'; subst hi'
      have hsz1 : i0.size = 1 := by
       obtain ⟨j, _, hj, hs, _⟩ := z2t hp
       rw [hi] at hj; injection hj with hj; subst hj; exact hs
      have hsm' : b + 1 < 1048576 := hsm
      have hrow : madeCells z.cells ((b : Int).toNat * i0.size) = Array.replicate b z := by
       rw [hc1, hsz1]; simp only [madeCells]; rw [show (b : Int).toNat * 1 = b from by omega]; exact z1P z b
      rw [hpa, hpb]
      refine ⟨b, _, Array.replicate b z, e, fun rb => .slice (some ⟨rb, 0, none⟩) a b, rfl, rfl, hn, by simp, repRow _ z hzx hz b, fun w => ?_, fun ρ' L' rb hbb => ?_⟩
      ·have hrun := run_make (P := P) w t e i0 z hu hi hiz .i64 .i64 (a : Int) (b : Int) (by omega) (by omega) (by
        have : (i0.bytes : Int) * (b : Int) ≤ 1024 * 1048576 := Int.mul_le_mul (by omega) (by omega) (by omega) (by omega)
        omega) (by omega)
       rw [hrow] at hrun
       have ea : sInt a = (a : Int) := z0J (by omega)
       have eb : sInt b = (b : Int) := z0J (by omega)
       simp only [execOp, ho, hva, hvb, ea, eb, Sem.run_bind, hrun, Result.andThen_ok, Sem.run_pure, Int.toNat_natCast]
       rfl
      ·exact z1a hbb (by omega) (by omega) hsm' hle (by omega) (.inr rfl) (by simp)
     ·cases h
    ·cases h
   ·cases h
  ·cases h
 ·cases h
theorem z5p (c : Ctx base H n ρ L w) (ht : TR ρ L nt T tmps) {t : TypeId} {len : Nat} {ps : Array (Nat × Operand)} (ho : o.op = .buildSlice t len ps) (h : opE P call T H i o.op = .ok v H' n') : Makes P tmps o ρ L H i v H' n' := by
 rw [ho] at h
 simp only [z01, opX] at h
 obtain ⟨e, hu, _, h⟩ := z0M h rfl (by simp)
 rw [zf] at h
 split at h
 ·rename_i hp
  rw [zJ] at h
  split at h
  ·rename_i hsm
   have hsm' : len + 1 < 1048576 := hsm
   rw [zf] at h
   split at h
   ·rename_i hst
    split at h
    ·rename_i ch hfill
     obtain ⟨hn, hk⟩ := z0H h (by simp)
     injection hk with h1 h2 h3
     subst h1; subst h2; subst h3
     obtain ⟨i0, d, hi, hsz, _⟩ := z2t hp
     obtain ⟨z0, hz0, hz1, hz2⟩ : ∃ z0 : Array Value, (∀ w : World, (if len * i0.size = 0 then pure #[] else do pure (← zeroValue e).cells : Sem (Array Value)).run P w = .ok z0 w) ∧
       ((Array.range (len * i0.size)).map (z0[· % z0.size]!)).size = len ∧
       ∀ j, j < len → ∃ u, ((Array.range (len * i0.size)).map (z0[· % z0.size]!))[j]? = some u ∧ VR ρ L (getW (repW (sel (Nat.beq len 0) 1 (tzero P e)) len) j) u ∧
        storable (getW (repW (sel (Nat.beq len 0) 1 (tzero P e)) len) j) = true := by
      by_cases hl : len = 0
      ·subst hl
       exact ⟨#[], fun w => by simp, by simp, fun j hj => absurd hj (by omega)⟩
      ·rw [z8, if_neg hl] at hst ⊢
       obtain ⟨i', z, hi', hiz, hzx⟩ := z13 ρ L hst
       rw [hi] at hi'; injection hi' with hi'; subst hi'
       obtain ⟨hc1, _⟩ := hzx.cell hst
       have hzv : ∀ w : World, (zeroValue e).run P w = .ok z w := fun w => by simp [zeroValue, typeInfo, hi, hiz]
       refine ⟨z.cells, fun w => by simp [hsz, hl, hzv], by simp [hsz], fun j hj => ?_⟩
       have := repRow (ρ := ρ) (L := L) (tzero P e) z hzx hst len j hj
       rw [hc1, hsz, Nat.mul_one, z1P]
       exact this
     obtain ⟨cells', f1, f2, f3⟩ := z4Q ht len ps.toList _ ch _ hz1 hz2 hfill
     refine ⟨len, ch, cells', e, fun rb => .slice (some ⟨rb, 0, none⟩) len len, rfl, rfl, hn, by omega, f3, fun w => ?_, fun ρ' L' rb hb => ?_⟩
     ·have hno : ¬ (16777216 < len * i0.size) := by rw [hsz]; omega
      have hfn : (fun j => some (j * i0.size, i0.size)) = (fun j : Nat => some (j * 1, 1)) := by rw [hsz]
      have hrun : (Instr.buildSlice t len (ps.map fun p => (p.1, evT tmps p.2))).run P w = .ok (.slice (some ⟨w.heap.size, 0, none⟩) len len) { w with heap := w.heap.push (.cells cells' e) } := by
       simp only [Nat.mul_one] at f1
       by_cases hl : len = 0
       ·subst hl
        have r0 : ∀ f : Nat → Value, (Array.range 0).map f = #[] := fun f => Array.eq_empty_of_size_eq_zero (by simp)
        simp only [Nat.zero_mul, r0] at f1
        simp [Instr.buildSlice, run_underlying hu, run_sizeOf hi, hsz, f1, r0, newRow]
       ·have hz0 := hz0 w
        simp [hsz, hl] at hz0
        obtain ⟨i', z, hi', hiz, hzx⟩ := z13 ρ L (by rw [z8, if_neg hl] at hst; exact hst)
        rw [hi] at hi'; injection hi' with hi'; subst hi'
        have hzv : (zeroValue e).run P w = .ok z w := by simp [zeroValue, typeInfo, hi, hiz]
        rw [hzv] at hz0
        simp at hz0
        subst hz0
        rw [hsz] at f1
        simp [Instr.buildSlice, run_underlying hu, run_sizeOf hi, hsz, hl, hzv, newRow, show ¬ (16777216 < len) from by omega]
        simp at f1
        rw [f1]
        simp
      simp only [execOp, ho]
      simp only [Sem.run_bind, hrun, Result.andThen_ok, Sem.run_pure]
     ·exact z1a hb (by omega) (by omega) hsm' (Nat.le_refl _) (by omega) (.inr rfl) (by omega)
    ·cases h
   ·cases h
  ·cases h
 ·refine Makes.of (z2T c ht hu h) fun w y w' hy => ?_
  simp only [execOp, ho, Sem.run_bind]
  rw [hy]; rfl
theorem makes (c : Ctx base H n ρ L w) (ht : TR ρ L nt T tmps) (ha : allocOp o.op = true) (h : opE P call T H i o.op = .ok v H' n') : Makes P tmps o ρ L H i v H' n' := by
 cases hop : o.op with
 | alloc t => exact z9I ht hop h
 | box t x => exact zcl c ht hop h
 | buildSlice t len ps => exact z5p c ht hop h
 | makeSlice t l q => exact z6g ht hop h
 | _ => rw [hop] at ha; cases ha
end
end Go.Eng
namespace Go.Eng
open Go Go.RowKit
variable [E : Env] [Pd : Pad]
section
variable {base n len ch : Nat} {H : Trie} {ρ : Rho} {L : Look} {w w' : World}
theorem Ctx.bare (c : Ctx base H n ρ L w) (hn : n < 16384) (len ch : Nat) :
  Ctx base (hset H n (.cells len ch (n + 1) n n len)) (n + 1) ρ (upd L n (.cells len ch (n + 1) n n len)) w := by
 have hs := c.sim
 have hf := c.fresh
 have e : Ext ρ L ρ (upd L n (.cells len ch (n + 1) n n len)) := .freshL hf _
 have ne : ∀ b r, ρ b = some r → b ≠ n := fun b r h => by have := hf.lt h; omega
 have gold : ∀ b r, ρ b = some r → grp (upd L n (.cells len ch (n + 1) n n len)) b = grp L b := fun b r h => z1n (ne b r h)
 have ldne : ∀ b r, ρ b = some r → grp L b = 0 ∨ grp L b - 1 ≠ n := fun b r h => by
  by_cases h0 : grp L b = 0
  ·exact .inl h0
  ·obtain ⟨⟨q, hq⟩, _⟩ := hs.ld b r h h0
   have := hf.lt hq
   exact .inr (by omega)
 have lold : ∀ b r, ρ b = some r → (live (upd L n (.cells len ch (n + 1) n n len)) b ↔ live L b) := fun b r h => z2Y (ne b r h) (ldne b r h)
 refine ⟨⟨?_, ?_, ?_, ?_, ?_, ?_, hs.bnd, hs.bs, ?_, ?_, ?_, ?_, hs.kp⟩, c.agree.hset hn _, hf.updL _⟩
 ·intro b r h
  obtain ⟨kk, h1, h2⟩ := hs.blk b r h
  exact ⟨kk, by rw [upd_ne _ _ (ne b r h)]; exact h1, fun hl => (h2 ((lold b r h).1 hl)).mono e rfl⟩
 ·intro b b' r r' h h' hl hl' hg hg' hgg
  rw [gold b r h] at hg hgg
  rw [gold b' r' h'] at hg' hgg
  exact hs.sep b b' r r' h h' ((lold b r h).1 hl) ((lold b' r' h').1 hl') hg hg' hgg
 ·intro b b' r r' h h' hl hl' hg hgg hrr
  rw [gold b r h] at hg hgg
  rw [gold b' r' h'] at hgg
  exact hs.same b b' r r' h h' ((lold b r h).1 hl) ((lold b' r' h').1 hl') hg hgg hrr
 ·intro b r m' c' g kk s mm h hl hL hg
  rw [upd_ne _ _ (ne b r h)] at hL
  have hg0 : grp L b = g := z0x hL
  have hi : info (upd L n (.cells len ch (n + 1) n n len)) (g - 1) = info L (g - 1) := z0K (by have := (ldne b r h).resolve_left (by rw [hg0]; exact hg); rw [hg0] at this; exact this)
  rw [hi]
  exact hs.mx b r m' c' g kk s mm h ((lold b r h).1 hl) hL hg
 ·intro b r h hg
  rw [gold b r h] at hg; exact hs.rw b r h hg
 ·intro b r h hg
  rw [gold b r h] at hg; exact hs.ro b r h hg
 ·intro b r h hg
  rw [gold b r h] at hg ⊢
  obtain ⟨⟨q, hq⟩, h2⟩ := hs.ld b r h hg
  exact ⟨⟨q, hq⟩, by rw [gold _ q hq]; exact h2⟩
 ·intro b m' c' g kk s mm hL hg
  by_cases hne : b = n
  ·subst hne
   rw [upd_same] at hL; injection hL with hL; injection hL with q1 q2 q3
   exact ⟨len, ch, b, b, len, by rw [← q3]; exact upd_same _ _ _⟩
  ·rw [upd_ne _ _ hne] at hL
   obtain ⟨a1, a2, a3, a4, a5, a6⟩ := hs.kind b m' c' g kk s mm hL hg
   exact ⟨a1, a2, a3, a4, a5, by rw [upd_ne _ _ (by have := hf.ltL a6; omega)]; exact a6⟩
 ·intro b p q s d lo hi hLb h64
  by_cases hne : b = n
  ·subst hne; rw [upd_same] at hLb; cases hLb
  ·rw [upd_ne _ _ hne] at hLb; exact hs.pol b p q s d lo hi hLb h64
 ·intro b r h hg
  rw [gold b r h] at hg; exact hs.rk b r h hg
theorem Ctx.made {i : Nat} (c : Ctx base H n ρ L w) (hi : i < n) (hρ : ρ i = none) (hL : L i = some (.cells len ch (i + 1) i i len))
  {cs : Array Value} {ty : TypeId} (hw : w'.heap = w.heap.push (.cells cs ty (0, 0))) (hlen : len ≤ cs.size)
  (hc : ∀ j, j < len → ∃ v, cs[j]? = some v ∧ VR ρ L (getW ch j) v ∧ storable (getW ch j) = true) :
  Ctx base H n (updR ρ i (w.heap.size, 0, cs.size)) L w' ∧ Ext ρ L (updR ρ i (w.heap.size, 0, cs.size)) L := by
 have hs := c.sim
 have hsz : w'.heap.size = w.heap.size + 1 := by rw [hw]; simp
 have hold : ∀ x, x < w.heap.size → w'.heap[x]? = w.heap[x]? := fun x hx => by rw [hw, Array.getElem?_push, if_neg (by omega)]
 have ne : ∀ b r, ρ b = some r → b ≠ i := fun b r h hb => by rw [hb, hρ] at h; cases h
 have e : Ext ρ L (updR ρ i (w.heap.size, 0, cs.size)) L := ⟨⟨fun b r h => by rw [z1T _ _ (ne b r h)]; exact h, fun _ _ _ _ h => h, fun _ _ _ _ _ _ _ h => h, fun _ h => h⟩, fun _ h => h⟩
 have old : ∀ b r, updR ρ i (w.heap.size, 0, cs.size) b = some r → b ≠ i → ρ b = some r := fun b r h hne => by rw [z1T _ _ hne] at h; exact h
 have gi : grp L i = i + 1 := z0x hL
 have ldne : ∀ b r, ρ b = some r → grp L b ≠ 0 → grp L b ≠ i + 1 := fun b r h h0 hg => by
  obtain ⟨⟨q, hq⟩, _⟩ := hs.ld b r h h0
  rw [hg] at hq
  simp at hq
  rw [hρ] at hq; cases hq
 refine ⟨⟨⟨?_, ?_, ?_, ?_, ?_, ?_, ?_, ?_, ?_, hs.kind, hs.pol, ?_, ?_⟩, c.agree, fun b hb => ?_⟩, e⟩
 ·intro b r h
  by_cases hne : b = i
  ·subst hne
   rw [zU] at h; injection h with h; subst h
   refine ⟨_, hL, fun _ => ⟨cs, ty, (0, 0), by rw [hw]; simp, by simp, hlen, fun _ => rfl, fun j hj => ?_⟩⟩
   obtain ⟨v, a1, a2, a3⟩ := hc j hj
   exact ⟨v, by simpa using a1, a2.mono e, a3⟩
  ·have h' := old b r h hne
   obtain ⟨kk, h1, h2⟩ := hs.blk b r h'
   exact ⟨kk, h1, fun hl => (h2 hl).mono e (hold _ (hs.bnd b r h'))⟩
 ·intro b b' r r' h h' hl hl' hg hg' hgg
  by_cases hne : b = i
  ·by_cases hne' : b' = i
   ·subst hne; subst hne'; exact absurd rfl hgg
   ·subst hne
    rw [zU] at h; injection h with h; subst h
    have := hs.bnd b' r' (old b' r' h' hne')
    simp; omega
  ·by_cases hne' : b' = i
   ·subst hne'
    rw [zU] at h'; injection h' with h'; subst h'
    have := hs.bnd b r (old b r h hne)
    simp; omega
   ·exact hs.sep b b' r r' (old b r h hne) (old b' r' h' hne') hl hl' hg hg' hgg
 ·intro b b' r r' h h' hl hl' hg hgg hrr
  by_cases hne : b = i
  ·by_cases hne' : b' = i
   ·subst hne; subst hne'; rw [h] at h'; injection h' with h'; rw [h']
   ·subst hne
    rw [zU] at h; injection h with h; subst h
    have := hs.bnd b' r' (old b' r' h' hne')
    simp at hrr; omega
  ·by_cases hne' : b' = i
   ·subst hne'
    rw [zU] at h'; injection h' with h'; subst h'
    have := hs.bnd b r (old b r h hne)
    simp at hrr; omega
   ·exact hs.same b b' r r' (old b r h hne) (old b' r' h' hne') hl hl' hg hgg hrr
 ·intro b r m c' g kk s mm h hl hLb hg
  by_cases hne : b = i
  ·subst hne
   rw [hL] at hLb; injection hLb with hLb; injection hLb with q1 q2 q3 q4 q5 q6
   subst q3
   simp only [Nat.add_sub_cancel, info, hL]
   omega
  ·exact hs.mx b r m c' g kk s mm (old b r h hne) hl hLb hg
 ·intro b r h hg
  by_cases hne : b = i
  ·subst hne; rw [zU] at h; injection h with h; subst h; exact hs.bs
  ·exact hs.rw b r (old b r h hne) hg
 ·intro b r h hg
  by_cases hne : b = i
  ·subst hne; rw [gi] at hg; omega
  ·exact hs.ro b r (old b r h hne) hg
 ·intro b r h
  by_cases hne : b = i
  ·subst hne; rw [zU] at h; injection h with h; subst h; simp; omega
  ·have := hs.bnd b r (old b r h hne); omega
 ·have := hs.bs; omega
 ·intro b r h hg
  by_cases hne : b = i
  ·subst hne; rw [gi]; exact ⟨⟨_, zU _ _ _⟩, gi⟩
  ·have h' := old b r h hne
   obtain ⟨⟨q, hq⟩, h2⟩ := hs.ld b r h' hg
   exact ⟨⟨q, e.place _ _ hq⟩, h2⟩
 ·intro b r h hg
  by_cases hne : b = i
  ·subst hne; rw [zU] at h; injection h with h; subst h; exact hs.kptNone (Nat.le_refl _)
  ·exact hs.rk b r (old b r h hne) hg
 ·intro x o hx
  have := hs.kp x o hx
  rw [hold x (Array.getElem?_eq_some_iff.1 this).1]; exact this
 ·obtain ⟨a1, a2⟩ := c.fresh b hb
  exact ⟨a1, by rw [z1T _ _ (by omega)]; exact a2⟩
end
end Go.Eng
namespace Go.Eng
open Go Go.RowKit
variable [E : Env] [Pd : Pad]
def CallT (P : Program) (call : Nat → List Nat → Trie → Nat → OR) : Prop :=
 ∀ (base : Nat) (H : Trie) (n : Nat) (ρ : Rho) (L : Look) (w : World) (fw : Nat) (args : List Nat) (fv : Value) (vs : Array Value) (v : Nat) (H' : Trie) (n' : Nat),
  Ctx base H n ρ L w → VR ρ L fw fv → AR ρ L args vs.toList → call fw args H n = .ok v H' n' → Tame P (do let d ← Deferred.ofValue fv vs; invoke d.target d.args) w
theorem Tame.of_run {α : Type} {P : Program} {s t : Sem α} {w : World} (h : Tame P s w) (e : s = t) : Tame P t w := e ▸ h
section
variable {base : Nat} {H H' : Trie} {n n' nt T v : Nat} {ρ : Rho} {L : Look} {w : World} {P : Program} {tmps : Array Value} {call : Nat → List Nat → Trie → Nat → OR} {o : Oper} {cfr : Frame} {ccs : List Frame}
theorem z1b {s : Sem Value} (h : Tame P s w) : Tame P (do pure (.value (← s)) : Sem Next) w := h.bind fun _ _ _ => (zb _).tame _
theorem zdN {s : Sem Unit} (h : Tame P s w) : Tame P (do s; pure .skip : Sem Next) w := h.bind fun _ _ _ => (zb _).tame _
theorem z1W {vs : Array Value} (h : ∀ v ∈ vs.toList, IntCell v) : NP (.agg vs) := by
 intro c hc
 obtain ⟨z, rfl, _⟩ := h c hc
 exact trivial
theorem VR.int12 {x : Nat} {vx : Value} (h : VR ρ L x vx) (ht : tagOf x = 12) : ∃ z, vx = .int .i64 z := by
 obtain ⟨j, lo, hi, _, _, _, _, _, rfl⟩ := h.z3V ht; exact ⟨_, rfl⟩
theorem z9J {op : BinOp} {t : TypeId} {x y : Nat} {vx vy : Value} (hx : VR ρ L x vx) (hy : VR ρ L y vy) (h : tagOf (binE P op t x y) ≠ 15) : Simple vx vy := by
 unfold binE at h
 rw [z8] at h
 split at h
 ·rename_i h1
  obtain ⟨a, _, _, _, rfl⟩ := hx.z0i h1
  rw [z8] at h
  split at h
  ·rename_i h2
   obtain ⟨b, _, _, _, rfl⟩ := hy.z0i h2
   exact .int _ _ _ _
  ·rw [z8] at h
   split at h
   ·rename_i h2
    obtain ⟨z, rfl⟩ := hy.int12 h2
    exact .int _ _ _ _
   ·exact absurd rfl h
 ·rw [z8] at h
  split at h
  ·rename_i h2
   obtain ⟨a, _, rfl⟩ := hx.z1J h2
   rw [z8] at h
   split at h
   ·rename_i h3
    obtain ⟨b, _, rfl⟩ := hy.z1J h3
    exact .bool _ _
   ·exact absurd rfl h
  ·rw [z8] at h
   split at h
   ·rename_i h4
    rw [z8] at h
    split at h
    ·rename_i h5
     rcases hy.z0E (by rw [h5]; rfl) with ⟨_, rfl⟩ | ⟨b, e', o', n', k', rb, d, sz, cc, a, _, he, hoo, hnn, hkk, _, _, _, _, hw, rfl⟩
     ·rcases hx.z0E h4 with ⟨_, rfl⟩ | ⟨b, e', o', n', k', rb, d, sz, cc, a, _, he, hoo, hnn, hkk, _, _, _, _, _, rfl⟩
      ·exact .slice _ _ _ _ _ _
      ·exact .slice _ _ _ _ _ _
     ·rcases hx.z0E h4 with ⟨_, rfl⟩ | ⟨b, e', o', n', k', rb, d, sz, cc, a, _, he, hoo, hnn, hkk, _, _, _, _, _, rfl⟩
      ·exact .slice _ _ _ _ _ _
      ·exact .slice _ _ _ _ _ _
    ·exact absurd rfl h
   ·rw [z8] at h
    split at h
    ·rename_i h12
     obtain ⟨z, rfl⟩ := hx.int12 h12
     rw [z8] at h
     split at h
     ·rename_i h2
      obtain ⟨b, _, _, _, rfl⟩ := hy.z0i h2
      exact .int _ _ _ _
     ·exact absurd (z1I _) h
    ·rw [z8] at h
     split at h
     ·rename_i h9
      obtain ⟨tt, u, z, _, _, _, _, _, _, rfl⟩ := hx.zc2 h9
      rw [z8] at h
      split at h
      ·rename_i h2
       obtain ⟨b, _, _, _, rfl⟩ := hy.z0i h2
       exact .int _ _ _ _
      ·exact absurd rfl h
     ·rw [z8] at h
      split at h
      ·rename_i h14
       obtain ⟨a, rfl⟩ := hx.z5K (by rw [h14]; rfl)
       rw [z8] at h
       split at h
       ·rename_i h5
        rcases hy.z0E (by rw [h5]; rfl) with ⟨_, rfl⟩ | ⟨b, e', o', n', k', rb, d, sz, cc, a, _, he, hoo, hnn, hkk, _, _, _, _, hw, rfl⟩
        ·exact .slice _ _ _ _ _ _
        ·exact .slice _ _ _ _ _ _
       ·exact absurd rfl h
      ·unfold ptrB at h
       rw [z8] at h
       split at h
       ·rename_i h3
        rw [z8] at h
        split at h
        ·rename_i h4
         have hpy : vy = .pointer none := by
          rcases hy.z1j (by rw [h4]; decide) with ⟨_, h⟩ | ⟨b, off, rb, d, sz, _, ho', hw, _⟩
          ·exact h
          ·exfalso
           rw [h4] at hw
           have := (z2p b off ho').2.2
           rw [← hw] at this
           exact absurd this (by rw [show pBlk (payOf 3) = 0 from rfl]; omega)
         subst hpy
         rcases hx.z1j h3 with ⟨_, rfl⟩ | ⟨_, _, _, _, _, _, _, _, rfl⟩
         ·exact .pnil _
         ·exact .pnil _
        ·exact absurd rfl h
       ·exact absurd rfl h
theorem z9K (c : Ctx base H n ρ L w) (ht : TR ρ L nt T tmps) {op : BinOp} {t yt : TypeId} {x y : Operand} (h : opE P call T H n (.binOp op t x y yt) = .ok v H' n') :
  Simple (evT tmps x) (evT tmps y) := by
 simp only [z01, opX] at h
 have fin : okv (binE P op t (ev T x) (ev T y)) H n = .ok v H' n' → Simple (evT tmps x) (evT tmps y) := by
  intro h
  obtain ⟨h1, rfl, rfl, rfl⟩ := z0N h
  obtain ⟨hx, hy⟩ := z8D h1
  exact z9J (zC ht x hx) (zC ht y hy) h1
 rw [zf] at h
 split at h
 ·rename_i hb
  unfold bothI at hb
  rw [z8] at hb
  split at hb
  ·rename_i hx1
   have hy1 := Nat.eq_of_beq_eq_true hb
   obtain ⟨a, _, _, _, e1⟩ := (zC ht x (by omega)).z0i hx1
   obtain ⟨b, _, _, _, e2⟩ := (zC ht y (by omega)).z0i hy1
   rw [e1, e2]; exact .int _ _ _ _
  ·cases hb
 rw [z8] at h
 split at h
 ·rename_i h6
  have hyb : tagOf (ev T y) ≠ 15 := by
   intro hyb
   unfold eqA at h
   have := z14 h
   rw [z8, if_neg (by omega)] at this
   cases this
  have hx := zC ht x (by omega)
  have hy := zC ht y hyb
  unfold eqA at h
  have h := z1M h
  have hy6 : tagOf (ev T y) = 6 := Nat.eq_of_beq_eq_true (z1s h)
  have h := z1M h
  split at h
  ·rename_i m ch m' ch' g1 g2
   obtain ⟨vs, e1, hc1⟩ := hx.z2L h6 (c.agree.2 _ _ g1)
   obtain ⟨vs', e2, hc2⟩ := hy.z2L hy6 (c.agree.2 _ _ g2)
   rw [e1, e2]
   rw [zf] at h
   split at h
   ·rename_i hq
    obtain ⟨q1, hq⟩ := z0e hq
    obtain ⟨q2, hq⟩ := z0e hq
    obtain ⟨hi1, hi2⟩ := z0e hq
    have hmm : m' = m := by rw [show m = P.cellsOf t from Nat.eq_of_beq_eq_true q1, show m' = P.cellsOf t from Nat.eq_of_beq_eq_true q2]
    subst hmm
    exact .agg _ _ (z1W (intCells hc1 hi1).1) (z1W (intCells hc2 hi2).1)
   ·unfold eqA2 at h
    have hq := z1s h
    obtain ⟨q1, hq⟩ := z0e hq
    obtain ⟨q2, hq⟩ := z0e hq
    obtain ⟨hi1, hi2⟩ := z0e hq
    obtain ⟨a1, f, a2⟩ := numCells c hc1 hi1
    obtain ⟨b1, f', b2⟩ := numCells c hc2 hi2
    exact .agg _ _ (z1W a1) (z1W b1)
  ·cases h
 rw [z8] at h
 split at h
 ·rename_i h5
  obtain ⟨h1, rfl, rfl, rfl⟩ := z0N h
  obtain ⟨p, _, _, hxv⟩ := (zC ht x (by omega)).z3U h5
  have hyb : tagOf (ev T y) = 5 ∨ tagOf (ev T y) = 1 := by
   unfold binU at h1
   simp only at h1
   rw [z8] at h1
   split at h1
   ·exact .inl ‹_›
   ·rw [z8] at h1
    split at h1
    ·exact .inr ‹_›
    ·exact absurd rfl h1
  rw [hxv]
  rcases hyb with hyb | hyb
  ·obtain ⟨q, _, _, hyv⟩ := (zC ht y (by omega)).z3U hyb
   rw [hyv]; exact .int _ _ _ _
  ·obtain ⟨b, _, _, _, e2⟩ := (zC ht y (by omega)).z0i hyb
   rw [e2]; exact .int _ _ _ _
 rw [zf] at h
 split at h
 ·obtain ⟨hx, hy⟩ := z3w h
  obtain ⟨zx, zy, e1, e2, hc⟩ := z2G (P := P) c (zC ht x hx) (zC ht y hy) (t := t) h
  rw [e1, e2]; exact .int _ _ _ _
 rw [zf] at h
 split at h
 ·rename_i hs
  obtain ⟨h1, rfl, rfl, rfl⟩ := z0N h
  have hs1 : tagOf (ev T x) = 7 := by
   rw [z8] at hs
   split at hs
   ·assumption
   ·cases hs
  have hs2 : tagOf (ev T y) = 7 := by
   rw [z8, if_pos hs1] at hs
   exact Nat.eq_of_beq_eq_true hs
  obtain ⟨a, b, r, e1, e2, hr1, hr2⟩ := z7d (P := P) (w := w) (t := t) (zC ht x (by omega)) (zC ht y (by omega)) h1
  rw [e1, e2]; exact .str _ _
 ·exact fin h
theorem z4R {t : TypeId} {u : Value} {wr : Option String} (hu : ∃ d, P.underlying t = some d ∧ ∀ e, d ≠ .pointer e) (w : World) : Tame P (receiverAt t (.val u) false wr) w := by
 obtain ⟨d, hu, hne⟩ := hu
 unfold receiverAt
 refine Tame.bind ((za t).tame w) fun x w1 hx => ?_
 obtain ⟨h2, rfl⟩ := z0I hx
 rw [hu] at h2; injection h2 with h2; subst h2
 cases d <;> first | exact absurd rfl (hne _) | exact (zb _).tame _
theorem z5q {t : TypeId} {i : TypeInfo} {w1 : World} (h : (typeInfo t).run P w = .ok i w1) : P.info? t = some i ∧ w1 = w := by
 unfold typeInfo at h
 simp only [program, Sem.run_bind, Sem.run, Result.andThen_ok] at h
 split at h
 ·rename_i x hx
  simp only [Sem.run_pure] at h
  injection h with h1 h2; subst h1; subst h2; exact ⟨hx, rfl⟩
 ·simp [stuck, Sem.run] at h
theorem zbd {t : TypeId} {name : String} {k : Nat → OR} (h : methK P t name k = .ok v H' n') (u : Value) (w : World) : Tame P (method (P.types.size + Made.depth) t u name) w := by
 unfold methK at h
 split at h
 ·rename_i i hi
  split at h
  ·rename_i m hm
   split at h
   ·rename_i f hp hf
    rw [zf] at h
    split at h
    ·cases h
    ·rename_i hpt
     have hfind : i.methods.find? (·.name == name) = some m := by rw [← Array.find?_toList, z7k, hm]
     have hd : Made.depth + P.types.size = (P.types.size + Made.depth - 1) + 1 := by unfold Made.depth; omega
     rw [Nat.add_comm, hd]
     have hu : ∃ d, P.underlying t = some d ∧ ∀ e, d ≠ .pointer e := by
      unfold ptrT at hpt
      cases hu : P.underlying t with
      | none => rw [hu] at hpt; exact absurd rfl hpt
      | some d => exact ⟨d, rfl, fun e he => by rw [hu, he] at hpt; exact absurd rfl hpt⟩
     unfold method
     refine Tame.bind ((zg t).tame w) fun j w1 hj => ?_
     obtain ⟨h2, rfl⟩ := z5q hj
     rw [hi] at h2; injection h2 with h2; subst h2
     simp only [hfind, hp, follow, hf]
     refine Tame.bind ((zb _).tame _) fun q w1 hq => ?_
     simp only [Sem.run_pure] at hq
     injection hq with h1 h2; subst h1; subst h2
     dsimp only
     exact Tame.bind (z4R hu _) fun _ _ _ => (zb _).tame _
   ·cases h
  ·cases h
 ·cases h
theorem z7Z {b : Builtin} {ts : List TypeId} {args : List Nat} (h : builtinE P b ts args H n = .ok v H' n') (as : Array TypeId) (ty : TypeId) (consts : Array Bool) (vs : Array Value) : Plain P (builtin b as ty consts vs) := by
 have pv : ∀ s : Sem Value, Plain P s → Plain P (do pure (.value (← s)) : Sem Next) := fun s hs => Plain.bind hs fun _ => zb _
 unfold builtinE at h
 split at h
 ·exact pv _ (z4s _ _ _)
 ·exact pv _ (z8o _ _ _)
 ·exact pv _ (z8p _ _ _)
 ·exact pv _ (zc6 _ _ _)
 ·exact pv _ (zc7 _ _ _)
 ·exact pv _ (z9s _ _ _)
 ·exact pv _ (z2Q _ _ _)
 ·cases h
theorem z8N (c : Ctx base H n ρ L w) (ht : TR ρ L nt T tmps) (hT : CallT P call) {q : Call} (ho : o.op = .call q) (h : opE P call T H n o.op = .ok v H' n') : Tame P (execOp (evT tmps) o) w := by
 rw [ho] at h
 simp only [z01, opX, callE] at h
 rw [zf] at h
 split at h
 ·rename_i hnb
  have ha := z1N ht q.args.toList hnb
  have hargs : (q.args.map (evT tmps)) = (q.args.toList.map (evT tmps)).toArray := by apply Array.ext'; simp
  split at h
  ·rename_i b hcal
   have := (z7Z h q.argTypes o.type (q.args.map fun | .const _ => true | _ => false) (q.args.map (evT tmps))).tame w
   refine this.of_run ?_
   simp only [execOp, ho, resolve, hcal, invoke]
   rfl
  ·rename_i f hcal
   rw [z8] at h
   split at h
   ·cases h
   ·rename_i hf
    have hfv := zC ht f hf
    have ha' : AR ρ L (evs T q.args.toList) (q.args.map (evT tmps)).toList := by rw [hargs]; exact ha
    refine (hT _ _ _ _ _ _ _ _ _ _ _ _ _ c hfv ha' h).of_run ?_
    simp only [execOp, ho, resolve, hcal]
  ·rename_i r m hcal
   rw [z8] at h
   split at h
   ·rename_i h10
    split at h
    ·rename_i ty cc hget
     have hr := zC ht r (by rw [h10]; decide)
     obtain ⟨u, hu, hvu, hlt⟩ := hr.z8l h10 (c.agree.2 _ _ hget)
     obtain ⟨f, hmk, hk⟩ := z8M h
     have ha' : AR ρ L (cc :: evs T q.args.toList) (#[u] ++ q.args.map (evT tmps)).toList := by
      rw [hargs]
      simpa using AR.cons _ _ _ _ hvu ha
     have key := hT _ _ _ _ _ _ _ _ _ _ _ _ _ c (.fn f) ha' hk
     have e1 : (do let d ← Deferred.ofValue (.func (.func f) #[] #[]) (#[u] ++ q.args.map (evT tmps)); invoke d.target d.args : Sem Next) = callFunc f (#[u] ++ q.args.map (evT tmps)) := by
      simp [Deferred.ofValue, invoke]
     rw [e1] at key
     have h0 : (#[Value.iface ty u] ++ Array.map (evT tmps) q.args)[0]? = some (Value.iface ty u) := by simp [Array.getElem?_append]
     have hex : (#[Value.iface ty u] ++ Array.map (evT tmps) q.args).extract 1 (#[Value.iface ty u] ++ Array.map (evT tmps) q.args).size = Array.map (evT tmps) q.args := by
      apply Array.ext'
      rw [Array.toList_extract]
      simp
      exact List.take_of_length_le (by simp)
     have : Tame P (callMethod (.iface ty u) m (Array.map (evT tmps) q.args)) w := by
      unfold callMethod
      dsimp only
      refine Tame.bind (zl.tame w) fun p w1 hp => ?_
      have hp' : p = P ∧ w1 = w := by
       simp only [program, Sem.run] at hp
       injection hp with h1 h2; exact ⟨h1.symm, h2.symm⟩
      obtain ⟨rfl, rfl⟩ := hp'
      refine Tame.bind (zbd h u _) fun x w2 hx => ?_
      rw [hmk u w1] at hx
      injection hx with h1 h2; subst h1; subst h2
      exact key
     refine this.of_run ?_
     simp only [execOp, ho, resolve, hcal, hu]
     show _ = invoke (.fn (.method m) #[]) (#[Value.iface ty u] ++ Array.map (evT tmps) q.args)
     unfold invoke
     dsimp only
     rw [h0, hex]
    ·cases h
   ·cases h
 ·cases h
theorem z8O {s : TypeId} {x f : Nat} {u : Value} (h : fieldAddrA P s x f H n = .ok v H' n') (w : World) : Tame P (Instr.fieldAt s u f) w := by
 unfold fieldAddrA at h
 split at h
 ·rename_i fs hu
  split at h
  ·rename_i fl hf
   rw [zf] at h
   split at h
   ·rename_i hinf
    obtain ⟨i, hi⟩ := z1k hinf
    rw [z8] at h
    split at h
    ·cases h
    ·rename_i hsz
     rw [z1C hi] at hsz
     unfold Instr.fieldAt
     refine Tame.bind ((za s).tame w) fun d w1 hd => ?_
     obtain ⟨h2, rfl⟩ := z0I hd
     rw [hu] at h2; injection h2 with h2; subst h2
     dsimp only
     rw [hf]
     dsimp only
     refine Tame.bind ((zV u).tame _) fun a w2 ha => ?_
     refine Tame.bind ?_ fun _ _ _ => (zb _).tame _
     unfold fieldPlace
     refine Tame.bind ((zn _).tame _) fun m w3 hm => ?_
     have hm' : m = i.size := by
      rw [z0L hi] at hm
      injection hm with h1 _; exact h1.symm
     rw [if_neg (by rw [hm']; exact hsz)]
     exact (zb _).tame _
   ·cases h
  ·cases h
 ·cases h
theorem zcm (w : World) : MapNP w (.map none) := fun r h => by cases h
theorem zaH (c : Ctx base H n ρ L w) {x m rb d sz : Nat} {es : List (Nat × Nat)} (hb : ρ (mapBlk x) = some (rb, d, sz)) (hget : tget H (mapBlk x) = some (.mp 1 m es)) : MapNP w (.map (some rb)) := by
 intro r hr es' cl hh e he
 injection hr with hr; injection hr with hr; subst hr
 obtain ⟨hL, ents, clock, h1, h2, h3⟩ := z5X c hb hget (by decide)
 rw [h1] at hh
 injection hh with hh; injection hh with hh1 hh2; subst hh1
 obtain ⟨i, hi, hei⟩ := List.mem_iff_getElem.1 he
 have hi' : i < es.length := by rw [← h2]; simpa using hi
 obtain ⟨e', a, hk, _⟩ := h3 i es[i] (by simp [hi'])
 have : e' = e := by
  rw [← hei]
  have a' : ents.toList[i]? = some e' := by simpa using a
  rw [List.getElem?_eq_getElem hi] at a'
  injection a' with a'; exact a'.symm
 subst this
 rcases hk with ⟨h0, _⟩ | ⟨_, hall, vs, hv, hcr⟩
 ·cases h0
 ·rw [hv]; exact z1W (intCells hcr hall).1
theorem zcn (c : Ctx base H n ρ L w) {t : TypeId} {x y : Nat} {u uk : Value} {ok : Bool} (hx : VR ρ L x u) (hy : VR ρ L y uk) (h : lookupE P t x y ok H n = .ok v H' n') : Tame P (Instr.lookup t u uk ok) w := by
 unfold lookupE at h
 obtain ⟨kt, et, hu, hk, h⟩ := z3I h (by simp)
 obtain ⟨kc, vs, rfl, hcr, hai, h⟩ := z5x c hy h (by simp)
 refine z9u t u (.agg vs) ok (z1W (intCells hcr hai).1) ?_
 rw [z8] at h
 split at h
 ·rename_i hn
  obtain rfl := hx.z4N hn
  exact zcm w
 ·rw [zf] at h
  split at h
  ·rename_i hmw
   obtain ⟨rb, d, sz, hb, rfl⟩ := hx.z5W hmw
   split at h
   ·rename_i m es hget
    exact zaH c hb hget
   ·cases h
  ·cases h
theorem zbe (c : Ctx base H n ρ L w) {t : TypeId} {x y z : Nat} {u uk : Value} (uv : Value) (hx : VR ρ L x u) (hy : VR ρ L y uk) (h : mapUpE P t x y z H n = .ok v H' n') : Tame P (Instr.mapUpdate t u uk uv) w := by
 unfold mapUpE at h
 obtain ⟨kt, et, hu, hk, h⟩ := z3I h (by simp)
 obtain ⟨kc, vs, rfl, hcr, hai, h⟩ := z5x c hy h (by simp)
 refine z6J t u (.agg vs) uv (z1W (intCells hcr hai).1) ?_
 rw [zf] at h
 split at h
 ·rw [zf] at h
  split at h
  ·rename_i hmw
   obtain ⟨rb, d, sz, hb, rfl⟩ := hx.z5W hmw
   split at h
   ·rename_i m es hget
    exact zaH c hb hget
   ·cases h
  ·cases h
 ·cases h
theorem zco (ht : TR ρ L nt T tmps) {s t : TypeId} {x : Operand} (h : opE P call T H n (.convert s t x) = .ok v H' n') (w : World) : Tame P (convert s t (evT tmps x)) w := by
 simp only [z01, opX] at h
 have ty : ∀ {t : TypeId} {k : IntKind}, isIntT P t k = true → P.underlying t = some (.int k) := by
  intro t k h
  unfold isIntT at h
  split at h
  ·rename_i k' hu
   rw [hu, of_decide_eq_true h]
  ·cases h
 rw [z8] at h
 split at h
 ·rename_i h1
  rw [zf] at h
  split at h
  ·rw [zf] at h
   split at h
   ·rename_i h3
    obtain ⟨p, hp, _, hpp, hv⟩ := (zC ht x (by omega)).z0i h1
    rw [hv]; exact z3s _ _ _ _ (ty h3)
   ·cases h
  ·cases h
 ·rw [z8] at h
  split at h
  ·rename_i h1
   rw [zf] at h
   split at h
   ·obtain ⟨p, hp, hpp, hv⟩ := (zC ht x (by omega)).z3U h1
    rw [hv]
    rw [zf] at h
    split at h
    ·rename_i h3
     exact z3s _ _ _ _ (ty h3)
    ·rw [zf] at h
     split at h
     ·rename_i h3
      exact z3s _ _ _ _ (ty h3)
     ·cases h
   ·cases h
  ·cases h
theorem zcp {t : TypeId} {x i : Operand} {ok : Bool} (h : lookupE P t (ev T x) (ev T i) ok H n = .ok v H' n') : tagOf (ev T x) ≠ 15 ∧ tagOf (ev T i) ≠ 15 := by
 have nb : tagOf (ev T x) ≠ 15 ∧ tagOf (ev T i) ≠ 15 := by
  unfold lookupE at h
  obtain ⟨kt, et, h⟩ := z6b h
  refine ⟨fun hb => ?_, fun hb => z5z hb h⟩
  unfold keyE at h
  have h := z14 h
  split at h
  ·have h := z14 (z14 h)
   dsimp only at h
   rw [z8] at h
   split at h
   ·rename_i h39; rw [h39] at hb; cases hb
   ·unfold isMapW at h
    rw [zf] at h
    split at h
    ·rename_i hm
     rw [z8] at hm
     split at hm
     ·omega
     ·cases hm
    ·cases h
  ·cases h
 exact nb
theorem zbf {t : TypeId} {x i y : Operand} (h : mapUpE P t (ev T x) (ev T i) (ev T y) H n = .ok v H' n') : tagOf (ev T x) ≠ 15 ∧ tagOf (ev T i) ≠ 15 := by
 have nb : tagOf (ev T x) ≠ 15 ∧ tagOf (ev T i) ≠ 15 ∧ tagOf (ev T y) ≠ 15 := by
  unfold mapUpE at h
  obtain ⟨kt, et, h⟩ := z6b h
  refine ⟨fun hb => ?_, fun hb => z5z hb h, fun hb => ?_⟩
  all_goals
   unfold keyE at h
   have h := z14 h
   split at h
   ·have h := z14 (z14 h)
    dsimp only at h
    rw [zf] at h
    split at h
    ·rename_i hst
     have hs3 := ((z0g _).1 hst).2.2.1
     have h := h
     rw [zf] at h
     split at h
     ·rename_i hm
      unfold isMapW at hm
      rw [z8] at hm
      split at hm
      ·first | omega | exact hs3 hb
      ·cases hm
     ·cases h
    ·cases h
   ·cases h
 exact ⟨nb.1, nb.2.1⟩
theorem z5B (c : Ctx base H n ρ L w) (ht : TR ρ L nt T tmps) (hT : CallT P call) (h : opE P call T H n o.op = .ok v H' n') : Tame P (execOp (evT tmps) o) w := by
 have pv : ∀ {s : Sem Value} {k : Sem Next}, (k = do pure (.value (← s))) → Plain P s → Tame P k w := fun e hs => e ▸ z1b (hs.tame w)
 cases hop : o.op with
 | move x => exact ((zb (Next.value (evT tmps x))).tame w).of_run (by simp only [execOp, hop])
 | assign x => exact ((zb (Next.value (evT tmps x))).tame w).of_run (by simp only [execOp, hop])
 | pick q a b =>
  refine Tame.of_run (s := do pure (.value (if ← asBool (evT tmps q) then evT tmps a else evT tmps b))) ((Plain.bind (zK _) fun _ => zb _).tame w) ?_
  simp only [execOp, hop]
 | alloc t => exact (z1b ((z0c t true (.tuple #[])).tame w)).of_run (by simp only [execOp, hop])
 | box t x => exact (z1b ((z0t t (evT tmps x)).tame w)).of_run (by simp only [execOp, hop])
 | buildSlice t len ps => exact (z1b ((zX t len (ps.map fun (i, x) => (i, evT tmps x))).tame w)).of_run (by simp only [execOp, hop])
 | load t a => exact (z1b ((z06 t (evT tmps a)).tame w)).of_run (by simp only [execOp, hop])
 | store t a x => exact (zdN ((z03 t (evT tmps a) (evT tmps x)).tame w)).of_run (by simp only [execOp, hop])
 | binOp op t x y yt =>
  rw [hop] at h
  have hs := z9K c ht h
  exact (z1b ((Plain.bind (z1c op t x y (evT tmps x) (evT tmps y)) fun _ => z9t op t _ _ hs).tame w)).of_run (by simp only [execOp, hop])
 | unOp op t x => exact (z1b ((z0Q op (evT tmps x)).tame w)).of_run (by simp only [execOp, hop])
 | makeFunc fn first cap => exact (z1b ((z0v fn (first.map (evT tmps)) (cap.map (evT tmps))).tame w)).of_run (by simp only [execOp, hop])
 | makeSlice t l q => exact (z1b ((z0u t (evT tmps l) (evT tmps q)).tame w)).of_run (by simp only [execOp, hop])
 | slice t x lo hi mx => exact (z1b ((z0o t (evT tmps x) (lo.map (evT tmps)) (hi.map (evT tmps)) (mx.map (evT tmps))).tame w)).of_run (by simp only [execOp, hop])
 | indexAddr t x i => exact (z1b ((z0d t (evT tmps x) (evT tmps i)).tame w)).of_run (by simp only [execOp, hop])
 | extract x i => exact (z1b ((z0Z (evT tmps x) i).tame w)).of_run (by simp only [execOp, hop])
 | call q => exact z8N c ht hT hop h
 | convert s t x =>
  rw [hop] at h
  exact (z1b (zco ht h w)).of_run (by simp only [execOp, hop])
 | build t ps => exact (z1b ((z0m t (ps.map fun (i, x) => (i, evT tmps x))).tame w)).of_run (by simp only [execOp, hop])
 | field t x i => exact (z1b ((z0A t (evT tmps x) i).tame w)).of_run (by simp only [execOp, hop])
 | index t x i => exact (z1b ((z0F t (evT tmps x) (evT tmps i)).tame w)).of_run (by simp only [execOp, hop])
 | fieldAddr t x i =>
  rw [hop] at h
  simp only [z01, opX] at h
  exact (z1b (z8O (u := evT tmps x) h w)).of_run (by simp only [execOp, hop])
 | lookup t x i ok =>
  rw [hop] at h
  simp only [z01, opX] at h
  have nb := zcp h
  exact (z1b (zcn c (zC ht x nb.1) (zC ht i nb.2) h)).of_run (by simp only [execOp, hop])
 | mapUpdate t x i y =>
  rw [hop] at h
  simp only [z01, opX] at h
  have nb := zbf h
  exact (zdN (zbe c (evT tmps y) (zC ht x nb.1) (zC ht i nb.2) h)).of_run (by simp only [execOp, hop])
 | makeMap t r => exact (z1b ((z0B t (r.map (evT tmps))).tame w)).of_run (by simp only [execOp, hop])
 | makeInterface t x => exact (z1b ((z0p t (evT tmps x)).tame w)).of_run (by simp only [execOp, hop])
 | nilCheck x =>
  rw [hop] at h
  simp only [z01, opX] at h
  rw [z8] at h
  split at h
  ·rename_i h3
   rcases (zC ht x (by omega)).z1j h3 with ⟨h4, _⟩ | ⟨b, off, rb, d, sz, hb, ho', hw, hv⟩
   ·rw [h4] at h; cases h
   ·refine ((zb (Next.value (evT tmps x))).tame w).of_run ?_
    simp only [execOp, hop, hv]
  ·cases h
 | _ => rw [hop] at h; cases h
end
structure CallB (P : Program) (call : Nat → List Nat → Trie → Nat → OR) : Prop where
 s : CallS P call
 t : CallT P call
section
variable {base : Nat} {H : Trie} {n : Nat} {ρ : Rho} {L : Look} {w : World}
theorem z6h (w : World) (p : Nat × Nat) (b : Nat) (hb : b < w.heap.size) : (padW w p).heap[b]? = w.heap[b]? := by
 unfold padW; simp [Array.getElem?_append, hb]
theorem z6i (w : World) (p : Nat × Nat) : w.heap.size ≤ (padW w p).heap.size := by unfold padW; simp
theorem Sim.padW (hs : Sim base ρ L w) (p : Nat × Nat) : Sim base ρ L (padW w p) := by
 refine ⟨fun b r h => ?_, hs.sep, hs.same, hs.mx, hs.rw, hs.ro, fun b r h => Nat.lt_of_lt_of_le (hs.bnd b r h) (z6i w p), Nat.le_trans hs.bs (z6i w p), hs.ld, hs.kind, hs.pol, hs.rk, fun k o h => by
  have hx := hs.kp k o h
  rw [z6h w p k (Array.getElem?_eq_some_iff.1 hx).1]; exact hx⟩
 obtain ⟨k, hk, hb⟩ := hs.blk b r h
 exact ⟨k, hk, fun hl => (hb hl).mono0 (.refl _ _) (z6h w p r.1 (hs.bnd b r h))⟩
theorem Ctx.padded (c : Ctx base H n ρ L w) (fr : Frame) (cs : List Frame) : Ctx base H n ρ L (padded fr cs w) := ⟨c.sim.padW _, c.agree, c.fresh⟩
theorem z0l (c : Ctx base H n ρ L w) (fr : Frame) (cs : List Frame) : Below base w (padded fr cs w) :=
 ⟨rfl, rfl, rfl, z6i _ _, fun j hj => z6h w _ j (Nat.lt_of_lt_of_le hj c.sim.bs)⟩
end
end Go.Eng
