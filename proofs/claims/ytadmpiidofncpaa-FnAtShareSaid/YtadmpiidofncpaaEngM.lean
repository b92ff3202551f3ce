/- Part of the evaluator: K L M. -/
import Derived.Test.YtadmpiidofncpaaEngJ

/- append. -/
namespace Go.Eng
set_option linter.unusedSectionVars false
set_option linter.unusedSimpArgs false
set_option linter.unusedVariables false
open Go Go.RowKit
variable [E : Env]

section
variable {P : Program} {w : World}

/-- What is appended: m elements with the cells 'news'. -/
def SrcOk (P : Program) (tx : TypeId) (i : TypeInfo) (z : Value) (w : World) (xv : Value) (m : Nat) (news : List Value) : Prop :=
  ((∃ e', P.underlying tx = some (.slice e')) ∧ (Builtin.lenOf xv).run P w = .ok m w ∧ news.length = m * i.size ∧ ∀ w2 : World, w2.heap = w.heap → (Builtin.firstCells i.size m xv).run P w2 = .ok news.toArray w2) ∨
  ((∃ k, P.underlying tx = some (.int k)) ∧ xv = .int .i64 (m : Int) ∧ i.size = 1 ∧ m < 1048576 ∧ i.bytes ≤ 1024 ∧ z.cells = #[z] ∧ news = List.replicate m z)

theorem zeroCells_one (z : Value) (m : Nat) : Builtin.zeroCells #[z] m = (List.replicate m z).toArray := by
  unfold Builtin.zeroCells
  have := range_map_one z m
  simp only [List.size_toArray, List.length_cons, List.length_nil, Nat.zero_add, Nat.mul_one] at this ⊢
  rw [this]; simp

theorem wrap_nat (m : Nat) (h : m < 1048576) : IntKind.i64.wrap (m : Int) = (m : Int) := by rw [wrap_sInt, uInt_nat, sInt_small (by omega)]; omega

theorem run_app_nil {t tx ty e : TypeId} {i : TypeInfo} {z : Value} (ht : P.underlying t = some (.slice e)) (hi : P.info? e = some i) (hz : i.zero = some z) {xv : Value} {m : Nat} {news : List Value}
    (hs : SrcOk P tx i z w xv m news) (h0 : 0 < m) (h63 : m < 1048576) (hb0 : 0 < i.bytes) (hb : i.bytes ≤ 1024) :
    (Builtin.append_ #[t, tx] ty #[.slice none 0 0, xv]).run P w =
      .ok (.slice (some ⟨w.heap.size, 0, none⟩) m (grownCap w m 0 e)) (w.drew.alloc (.cells (news.toArray ++ Builtin.zeroCells z.cells (grownCap w m 0 e - m)) e)) := by
  have hn : m ≠ 0 := by omega
  have h63' : ¬ (9223372036854775807 < (m : Int)) := by omega
  have hmb : m * i.bytes ≤ 1048576 * 1024 := Nat.mul_le_mul (by omega) hb
  have h48' : ¬ (281474976710656 < Builtin.nextslicecap m 0 * i.bytes) := by rw [nextslicecap_zero h0]; omega
  rcases hs with ⟨⟨e', hx⟩, hl, _, hf⟩ | ⟨⟨k, hx⟩, rfl, hsz, _, _, hzc, rfl⟩
  · have hf1 := hf w.drew rfl
    simp [Builtin.append_, run_underlying ht, run_underlying hx, sizeOf, typeInfo, zeroValue, hi, hz, hl, hn, h63', h48', Question.forced, hf1, newRow, grownCap, run_firstCells_none]
  · have hm0 : ¬ ((m : Int) < 0) := by omega
    have hm48 : ¬ (281474976710656 < (m : Int) * (i.bytes : Int)) := by rw [← Int.natCast_mul]; omega
    have hb0' : i.bytes ≠ 0 := by omega
    simp [Builtin.append_, run_underlying ht, run_underlying hx, sizeOf, typeInfo, zeroValue, hi, hz, asInt, asIntOf, wrap_nat m h63, hm0, hm48, hn, hsz, h63', h48', hb0', Question.forced, newRow, grownCap, run_firstCells_none, hzc, zeroCells_one]

theorem run_app_grow {t tx ty e : TypeId} {i : TypeInfo} {z : Value} (ht : P.underlying t = some (.slice e)) (hi : P.info? e = some i) (hz : i.zero = some z) {xv : Value} {m : Nat} {news : List Value}
    (hs : SrcOk P tx i z w xv m news) {b : Addr} {sLen sCap : Nat} {olds : List Value} (hlo : olds.length = sLen * i.size) (holds : ∀ j v, olds[j]? = some v → w.cell? (b.add j) = some v)
    (h0 : 0 < m) (hg : sCap < sLen + m) (h63 : sLen + m < 1048576) (hb0 : 0 < i.bytes) (hb : i.bytes ≤ 1024) :
    (Builtin.append_ #[t, tx] ty #[.slice (some b) sLen sCap, xv]).run P w =
      .ok (.slice (some ⟨w.heap.size, 0, none⟩) (sLen + m) (grownCap w (sLen + m) sCap e))
        (w.drew.alloc (.cells (olds.toArray ++ (news.toArray ++ Builtin.zeroCells z.cells (grownCap w (sLen + m) sCap e - (sLen + m)))) e)) := by
  have hn : ¬ (sLen + m ≤ sCap) := by omega
  have h63' : ¬ (9223372036854775807 < ((sLen : Int) + (m : Int))) := by omega
  have hmb : (sLen + m) * i.bytes ≤ 1048576 * 1024 := Nat.mul_le_mul (by omega) hb
  have h48' : ¬ (281474976710656 < Builtin.nextslicecap (sLen + m) sCap * i.bytes) := by
    have := growslice_fits hg (show (sLen + m) * i.bytes ≤ 140737488355328 by omega); omega
  have hfo := run_firstCells_some (P := P) w.drew i.size sLen b sLen sCap olds hlo (by simpa using holds)
  rcases hs with ⟨⟨e', hx⟩, hl, _, hf⟩ | ⟨⟨k, hx⟩, rfl, hsz, _, _, hzc, rfl⟩
  · have hf1 := hf w.drew rfl
    simp [Builtin.append_, run_underlying ht, run_underlying hx, sizeOf, typeInfo, zeroValue, hi, hz, hl, hn, h63', h48', Question.forced, hf1, hfo, newRow, grownCap]
  · have hm0 : ¬ ((m : Int) < 0) := by omega
    have hmb2 : m * i.bytes ≤ 1048576 * 1024 := Nat.mul_le_mul (by omega) hb
    have hm48 : ¬ (281474976710656 < (m : Int) * (i.bytes : Int)) := by rw [← Int.natCast_mul]; omega
    have hb0' : i.bytes ≠ 0 := by omega
    rw [hsz] at hfo
    have hmz : m ≠ 0 := by omega
    simp [Builtin.append_, run_underlying ht, run_underlying hx, sizeOf, typeInfo, zeroValue, hi, hz, asInt, asIntOf, wrap_nat m (by omega), hm0, hm48, hn, hsz, h63', h48', hb0', hmz, Question.forced, newRow, grownCap, hfo, hzc, zeroCells_one]

theorem run_app_room {t tx ty e : TypeId} {i : TypeInfo} {z : Value} (ht : P.underlying t = some (.slice e)) (hi : P.info? e = some i) (hz : i.zero = some z) {xv : Value} {m : Nat} {news : List Value}
    (hs : SrcOk P tx i z w xv m news) {g off sLen sCap : Nat} {ety : TypeId} {cur : Array Value} (hg : w.heap[g]? = some (.cells cur ety (0, 0))) (h1 : ∀ u ∈ news, u.oneCell' = true)
    (h0 : 0 < m) (hroom : sLen + m ≤ sCap) (hfit : off + sLen * i.size + news.length ≤ cur.size) (hm : m < 1048576) (hb : i.bytes ≤ 1024) :
    (Builtin.append_ #[t, tx] ty #[.slice (some ⟨g, off, none⟩) sLen sCap, xv]).run P w =
      .ok (.slice (some ⟨g, off, none⟩) (sLen + m) sCap) (w.setRow g (cur.toList.take (off + sLen * i.size) ++ news ++ cur.toList.drop (off + sLen * i.size + news.length)).toArray) := by
  have hst := run_storeCells_at P g (off + sLen * i.size) ety news 0 cur w hg (by simpa using hfit) h1
  simp only [Nat.add_zero] at hst
  have hadd : (⟨g, off, none⟩ : Addr).add (sLen * i.size) = ⟨g, off + sLen * i.size, none⟩ := addr_add _ _ _
  rcases hs with ⟨⟨e', hx⟩, hl, _, hf⟩ | ⟨⟨k, hx⟩, rfl, hsz, _, _, hzc, rfl⟩
  · have hf1 := hf w rfl
    simp [Builtin.append_, run_underlying ht, run_underlying hx, sizeOf, typeInfo, hi, hl, hroom, hf1, hadd, hst]
  · have hm0 : ¬ ((m : Int) < 0) := by omega
    have hmb2 : m * i.bytes ≤ 1048576 * 1024 := Nat.mul_le_mul (by omega) hb
    have hm48 : ¬ (281474976710656 < (m : Int) * (i.bytes : Int)) := by rw [← Int.natCast_mul]; omega
    rw [hsz, Nat.mul_one] at hst hadd
    have hmz : m ≠ 0 := by omega
    simp [Builtin.append_, run_underlying ht, run_underlying hx, sizeOf, typeInfo, zeroValue, hi, hz, asInt, asIntOf, wrap_nat m hm, hm0, hm48, hsz, hmz, hzc, zeroCells_one, hadd, hst, hroom]
end
end Go.Eng

/- append: the evaluator's words. -/
namespace Go.Eng
set_option linter.unusedSectionVars false
set_option linter.unusedSimpArgs false
set_option linter.unusedVariables false
open Go Go.RowKit
variable [E : Env]

theorem splice_get (cur : Array Value) (news : List Value) (A : Nat) (h : A + news.length ≤ cur.size) (j : Nat) :
    ((cur.toList.take A ++ news ++ cur.toList.drop (A + news.length)).toArray)[j]? = if j < A then cur[j]? else if j < A + news.length then news[j - A]? else cur[j]? := by
  have hl : (cur.toList.take A).length = A := by simp; omega
  simp only [List.getElem?_toArray, List.append_assoc]
  by_cases h1 : j < A
  · rw [if_pos h1, List.getElem?_append_left (by omega), List.getElem?_take_of_lt h1]; simp
  · rw [if_neg h1, List.getElem?_append_right (by omega), hl]
    by_cases h2 : j < A + news.length
    · rw [if_pos h2, List.getElem?_append_left (by omega)]
    · rw [if_neg h2, List.getElem?_append_right (by omega), List.getElem?_drop]
      rw [show A + news.length + (j - A - news.length) = j from by omega]; simp
theorem splice_size (cur : Array Value) (news : List Value) (A : Nat) (h : A + news.length ≤ cur.size) :
    (cur.toList.take A ++ news ++ cur.toList.drop (A + news.length)).toArray.size = cur.size := by simp; omega

section
variable {base : Nat} {H H' : Trie} {n n' nt T v : Nat} {ρ : Rho} {L : Look} {w : World} {P : Program} {tmps : Array Value} {o : Oper} {call : Nat → List Nat → Trie → Nat → OR} {cfr : Frame} {ccs : List Frame}

/-- The words of two lists, one behind the other. -/
theorem cat_words {olds news : List Value} {co new : Nat} (ho : ∀ j u, olds[j]? = some u → VR ρ L (getW co j) u ∧ storable (getW co j) = true) (hco : co < 2 ^ (128 * olds.length))
    (hn : ∀ j u, news[j]? = some u → VR ρ L (getW new j) u ∧ storable (getW new j) = true) {lo : Nat} (hlo : olds.length = lo) :
    ∀ i, i < lo + news.length → ∃ u, (olds ++ news)[i]? = some u ∧ VR ρ L (getW (cat co lo new) i) u ∧ storable (getW (cat co lo new) i) = true := by
  subst hlo
  intro i hi
  by_cases h : i < olds.length
  · have hu : olds[i]? = some olds[i] := by simp [h]
    rw [getW_cat_lt _ _ _ _ h]
    exact ⟨_, by rw [List.getElem?_append_left h]; exact hu, ho i _ hu⟩
  · have hu : news[i - olds.length]? = some news[i - olds.length] := by
      rw [List.getElem?_eq_getElem (by omega)]
    have e : getW (cat co olds.length new) i = getW new (i - olds.length) := by
      have := getW_cat_ge co olds.length new (i - olds.length) hco
      rw [show olds.length + (i - olds.length) = i from by omega] at this; exact this
    rw [e]
    exact ⟨_, by rw [List.getElem?_append_right (by omega)]; exact hu, hn _ _ hu⟩

theorem tget_dec (H : Trie) (b : Nat) : tget H b = none ∨ ∃ k, tget H b = some k := by cases tget H b <;> simp

/-- A row that has grown into a new block. -/
theorem grown_row {z : Value} {i : TypeInfo} (hzs : z.cells.size = i.size) {olds news : List Value} {need cap : Nat} (hl : olds.length + news.length = need * i.size) (hc : need ≤ cap) :
    (olds.toArray ++ (news.toArray ++ Builtin.zeroCells z.cells (cap - need))).size = cap * i.size ∧
    ∀ (j : Nat) (u : Value), (olds ++ news)[j]? = some u → (olds.toArray ++ (news.toArray ++ Builtin.zeroCells z.cells (cap - need)))[j]? = some u := by
  constructor
  · simp only [Array.size_append, List.size_toArray, size_zeroCells, hzs]
    have : (cap - need) * i.size + need * i.size = cap * i.size := by rw [← Nat.add_mul]; congr 1; omega
    omega
  · intro j u hj
    have hlt : j < (olds ++ news).length := by
      rcases Nat.lt_or_ge j (olds ++ news).length with h | h
      · exact h
      · rw [List.getElem?_eq_none h] at hj; cases hj
    rw [← Array.append_assoc, Array.getElem?_append, if_pos (by simpa using hlt)]
    simpa using hj

theorem grownCap_lt (w : World) (need old : Nat) (e : TypeId) (h : need < 1048576) : grownCap w need old e < 9223372036854775808 := by
  have := grownCap_le_maxLen w need old e (by unfold maxLen; omega)
  unfold maxLen at this; omega

theorem appE_sound (c : Ctx base H n ρ L w) {t tx ty e : TypeId} {i : TypeInfo} {z : Value} (ht : P.underlying t = some (.slice e)) (hi : P.info? e = some i) (hz : i.zero = some z)
    (hzs : z.cells.size = i.size) (hb0 : 0 < i.bytes) (hb1 : i.bytes ≤ 1024) {s : Nat} {sv : Value} (hs : VR ρ L s sv) (h4 : tagOf s = 4) {xv : Value} {m : Nat} {news : List Value} {new : Nat}
    (src : SrcOk P tx i z w xv m news) (hm : 0 < m) (hnl : news.length = m * i.size) (hw : ∀ j u, news[j]? = some u → VR ρ L (getW new j) u ∧ storable (getW new j) = true)
    (hlt : new < 2 ^ (128 * (m * i.size))) (h : appE H n i.size s m new = .ok v H' n') :
    After base H n ρ L w v H' n' (fun x w' => (Builtin.append_ #[t, tx] ty #[sv, xv]).run P w = .ok x w') := by
  have hone : ∀ u ∈ news, u.oneCell' = true := by
    intro u hu
    obtain ⟨j, hj, rfl⟩ := List.getElem_of_mem hu
    have := hw j _ (List.getElem?_eq_getElem hj)
    exact (this.1.cell this.2).2
  unfold appE at h
  simp only at h
  rw [sel_eq] at h
  split at h
  · rename_i hsz
    rw [sel_ltb] at hsz
    split at hsz
    · rename_i h256
      have hsm0 := (ltb_iff _ _).1 hsz
      have hsm : sLen (payOf s) + m < 1048576 ∧ (sLen (payOf s) + m) * i.size < 1048576 := by
        have e1 : (sLen (payOf s) + m) * (i.size + 1) < 1048576 := hsm0
        rw [Nat.mul_add, Nat.mul_one] at e1
        omega
      rcases hs.slice_inv h4 with ⟨rfl, rfl⟩ | ⟨b, es, off, len, k, rb, d, sz, cp, a, hb, he, hof, hmn, hk, hmc, hcb, hk1, hcp, rfl, rfl⟩
      · -- nil
        obtain ⟨_, q1, q2, q3, q4, q5⟩ := s_nil
        rw [q1] at hsm
        rw [q5, sel_beq, if_pos rfl] at h
        obtain ⟨hn, hkk, hmk⟩ := fresh_sound c h (by simp)
        injection hkk with h1 h2 h3
        subst h1; subst h2; subst h3
        have hrun := run_app_nil (ty := ty) ht hi hz src hm (by omega) hb0 hb1
        have hge := grownCap_ge w m 0 e
        obtain ⟨g1, g2⟩ := grown_row (z := z) hzs (olds := []) (news := news) (need := m) (cap := grownCap w m 0 e) (by simpa using hnl) hge
        simp only [List.nil_append] at g2
        have hemp : (([] : List Value).toArray ++ (news.toArray ++ Builtin.zeroCells z.cells (grownCap w m 0 e - m))) = news.toArray ++ Builtin.zeroCells z.cells (grownCap w m 0 e - m) := by simp
        rw [hemp] at g1 g2
        have hle : m * i.size ≤ (news.toArray ++ Builtin.zeroCells z.cells (grownCap w m 0 e - m)).size := by rw [g1]; exact Nat.mul_le_mul_right _ hge
        obtain ⟨c', e', hb', hl'⟩ := hmk (w.drew.alloc (.cells (news.toArray ++ Builtin.zeroCells z.cells (grownCap w m 0 e - m)) e)) _ e rfl rfl rfl rfl hle (fun j hj => by
          have hu : news[j]? = some (news[j]'(by rw [hnl]; exact hj)) := by simp
          exact ⟨_, g2 j _ hu, hw j _ hu⟩)
        refine ⟨_, _, _, _, c', e', hb', hl', Nat.le_succ _, ?_, hrun⟩
        exact vr_slice_new (updR_same _ _ _) h256 (by omega) (by omega) hge (grownCap_lt w m 0 e (by omega)) (.inl rfl) (by omega)
      · -- a row
        obtain ⟨_, q1, q2, q3, q4, q5⟩ := s_parts b es off len k he hof hmn hk
        rw [q1] at hsm
        rw [q1, q2, q3, q4, q5, sel_beq, if_neg (by omega), Nat.pred_succ] at h
        split at h
        · rename_i nb cb g keep since maxl hget
          rw [sel_eq] at h
          split at h
          · rename_i hval0
            rw [sel_beq] at hval0
            split at hval0
            · rename_i hes
              subst hes
              have hL := c.agree.2 _ _ hget
              have hl := validE_iff c.agree hL hval0
              have hgL : grp L b = g := grp_of hL
              obtain ⟨kk, hkk, hbr⟩ := c.sim.blk b _ hb
              rw [hL] at hkk; injection hkk with hkk; subst hkk
              obtain ⟨cs, cty, fz, r1, r2, r3, r4, r5⟩ := hbr hl
              dsimp only at r1 r2 r3 r5
              rw [sel_ble] at h
              split at h
              · rename_i hin
                have hin' : off + len * i.size ≤ nb := hin
                -- the elements that are there
                obtain ⟨olds, ro⟩ := row_of (w := w) r1 r5 hin'
                have holds : ∀ j u, olds[j]? = some u → w.cell? (a.add j) = some u := by
                  intro j u hj
                  rcases hcp with h0 | ⟨h0, _⟩
                  · have : len = 0 := by omega
                    subst this
                    have := ro.len
                    rw [Nat.zero_mul] at this
                    rw [List.eq_nil_of_length_eq_zero this] at hj; simp at hj
                  · rw [h0]; exact ro.cell j u hj
                have hcat : ∀ j, j < (len + m) * i.size → ∃ u, (olds ++ news)[j]? = some u ∧ VR ρ L (getW (cat (chunk cb off (len * i.size)) (len * i.size) new) j) u ∧
                    storable (getW (cat (chunk cb off (len * i.size)) (len * i.size) new) j) = true := fun j hj =>
                  cat_words ro.word (by rw [ro.len]; exact chunk_lt _ _ _) hw ro.len j (by rw [hnl, ← Nat.add_mul]; exact hj)
                have hlen2 : olds.length + news.length = (len + m) * i.size := by rw [ro.len, hnl, ← Nat.add_mul]
                -- it grows
                have grow : cp < len + m → (Builtin.append_ #[t, tx] ty #[.slice (some a) len cp, xv]).run P w =
                    .ok (.slice (some ⟨w.heap.size, 0, none⟩) (len + m) (grownCap w (len + m) cp e))
                      (w.drew.alloc (.cells (olds.toArray ++ (news.toArray ++ Builtin.zeroCells z.cells (grownCap w (len + m) cp e - (len + m)))) e)) :=
                  fun hgr => run_app_grow ht hi hz src ro.len holds hm hgr (by omega) hb0 hb1
                have hge := grownCap_ge w (len + m) cp e
                obtain ⟨g1, g2⟩ := grown_row (z := z) hzs (olds := olds) (news := news) (need := len + m) (cap := grownCap w (len + m) cp e) hlen2 hge
                have hleg : (len + m) * i.size ≤ (olds.toArray ++ (news.toArray ++ Builtin.zeroCells z.cells (grownCap w (len + m) cp e - (len + m)))).size := by
                  rw [g1]; exact Nat.mul_le_mul_right _ hge
                rw [sel_beq] at h
                split at h
                · -- the capacity is not known
                  rw [sel_beq] at h
                  split at h
                  · cases h
                  · rename_i hg
                    rw [sel_ltb] at h
                    split at h
                    · rename_i hn
                      -- the leader
                      obtain ⟨nl, cl, gl, kl, sl, ml, hLl, hbr2, hget2⟩ : ∃ nl cl gl kl sl ml, L (g - 1) = some (.cells nl cl gl kl sl ml) ∧
                          (sel (sel (Nat.beq off 0) (Nat.ble ml (len * i.size)) false)
                            (OR.ok (wS n i.size 0 (len + m) 0) (hset (hset H n (.cells ((len + m) * i.size) (cat (chunk cb off (len * i.size)) (len * i.size) new) g 0 0 0)) (g - 1) (.cells nl cl gl kl sl ((len + m) * i.size))) (n + 1))
                            (OR.ok (wS n i.size 0 (len + m) 0) (hset (hset H n (.cells ((len + m) * i.size) (cat (chunk cb off (len * i.size)) (len * i.size) new) g 0 0 0)) (g - 1) (.cells nl cl gl n (n + 1) ((len + m) * i.size))) (n + 1)) = OR.ok v H' n') ∧
                          tget H (g - 1) = some (.cells nl cl gl kl sl ml) := by
                        split at h
                        · rename_i nl cl gl kl sl ml hq
                          rw [sel_beq] at hq
                          split at hq
                          · rename_i hgb
                            have hgb' : g - 1 = b := hgb
                            injection hq with hq; injection hq with e1 e2 e3 e4 e5 e6
                            subst e1; subst e2; subst e3; subst e4; subst e5; subst e6
                            exact ⟨_, _, _, _, _, _, by rw [hgb']; exact hL, h, by rw [hgb']; exact hget⟩
                          · exact ⟨_, _, _, _, _, _, c.agree.2 _ _ hq, h, hq⟩
                        · cases h
                      have hl1 := c.agree.lt hget2
                      have hne : g - 1 ≠ n := by have := c.fresh.ltL hLl; omega
                      have hil : Eng.info L (g - 1) = (kl, sl, ml) := by simp [Eng.info, hLl]
                      obtain ⟨⟨ql, hql⟩, _⟩ := c.sim.ld b _ hb (by rw [hgL]; exact hg)
                      rw [hgL] at hql
                      -- the new member, whatever the leader says
                      have member : ∀ K S : Nat, (∀ j p, ρ j = some p → grp L j = g → (K = j ∨ S ≤ j) → off = 0 ∧ ml ≤ len * i.size ∧ live L j) →
                          v = wS n i.size 0 (len + m) 0 → H' = hset (hset H n (.cells ((len + m) * i.size) (cat (chunk cb off (len * i.size)) (len * i.size) new) g 0 0 0)) (g - 1) (.cells nl cl gl K S ((len + m) * i.size)) → n' = n + 1 →
                          After base H n ρ L w v H' n' (fun x w' => (Builtin.append_ #[t, tx] ty #[.slice (some a) len cp, xv]).run P w = .ok x w') := by
                        intro K S hKS ev eH en
                        subst ev; subst eH; subst en
                        -- the look
                        have hR : Relab L (upd L (g - 1) (.cells nl cl gl K S ((len + m) * i.size))) b (g - 1) g nb cb K S ((len + m) * i.size) := by
                          refine ⟨?_, by simp [Eng.info, upd_same], fun j hj => ?_⟩
                          · by_cases hgb : b = g - 1
                            · rw [hgb, hLl] at hL; injection hL with hL; injection hL with e1 e2 e3
                              subst e1; subst e2; subst e3
                              exact ⟨_, _, _, by rw [hgb]; exact upd_same _ _ _⟩
                            · exact ⟨_, _, _, by rw [upd_ne _ _ hgb]; exact hL⟩
                          · by_cases hjl : j = g - 1
                            · subst hjl; exact .inr ⟨rfl, _, _, _, _, _, _, _, _, _, hLl, upd_same _ _ _⟩
                            · exact .inl (upd_ne _ _ hjl)
                        have hf1 : Fresh n ρ (upd L (g - 1) (.cells nl cl gl K S ((len + m) * i.size))) := hR.fresh hL c.fresh
                        have hag : Agree (hset (hset H n (.cells ((len + m) * i.size) (cat (chunk cb off (len * i.size)) (len * i.size) new) g 0 0 0)) (g - 1) (.cells nl cl gl K S ((len + m) * i.size)))
                            (upd (upd L (g - 1) (.cells nl cl gl K S ((len + m) * i.size))) n (.cells ((len + m) * i.size) (cat (chunk cb off (len * i.size)) (len * i.size) new) g 0 0 0)) := by
                          have h1 := (c.agree.hset hn (.cells ((len + m) * i.size) (cat (chunk cb off (len * i.size)) (len * i.size) new) g 0 0 0)).hset hl1 (.cells nl cl gl K S ((len + m) * i.size))
                          refine ⟨h1.1, fun j kk hj => ?_⟩
                          rw [← h1.2 j kk hj]
                          unfold upd
                          by_cases e1 : j = n
                          · have : j ≠ g - 1 := by omega
                            simp [e1, Ne.symm hne]
                          · by_cases e2 : j = g - 1 <;> simp [e1, e2, hne]
                        have hloc : ∀ q, Loc H n ρ L (updR ρ n q) (upd (upd L (g - 1) (.cells nl cl gl K S ((len + m) * i.size))) n (.cells ((len + m) * i.size) (cat (chunk cb off (len * i.size)) (len * i.size) new) g 0 0 0)) := by
                          intro q
                          refine ⟨fun j hj hjn => ⟨?_, by rw [updR_ne _ _ (by omega)]; exact hjn⟩⟩
                          · rw [upd_ne _ _ (by omega), upd_ne _ _ (fun hh => by subst hh; rw [hql] at hjn; cases hjn)]
                        by_cases hroom : len + m ≤ cp
                        · -- in place
                          obtain ⟨ha, hfit⟩ := hcp.resolve_left (by omega)
                          subst ha
                          have r4' := r4 hg
                          subst r4'
                          have hfitm : off + (len + m) * i.size ≤ sz := by
                            have : (len + m) * i.size ≤ cp * i.size := Nat.mul_le_mul_right _ hroom
                            omega
                          have hsplit : len * i.size + m * i.size = (len + m) * i.size := by rw [← Nat.add_mul]
                          have hA : d + off + len * i.size + news.length ≤ cs.size := by
                            rw [hnl]
                            omega
                          have hrun := run_app_room (ty := ty) ht hi hz src r1 hone hm hroom hA (by omega) hb1
                          have hheap := setRow_heap w rb cs ((cs.toList.take (d + off + len * i.size) ++ news ++ cs.toList.drop (d + off + len * i.size + news.length)).toArray) cty (0, 0) r1
                          have hgets := splice_get cs news (d + off + len * i.size) hA
                          have hss := splice_size cs news (d + off + len * i.size) hA
                          generalize hrow : (cs.toList.take (d + off + len * i.size) ++ news ++ cs.toList.drop (d + off + len * i.size + news.length)).toArray = row at *
                          have hbase : base ≤ rb := c.sim.rw b _ hb (by rw [hgL]; exact hg)
                          have hsim := c.sim.member (w' := w.setRow rb row) (q := (rb, d + off, sz - off)) (n' := (len + m) * i.size) (c' := cat (chunk cb off (len * i.size)) (len * i.size) new) c.fresh hb hl hL hg hR
                            (fun x _ hx => setRow_other w rb x row hx) (by simp [World.setRow]) (by have := c.sim.bnd b _ hb; simpa [World.setRow] using this) (.inl rfl) (Nat.le_refl _)
                            (fun j p hj hgj hKj => by
                              obtain ⟨hoff, hml, hlj⟩ := hKS j p hj hgj hKj
                              subst hoff
                              refine ⟨hlj, fun kk hkk hbrk => ?_, fun hpp => ?_, fun nn cc kk ss mm hLj => ?_⟩
                              · by_cases hp : p.1 = rb
                                · cases kk with
                                  | cells nj cj gj kj sj mj =>
                                    obtain ⟨cs2, ty2, fz2, w1, w2, w3, w4, w5⟩ := hbrk
                                    rw [hp, r1] at w1; injection w1 with w1; injection w1 with x1 x2 x3
                                    subst x1; subst x2; subst x3
                                    have hgj' : gj = g := by rw [← grp_of hkk]; exact hgj
                                    have hnj : nj ≤ ml := by
                                      have := c.sim.mx j p nj cj gj kj sj mj hj hlj hkk (by rw [hgj']; exact hg)
                                      rw [hgj', hil] at this; exact this
                                    have hd : p.2.1 = d := by
                                      have := c.sim.same j b p _ hj hb hlj hl (by rw [hgj]; exact hg) (by rw [hgj, hgL]) hp
                                      exact this
                                    refine ⟨row, cty, (0, 0), by rw [hp]; exact hheap, by rw [hss]; exact w2, w3, w4, fun x hx => ?_⟩
                                    obtain ⟨u, y1, y2⟩ := w5 x hx
                                    refine ⟨u, ?_, y2⟩
                                    rw [hgets, if_pos (by rw [hd]; omega)]; exact y1
                                  | loop => obtain ⟨lp, w1, _⟩ := hbrk; rw [hp, r1] at w1; cases w1
                                  | defr => have w1 := hbrk; simp only [BR] at w1; rw [hp, r1] at w1; cases w1
                                  | gone => exact trivial
                                  | opq jj ro =>
                                    exfalso
                                    simp only [Eng.grp, hkk] at hgj
                                    split at hgj
                                    · have hjg : g - 1 = j := by omega
                                      rw [hjg, hkk] at hLl; cases hLl
                                    · exact hg hgj.symm
                                  | box => exact hbrk.elim
                                  | poly => exact hbrk.elim
                                  | mp => obtain ⟨ents, clock, w1, _⟩ := hbrk; rw [hp, r1] at w1; cases w1
                                  | chn => obtain ⟨vs, sn, rc, tm, w1, _⟩ := hbrk; rw [hp, r1] at w1; cases w1
                                · exact hbrk.mono (Ext.refl _ _) (setRow_other w rb _ row hp)
                              · have := c.sim.same j b p _ hj hb hlj hl (by rw [hgj]; exact hg) (by rw [hgj, hgL]) hpp
                                simpa using this
                              · have := c.sim.mx j p nn cc g kk ss mm hj hlj hLj hg
                                rw [hil] at this
                                simp only at this
                                have e2 : len * i.size ≤ (len + m) * i.size := Nat.mul_le_mul_right _ (by omega)
                                omega)
                            ⟨row, cty, (0, 0), hheap, by rw [hss]; simp only; omega, by simp only; omega, fun _ => rfl, fun x hx => by
                              obtain ⟨u, y1, y2, y3⟩ := hcat x hx
                              refine ⟨u, ?_, y2.mono ((hR.ext hL ρ).trans (.fresh hf1 _ _)), y3⟩
                              simp only
                              rw [hgets]
                              by_cases hxl : x < len * i.size
                              · rw [if_pos (by omega)]
                                rw [List.getElem?_append_left (by rw [ro.len]; exact hxl)] at y1
                                have := ro.cell x u y1
                                rw [addr_add, cell_of_heap r1] at this
                                exact this
                              · rw [if_neg (by omega), if_pos (by rw [hnl]; omega)]
                                rw [List.getElem?_append_right (by rw [ro.len]; omega), ro.len] at y1
                                rw [show d + off + x - (d + off + len * i.size) = x - len * i.size from by omega]; exact y1⟩
                          refine ⟨_, _, _, _, ⟨hsim, hag, hf1.upd _ _⟩, (hR.ext hL ρ).trans (.fresh hf1 _ _), ?_, hloc _, Nat.le_succ _, ?_, hrun⟩
                          · exact ⟨rfl, rfl, rfl, by simp [World.setRow], fun x hx => setRow_other w rb x row (by omega)⟩
                          · exact .slice n i.size 0 (len + m) 0 rb (d + off) (sz - off) cp ⟨rb, d + off, none⟩ (updR_same _ _ _) h256 (by omega) (by omega) (by omega) hroom hcb (.inl rfl) (.inr ⟨by simp, by omega⟩)
                        · -- it moves
                          have hrun := grow (by omega)
                          generalize hrow : (olds.toArray ++ (news.toArray ++ Builtin.zeroCells z.cells (grownCap w (len + m) cp e - (len + m)))) = row at *
                          have hsim := c.sim.member (w' := w.drew.alloc (.cells row e)) (q := (w.heap.size, 0, grownCap w (len + m) cp e * i.size)) (n' := (len + m) * i.size) (c' := cat (chunk cb off (len * i.size)) (len * i.size) new) c.fresh hb hl hL hg hR
                            (fun x hx _ => heap_alloc_old w.drew _ x hx) (by simp) (by simp) (.inr (Nat.le_refl _)) (Nat.le_refl _)
                            (fun j p hj hgj hKj => by
                              obtain ⟨hoff, hml, hlj⟩ := hKS j p hj hgj hKj
                              have hp := c.sim.bnd j p hj
                              refine ⟨hlj, fun kk _ hbrk => hbrk.mono (Ext.refl _ _) (heap_alloc_old w.drew _ _ hp), fun hpp => by simp only at hpp; omega, fun nn cc kk ss mm hLj => ?_⟩
                              have := c.sim.mx j p nn cc g kk ss mm hj hlj hLj hg
                              rw [hil] at this
                              simp only at this
                              have e2 : len * i.size ≤ (len + m) * i.size := Nat.mul_le_mul_right _ (by omega)
                              omega)
                            ⟨row, e, (0, 0), heap_alloc_new w.drew _, by simp only; omega, by simp only; omega, fun _ => rfl, fun x hx => by
                              obtain ⟨u, y1, y2, y3⟩ := hcat x hx
                              exact ⟨u, by simp only [Nat.zero_add]; exact g2 x u y1, y2.mono ((hR.ext hL ρ).trans (.fresh hf1 _ _)), y3⟩⟩
                          refine ⟨_, _, _, _, ⟨hsim, hag, hf1.upd _ _⟩, (hR.ext hL ρ).trans (.fresh hf1 _ _), ?_, hloc _, Nat.le_succ _, ?_, hrun⟩
                          · exact ((Below.refl _ _).drew).alloc (by have := c.sim.bs; simpa using this) _
                          · exact vr_slice_new (updR_same _ _ _) h256 (by omega) (by omega) hge (grownCap_lt w _ _ e (by omega)) (.inl rfl) (Nat.le_refl _)
                      rw [sel_eq] at hbr2
                      split at hbr2
                      · rename_i hcase
                        rw [sel_beq] at hcase
                        split at hcase
                        · rename_i hoff
                          have hml := Nat.le_of_ble_eq_true hcase
                          injection hbr2 with e1 e2 e3
                          exact member kl sl (fun j p hj hgj hKj => ⟨hoff, hml, by right; rw [hgj, hil]; exact hKj⟩) e1.symm e2.symm e3.symm
                        · cases hcase
                      · injection hbr2 with e1 e2 e3
                        exact member n (n + 1) (fun j p hj hgj hKj => by have := c.fresh.lt hj; omega) e1.symm e2.symm e3.symm
                    · cases h
                · rename_i hk0
                  have hkc : k = cp + 1 := hk1.resolve_left hk0
                  rw [sel_ltb] at h
                  split at h
                  · -- it fits
                    rename_i hfits
                    have hroom : len + m ≤ cp := by have : len + m < k := hfits; omega
                    rw [sel_beq] at h
                    split at h
                    · cases h
                    · rename_i hg
                      obtain ⟨ha, hfit⟩ := hcp.resolve_left (by omega)
                      subst ha
                      have r4' := r4 hg
                      subst r4'
                      have hfitm : off + (len + m) * i.size ≤ sz := by
                        have : (len + m) * i.size ≤ cp * i.size := Nat.mul_le_mul_right _ hroom
                        omega
                      have hsplit : len * i.size + m * i.size = (len + m) * i.size := by rw [← Nat.add_mul]
                      have hA : d + off + len * i.size + news.length ≤ cs.size := by rw [hnl]; omega
                      have hrun := run_app_room (ty := ty) ht hi hz src r1 hone hm hroom hA (by omega) hb1
                      have hheap := setRow_heap w rb cs ((cs.toList.take (d + off + len * i.size) ++ news ++ cs.toList.drop (d + off + len * i.size + news.length)).toArray) cty (0, 0) r1
                      have hgets := splice_get cs news (d + off + len * i.size) hA
                      have hss := splice_size cs news (d + off + len * i.size) hA
                      generalize hrow : (cs.toList.take (d + off + len * i.size) ++ news ++ cs.toList.drop (d + off + len * i.size + news.length)).toArray = row at *
                      obtain ⟨H1, L1, hk', hag, hR, hloc⟩ := own_sound c hget hg hl ⟨_, hb⟩ h (by simp)
                      injection hk' with e1 e2 e3
                      subst e1; subst e2; subst e3
                      have hbase : base ≤ rb := c.sim.rw b _ hb (by rw [hgL]; exact hg)
                      have eE : Nat.add off (Nat.mul (Nat.add len m) i.size) = off + (len + m) * i.size := rfl
                      have eA : Nat.add off (Nat.mul len i.size) = off + len * i.size := rfl
                      rw [eE, eA, sel_ble] at hR
                      have hs' := c.sim.own (w' := w.setRow rb row) c.fresh hb hl hL hg hR (fun x hx => setRow_other w rb x row hx) (by simp [World.setRow]) hheap (by rw [hss]; exact r2)
                        (by split <;> omega) (fun x hx => by
                          show ∃ v, row[d + x]? = some v ∧ _
                          rw [hgets]
                          by_cases hx1 : x < off + len * i.size
                          · rw [if_pos (by omega), getW_cat_lt _ _ _ _ (by omega), getW_cat_lt _ _ _ _ hx1, getW_chunk _ _ _ _ hx1, Nat.zero_add]
                            exact r5 x (by omega)
                          · rw [if_neg (by omega)]
                            by_cases hx2 : x < off + (len + m) * i.size
                            · rw [if_pos (by rw [hnl]; omega), getW_cat_lt _ _ _ _ hx2]
                              have hxx : x = off + len * i.size + (x - (off + len * i.size)) := by omega
                              have hg3 := getW_cat_ge (chunk cb 0 (off + len * i.size)) (off + len * i.size) new (x - (off + len * i.size)) (chunk_lt _ _ _)
                              rw [← hxx] at hg3
                              rw [hg3]
                              have hu : news[x - (off + len * i.size)]? = some (news[x - (off + len * i.size)]'(by rw [hnl]; omega)) := by rw [List.getElem?_eq_getElem]
                              rw [show d + x - (d + off + len * i.size) = x - (off + len * i.size) from by omega]
                              exact ⟨_, hu, hw _ _ hu⟩
                            · rw [if_neg (by rw [hnl]; omega)]
                              have hxn : x < nb := by split at hx <;> omega
                              have hxx : x = off + (len + m) * i.size + (x - (off + (len + m) * i.size)) := by omega
                              have hg3 := getW_cat_ge (cat (chunk cb 0 (off + len * i.size)) (off + len * i.size) new) (off + (len + m) * i.size) (chunk cb (off + (len + m) * i.size) (nb - (off + (len + m) * i.size))) (x - (off + (len + m) * i.size)) (by
                                have := cat_lt (chunk cb 0 (off + len * i.size)) (off + len * i.size) new (m * i.size) (chunk_lt _ _ _) hlt
                                rw [show off + len * i.size + m * i.size = off + (len + m) * i.size from by omega] at this
                                exact this)
                              rw [← hxx] at hg3
                              have hg4 := getW_chunk cb (off + (len + m) * i.size) (nb - (off + (len + m) * i.size)) (x - (off + (len + m) * i.size)) (by omega)
                              rw [← hxx] at hg4
                              have hg5 : getW (cat (cat (chunk cb 0 (off + len * i.size)) (off + len * i.size) new) (off + (len + m) * i.size) (chunk cb (off + (len + m) * i.size) (Nat.sub nb (off + (len + m) * i.size)))) x = getW cb x := hg3.trans hg4
                              rw [hg5]
                              exact r5 x hxn)
                      refine ⟨ρ, L1, _, _, ⟨hs', hag, hR.fresh hL c.fresh⟩, hR.ext hL ρ, ?_, hloc, Nat.le_refl _, ?_, hrun⟩
                      · exact ⟨rfl, rfl, rfl, by simp [World.setRow], fun x hx => setRow_other w rb x row (by omega)⟩
                      · exact .slice b i.size off (len + m) k rb d sz cp _ hb h256 hof (by omega) hk hroom hcb hk1 (.inr ⟨rfl, hfit⟩)
                  · -- it grows
                    rename_i hfits
                    have hgr : cp < len + m := by have : ¬ (len + m < k) := hfits; omega
                    have hrun := grow hgr
                    obtain ⟨hn, hkk, hmk⟩ := fresh_sound c h (by simp)
                    injection hkk with h1 h2 h3
                    subst h1; subst h2; subst h3
                    obtain ⟨c', e', hb', hl'⟩ := hmk (w.drew.alloc (.cells (olds.toArray ++ (news.toArray ++ Builtin.zeroCells z.cells (grownCap w (len + m) cp e - (len + m)))) e)) _ e rfl rfl rfl rfl hleg (fun j hj => by
                      obtain ⟨u, y1, y2⟩ := hcat j hj
                      exact ⟨u, g2 j u y1, y2⟩)
                    refine ⟨_, _, _, _, c', e', hb', hl', Nat.le_succ _, ?_, hrun⟩
                    exact vr_slice_new (updR_same _ _ _) h256 hsm.1 (by omega) hge (grownCap_lt w _ _ e hsm.1) (.inl rfl) (Nat.le_of_eq g1.symm)
              · cases h
            · cases hval0
          · cases h
        · cases h
    · cases hsz
  · cases h
end
end Go.Eng

/- The built-in functions, calls, and all operations together. -/
namespace Go.Eng
set_option linter.unusedSectionVars false
set_option linter.unusedSimpArgs false
set_option linter.unusedVariables false
open Go Go.RowKit
variable [E : Env]

section
variable {base : Nat} {H H' : Trie} {n n' nt T v : Nat} {ρ : Rho} {L : Look} {w : World} {P : Program} {tmps : Array Value} {o : Oper} {call : Nat → List Nat → Trie → Nat → OR} {cfr : Frame} {ccs : List Frame}

theorem lenE_sound {ts : List TypeId} {ty : TypeId} {x : Nat} {vx : Value} (hx : VR ρ L x vx) (h : tagOf (lenE P ts x) ≠ 15) :
    ∃ r, VR ρ L (lenE P ts x) r ∧ (Builtin.len_ ts.toArray ty #[vx]).run P w = .ok r w := by
  unfold lenE at h ⊢
  split at h
  · rename_i t
    split at h
    · rename_i e hu
      rw [sel_beq] at h ⊢
      by_cases h4 : tagOf x = 4
      · rw [if_pos h4]
        rcases hx.slice_inv h4 with ⟨rfl, rfl⟩ | ⟨b, es, off, m, k, rb, d, sz, cp, a, hb, he, hof, hm, hk, hmc, hcb, hk1, hcp, rfl, rfl⟩
        · exact ⟨_, .int 0 (by omega), by simp [Builtin.len_, run_underlying hu, goInt, sInt]⟩
        · obtain ⟨_, q1, _⟩ := s_parts b es off m k he hof hm hk
          rw [q1]
          exact ⟨_, .int m (by omega), by simp [Builtin.len_, run_underlying hu, goInt, sInt_small (show m < 9223372036854775808 by omega)]⟩
      · rw [if_neg h4, sel_beq] at h ⊢
        by_cases h5 : tagOf x = 14
        · rw [if_pos h5]
          obtain ⟨a, rfl⟩ := hx.sl0_inv h5
          exact ⟨_, .int 0 (by omega), by simp [Builtin.len_, run_underlying hu, goInt, sInt]⟩
        · rw [if_neg h5, sel_beq] at h ⊢
          by_cases h6 : tagOf x = 11
          · rw [if_pos h6]
            obtain ⟨b, j, lo, hi, rb, d, sz, cp, hb, hj, hlo, hhi, h7, h8, h9, h10, h11, rfl, rfl⟩ := hx.opq_inv h6
            obtain ⟨p1, p2, p3, p4⟩ := o_parts b j lo hi hj hlo hhi
            rw [p1, p2, p3]
            have e1 : Nat.add 549755813888 lo = 549755813888 + lo := rfl
            have e2 : Nat.add 549755813888 hi = 549755813888 + hi := rfl
            have hlen := E.len j hj
            refine ⟨_, .var (lenIx j) _ _ (by rw [e1]; omega) ?_ (.inr ?_) ?_, by rw [hlen]; simp [Builtin.len_, run_underlying hu, goInt]⟩
            · rw [sel_beq]; split
              · omega
              · rw [e2]; omega
            · rw [e1, hlen]; omega
            · rw [sel_beq]; split
              · exact .inl rfl
              · right; rw [e2, hlen]; omega
          · rw [if_neg h6] at h; exact absurd rfl h
    · rename_i hu
      rw [sel_eq] at h ⊢
      split
      · rename_i h1
        obtain ⟨j, lo, hi, hlo, hhi, h7, h8, hlen, rfl, rfl⟩ := hx.ostr_inv h1
        obtain ⟨p1, p2, p3⟩ := os_parts j lo hi hlo hhi
        rw [p1, p2, p3]
        have e1 : Nat.add 549755813888 lo = 549755813888 + lo := rfl
        have e2 : Nat.add 549755813888 hi = 549755813888 + hi := rfl
        refine ⟨_, .var (txtIx j) _ _ (by rw [e1]; omega) ?_ (.inr ?_) ?_, by rw [hlen]; simp [Builtin.len_, run_underlying hu, goInt]⟩
        · rw [sel_beq]; split
          · omega
          · rw [e2]; omega
        · rw [e1, hlen]; omega
        · rw [sel_beq]; split
          · exact .inl rfl
          · right; rw [e2, hlen]; omega
      · rename_i h1
        rw [if_neg h1, sel_eq] at h
        rw [sel_eq]
        split
        · rename_i h2
          rw [if_pos h2] at h
          obtain ⟨s, rfl, hs, hlt⟩ := strLen_sound hx h2 h
          rw [hs]
          exact ⟨_, .int s.size (by omega), by simp [Builtin.len_, run_underlying hu, goInt, sInt_small (show s.size < 9223372036854775808 by omega)]⟩
        · rename_i h2
          rw [if_neg h2] at h
          exact absurd rfl h
    · exact absurd rfl h
  · exact absurd rfl h

theorem capE_sound {ts : List TypeId} {ty : TypeId} {x : Nat} {vx : Value} (hx : VR ρ L x vx) (h : tagOf (capE P ts x) ≠ 15) :
    ∃ r, VR ρ L (capE P ts x) r ∧ (Builtin.cap_ ts.toArray ty #[vx]).run P w = .ok r w := by
  unfold capE at h ⊢
  split at h
  · rename_i t
    split at h
    · rename_i e hu
      rw [sel_beq] at h ⊢
      by_cases h4 : tagOf x = 4
      · rw [if_pos h4, sel_beq] at h ⊢
        rcases hx.slice_inv h4 with ⟨rfl, rfl⟩ | ⟨b, es, off, m, k, rb, d, sz, cp, a, hb, he, hof, hm, hk, hmc, hcb, hk1, hcp, rfl, rfl⟩
        · rw [if_neg (by rw [s_nil.2.2.1]; omega)]
          exact ⟨_, .int 0 (by omega), by simp [Builtin.cap_, run_underlying hu, goInt, sInt]⟩
        · obtain ⟨_, _, q2, _⟩ := s_parts b es off m k he hof hm hk
          rw [q2] at h ⊢
          by_cases hk0 : k = 0
          · rw [if_pos hk0] at h; exact absurd rfl h
          · rw [if_neg hk0]
            have hkc := hk1.resolve_left hk0
            rw [show Nat.pred k = cp from by rw [hkc]; rfl]
            exact ⟨_, .int cp (by omega), by simp [Builtin.cap_, run_underlying hu, goInt, sInt_small hcb]⟩
      · rw [if_neg h4] at h; exact absurd rfl h
    · exact absurd rfl h
  · exact absurd rfl h

theorem wB_inj1 {a b : Bool} (h : wB a = wB b) : a = b := by
  cases a <;> cases b <;> first | rfl | (exact absurd h (by decide))
theorem minE_sound {P : Program} {w : World} {op : BinOp} (ho : op = .lss ∨ op = .gtr) {l : List Nat} {vs : List Value} (hl : AR ρ L l vs) (h : tagOf (minE op l) ≠ 15) :
    ∃ a b z : Int, vs = [.int .i64 a, .int .i64 b] ∧ VR ρ L (minE op l) (.int .i64 z) ∧ (op = .lss → z = if b < a then b else a) ∧ (op = .gtr → z = if a < b then b else a) := by
  unfold minE at h ⊢
  split at h
  rotate_left
  · exact absurd rfl h
  rename_i x y
  cases hl with
  | cons _ vx _ vs' hvx hl' =>
  cases hl' with
  | cons _ vy _ vs'' hvy hl'' =>
  cases hl''
  have fin : ∀ (a b : Int) (r : Bool), vx = .int .i64 a → vy = .int .i64 b → (∀ w : World, (binOp op 0 (.int .i64 b) (.int .i64 a)).run P w = .ok (.bool r) w) → ∀ W, W = (if r = true then y else x) →
      ∃ a b z : Int, [vx, vy] = [.int .i64 a, .int .i64 b] ∧ VR ρ L W (.int .i64 z) ∧ (op = .lss → z = if b < a then b else a) ∧ (op = .gtr → z = if a < b then b else a) := by
    intro a b r hx hy hr W hW
    subst hx; subst hy; subst hW
    refine ⟨a, b, if r = true then b else a, rfl, by cases r <;> assumption, fun hop => ?_, fun hop => ?_⟩
    · subst hop
      have := hr w
      simp [binOp, Op.intCmp] at this
      subst this
      by_cases hlt : b < a <;> simp [hlt]
    · subst hop
      have := hr w
      simp [binOp, Op.intCmp] at this
      subst this
      by_cases hlt : a < b <;> simp [hlt]
  by_cases hbI : bothI x y = true
  · rw [hbI, sel_true] at h ⊢
    unfold bothI at hbI
    obtain ⟨h1, h2⟩ := sel_andB hbI
    have h1 := Nat.eq_of_beq_eq_true h1
    have h2 := Nat.eq_of_beq_eq_true h2
    obtain ⟨a, ha, rfl, hpa, rfl⟩ := hvx.int_inv h1
    obtain ⟨b, hb, rfl, hpb, rfl⟩ := hvy.int_inv h2
    rw [hpa, hpb] at h ⊢
    have ht : tagOf (binI op b a) ≠ 15 := by
      rcases ho with rfl | rfl
      · show tagOf (wB _) ≠ 15
        rw [tag_wB]; decide
      · show tagOf (wB _) ≠ 15
        rw [tag_wB]; decide
    obtain ⟨r, hr1, hr2⟩ := binI_sound (P := P) (ρ := ρ) (L := L) (w := w) op 0 b a hb ha ht
    have hb2 : ∃ q : Bool, binI op b a = wB q ∧ r = .bool q ∧ ∀ w : World, (binOp op 0 (.int .i64 (sInt b)) (.int .i64 (sInt a))).run P w = .ok (.bool q) w := by
      rcases ho with rfl | rfl
      · exact ⟨iLt b a, rfl, by have := hr1.bool_inv (tag_wB _); obtain ⟨q, h1, h2⟩ := this; have : iLt b a = q := wB_inj1 h1; rw [this]; exact h2, fun w => by rw [iLt_iff b a hb ha]; simp [binOp, Op.intCmp]⟩
      · exact ⟨iLt a b, rfl, by have := hr1.bool_inv (tag_wB _); obtain ⟨q, h1, h2⟩ := this; have : iLt a b = q := wB_inj1 h1; rw [this]; exact h2, fun w => by rw [iLt_iff a b ha hb]; simp [binOp, Op.intCmp]⟩
    obtain ⟨q, q1, _, q3⟩ := hb2
    refine fin _ _ q rfl rfl q3 _ ?_
    rw [q1]
    cases q <;> rfl
  · have hbI : bothI x y = false := by simpa using hbI
    rw [hbI, sel_false] at h ⊢
    dsimp only at h ⊢
    generalize hc : sel (Nat.beq (tagOf x) 1) (sel (Nat.beq (tagOf y) 12) (nearB (payOf x) fun c => cmpV op (payOf y) c) badW) (sel (Nat.beq (tagOf x) 12) (sel (Nat.beq (tagOf y) 1) (nearB (payOf y) fun c => cmpV (flipOp op) (payOf x) c) (sel (Nat.beq (tagOf y) 12) (mk 15 (askMid (payOf x))) badW)) badW) = cw at h ⊢
    have hcw : cw = 18 ∨ cw = 2 := by
      rw [sel_beq] at h
      split at h
      · left; assumption
      · rw [sel_beq] at h
        split at h
        · right; assumption
        · rw [sel_beq] at h
          split at h
          · rename_i h15; exact absurd h15 h
          · exact absurd rfl h
    have hcb : tagOf cw ≠ 15 := by rcases hcw with h | h <;> rw [h] <;> decide
    have hq : ∃ (a b : Int) (q : Bool), vx = .int .i64 a ∧ vy = .int .i64 b ∧ cw = wB q ∧ ∀ w : World, (binOp op 0 (.int .i64 b) (.int .i64 a)).run P w = .ok (.bool q) w := by
      rw [sel_beq] at hc
      split at hc
      · rename_i h1
        rw [sel_beq] at hc
        split at hc
        · rename_i h12
          obtain ⟨a, ha, rfl, hpa, rfl⟩ := hvx.int_inv h1
          obtain ⟨j, lo, hi, q1, q2, q3, q4, rfl, rfl⟩ := hvy.var_inv h12
          rw [hpa] at hc
          obtain ⟨c, c0, _, hcs, hnb⟩ := nearB_inv ha (by rw [hc]; exact hcb)
          rw [hc] at hnb
          obtain ⟨q, k1, k2, _⟩ := cmpV_sound (P := P) (w := w) (op := op) (ty := 0) q1 q2 q3 q4 c0 (by rw [← hnb]; exact hcb)
          refine ⟨_, _, q, rfl, rfl, hnb.trans k1, fun w => ?_⟩
          rw [hcs]
          exact (cmpV_sound (P := P) (w := w) (op := op) (ty := 0) q1 q2 q3 q4 c0 (by rw [← hnb]; exact hcb)).elim fun q' ⟨l1, l2, _⟩ => by
            have : q = q' := wB_inj1 (k1.symm.trans l1)
            rw [this]; exact l2
        · rw [← hc] at hcb; exact absurd rfl hcb
      · rw [sel_beq] at hc
        split at hc
        · rename_i h12
          rw [sel_beq] at hc
          split at hc
          · rename_i h1
            obtain ⟨b, hb, rfl, hpb, rfl⟩ := hvy.int_inv h1
            obtain ⟨j, lo, hi, q1, q2, q3, q4, rfl, rfl⟩ := hvx.var_inv h12
            rw [hpb] at hc
            obtain ⟨c, c0, _, hcs, hnb⟩ := nearB_inv hb (by rw [hc]; exact hcb)
            rw [hc] at hnb
            obtain ⟨q, k1, _, k2⟩ := cmpV_sound (P := P) (w := w) (op := flipOp op) (ty := 0) q1 q2 q3 q4 c0 (by rw [← hnb]; exact hcb)
            refine ⟨_, _, q, rfl, rfl, hnb.trans k1, fun w => ?_⟩
            rw [hcs]
            have hff : flipOp (flipOp op) = op := by rcases ho with rfl | rfl <;> rfl
            exact (cmpV_sound (P := P) (w := w) (op := flipOp op) (ty := 0) q1 q2 q3 q4 c0 (by rw [← hnb]; exact hcb)).elim fun q' ⟨l1, _, l2⟩ => by
              have : q = q' := wB_inj1 (k1.symm.trans l1)
              rw [this]; rw [hff] at l2; exact l2
          · rw [sel_beq] at hc
            split at hc
            · rw [← hc] at hcb; exact absurd (tag_mk15 _) hcb
            · rw [← hc] at hcb; exact absurd rfl hcb
        · rw [← hc] at hcb; exact absurd rfl hcb
    obtain ⟨a, b, q, hx, hy, q1, q2⟩ := hq
    refine fin a b q hx hy q2 _ ?_
    rw [q1]
    cases q <;> rfl

theorem op_min (c : Ctx base H n ρ L w) {l : List Nat} {vs : List Value} (hl : AR ρ L l vs) {ts : Array TypeId} {ty : TypeId} (h : okv (minE .lss l) H n = .ok v H' n') :
    After base H n ρ L w v H' n' (fun x w' => (Builtin.min_ ts ty vs.toArray).run P w = .ok x w') := by
  obtain ⟨h1, rfl, rfl, rfl⟩ := okv_inv h
  obtain ⟨a, b, z, rfl, hz, e, _⟩ := minE_sound (P := P) (w := w) (.inl rfl) hl h1
  refine .pure c hz ?_
  rw [e rfl]
  by_cases hlt : b < a <;> simp [Builtin.min_, Builtin.min2, hlt]
theorem op_max (c : Ctx base H n ρ L w) {l : List Nat} {vs : List Value} (hl : AR ρ L l vs) {ts : Array TypeId} {ty : TypeId} (h : okv (minE .gtr l) H n = .ok v H' n') :
    After base H n ρ L w v H' n' (fun x w' => (Builtin.max_ ts ty vs.toArray).run P w = .ok x w') := by
  obtain ⟨h1, rfl, rfl, rfl⟩ := okv_inv h
  obtain ⟨a, b, z, rfl, hz, _, e⟩ := minE_sound (P := P) (w := w) (.inr rfl) hl h1
  refine .pure c hz ?_
  rw [e rfl]
  by_cases hlt : a < b <;> simp [Builtin.max_, Builtin.max2, hlt]

theorem wrap_zero : IntKind.i64.wrap 0 = 0 := wrap_nat 0 (by omega)
theorem run_app_none {t tx ty e : TypeId} {i : TypeInfo} {z : Value} (ht : P.underlying t = some (.slice e)) (hi : P.info? e = some i) {xv : Value} {news : List Value}
    (hs : SrcOk P tx i z w xv 0 news) {bs : Option Addr} {sLen sCap : Nat} (hle : sLen ≤ sCap) :
    (Builtin.append_ #[t, tx] ty #[.slice bs sLen sCap, xv]).run P w = .ok (.slice bs sLen sCap) w := by
  rcases hs with ⟨⟨e', hx⟩, hl, hnl, hf⟩ | ⟨⟨k, hx⟩, rfl, hsz, _, _, hzc, rfl⟩
  · have hf1 := hf w rfl
    have hn : news = [] := List.eq_nil_of_length_eq_zero (by simpa using hnl)
    subst hn
    cases bs <;> simp [Builtin.append_, run_underlying ht, run_underlying hx, sizeOf, typeInfo, hi, hl, hle, hf1, storeCells]
  · cases bs <;> simp [Builtin.append_, run_underlying ht, run_underlying hx, sizeOf, typeInfo, hi, asInt, asIntOf, wrap_zero, hle, storeCells]

theorem slice_le {s : Nat} {sv : Value} (hs : VR ρ L s sv) (h4 : tagOf s = 4) : ∃ bs l c, sv = .slice bs l c ∧ l ≤ c := by
  rcases hs.slice_inv h4 with ⟨_, rfl⟩ | ⟨b, es, off, m, k, rb, d, sz, cp, a, hb, he, hof, hm, hk, hmc, hcb, hk1, hcp, rfl, rfl⟩
  · exact ⟨_, _, _, rfl, Nat.le_refl _⟩
  · exact ⟨_, _, _, rfl, hmc⟩

theorem appendE_sound (c : Ctx base H n ρ L w) {ts : List TypeId} {ty : TypeId} {s x : Nat} {sv xv : Value} (hs : VR ρ L s sv) (hx : VR ρ L x xv) (h : appendE P ts H n s x = .ok v H' n') :
    After base H n ρ L w v H' n' (fun r w' => (Builtin.append_ ts.toArray ty #[sv, xv]).run P w = .ok r w') := by
  unfold appendE at h
  split at h
  · rename_i t tx
    rw [sel_beq] at h
    split at h
    · rename_i h4
      obtain ⟨e, hu, ⟨i, hi⟩, h⟩ := telem_inv h rfl (by simp)
      rw [sel_eq] at h
      split at h
      · rename_i hg
        rw [sel_eq] at hg
        split at hg
        · rename_i hby
          obtain ⟨i', hi', hb0, hb1⟩ := tbytes_inv hby
          rw [hi] at hi'; injection hi' with hi'; subst hi'
          obtain ⟨z, hz, hzs⟩ : ∃ z, i.zero = some z ∧ z.cells.size = i.size := by
            unfold zeroOk at hg
            rw [hi] at hg
            simp only at hg
            split at hg
            · rename_i z hz
              rw [sel_beq] at hg
              split at hg
              · exact ⟨z, hz, by assumption⟩
              · cases hg
            · cases hg
          obtain ⟨bs, sl, sc, hsv, hle⟩ := slice_le hs h4
          split at h
          · -- make's zeros
            rename_i k hxt
            rw [sel_beq] at h
            split at h
            · rename_i hx1
              rw [sel_eq] at h
              split at h
              · rename_i hp
                rw [sel_ltb] at h
                split at h
                · rename_i hsm
                  obtain ⟨p, hpl, rfl, hpp, rfl⟩ := hx.int_inv hx1
                  rw [hpp] at hsm h
                  have hsm' : p < 1048576 := hsm
                  have hsz1 : i.size = 1 := by
                    obtain ⟨j, _, hj, hs1, _⟩ := plain_inv hp
                    rw [hi] at hj; injection hj with hj; subst hj; exact hs1
                  have hsI : sInt p = (p : Int) := sInt_small (by omega)
                  rw [hsI]
                  rw [sel_beq] at h
                  split at h
                  · rename_i hp0
                    injection h with e1 e2 e3
                    subst e1; subst e2; subst e3
                    refine .pure c hs ?_
                    subst hsv
                    rw [hp0]
                    cases bs <;> simp [Builtin.append_, run_underlying hu, run_underlying hxt, sizeOf, typeInfo, hi, asInt, asIntOf, wrap_zero, hle, storeCells]
                  · rename_i hp0
                    rw [sel_eq] at h
                    split at h
                    · rename_i hst
                      obtain ⟨i2, z2, hi2, hz2, hzx⟩ := tzero_sound ρ L hst
                      rw [hi] at hi2; injection hi2 with hi2; subst hi2
                      rw [hz] at hz2; injection hz2 with hz2; subst hz2
                      obtain ⟨hc1, _⟩ := hzx.cell hst
                      have hzlt := ((storable_iff _).1 hst).2.2.2
                      have src : SrcOk P tx i z w (.int .i64 (p : Int)) p (List.replicate p z) := .inr ⟨⟨k, hxt⟩, rfl, hsz1, hsm', hb1, hc1, rfl⟩
                      rw [← hsz1] at h
                      refine appE_sound c hu hi hz hzs hb0 hb1 hs h4 src (by omega) (by rw [hsz1]; simp) (fun j u hj => ?_) (by rw [hsz1, Nat.mul_one]; exact repW_lt _ hzlt p) h
                      rw [List.getElem?_replicate] at hj
                      split at hj
                      · rename_i hjp
                        injection hj with hj; subst hj
                        rw [getW_repW _ hzlt p j hjp]; exact ⟨hzx, hst⟩
                      · cases hj
                    · cases h
                · cases h
              · cases h
            · cases h
          · -- a slice
            rename_i e' hxt
            unfold srcE at h
            have none' : ∀ news, SrcOk P tx i z w xv 0 news → OR.ok s H n = OR.ok v H' n' → After base H n ρ L w v H' n' (fun r w' => (Builtin.append_ #[t, tx] ty #[sv, xv]).run P w = .ok r w') := by
              intro news hsrc heq
              injection heq with e1 e2 e3
              subst e1; subst e2; subst e3
              refine .pure c hs ?_
              subst hsv
              exact run_app_none hu hi hsrc hle
            rw [sel_beq] at h
            split at h
            · rename_i hx4
              rw [tsz_of hi] at h
              rw [sel_beq] at h
              rcases hx.slice_inv hx4 with ⟨rfl, rfl⟩ | ⟨b, es, off, m, k, rb, d, sz, cp, a, hb, he, hof, hm, hk, hmc, hcb, hk1, hcp, rfl, rfl⟩
              · rw [if_pos s_nil.2.2.2.2.2] at h
                exact none' [] (.inl ⟨⟨_, hxt⟩, rfl, by simp, fun w2 _ => by simp [run_firstCells_none]⟩) h
              · obtain ⟨_, q1, q2, q3, q4, q5⟩ := s_parts b es off m k he hof hm hk
                rw [q5, q3, q1, if_neg (by omega), Nat.pred_succ] at h
                split at h
                · rename_i ch hrd
                  obtain ⟨news, ro⟩ := rdRange_sound c hb hrd
                  have hcells : ∀ j u, news[j]? = some u → w.cell? (a.add j) = some u := by
                    intro j u hj
                    rcases hcp with h0 | ⟨h0, _⟩
                    · have : m = 0 := by omega
                      subst this
                      have := ro.len
                      rw [show Nat.mul 0 i.size = 0 from Nat.zero_mul _] at this
                      rw [List.eq_nil_of_length_eq_zero this] at hj; simp at hj
                    · rw [h0]; exact ro.cell j u hj
                  have src : SrcOk P tx i z w (.slice (some a) m cp) m news := .inl ⟨⟨_, hxt⟩, rfl, ro.len, fun w2 hw2 => by
                    refine run_firstCells_some w2 i.size m a m cp news ro.len fun j u hj => ?_
                    have := hcells j u hj
                    simp only [World.cell?, hw2] at this ⊢; exact this⟩
                  dsimp only at h
                  rw [sel_beq] at h
                  split at h
                  · rename_i hm0
                    have src0 : ∀ m', m' = m → SrcOk P tx i z w (.slice (some a) m cp) m' news := fun m' e => by subst e; exact src
                    exact none' news (src0 0 hm0.symm) h
                  · rename_i hm0
                    exact appE_sound c hu hi hz hzs hb0 hb1 hs h4 src (by omega) ro.len ro.word ro.lt h
                · cases h
            · rw [sel_beq] at h
              split at h
              · rename_i h14
                obtain ⟨a, rfl⟩ := hx.sl0_inv (by rw [h14]; rfl)
                refine none' [] (.inl ⟨⟨_, hxt⟩, by simp [Builtin.lenOf], by simp, fun w2 _ => run_firstCells_some w2 i.size 0 a 0 0 [] (by simp) (fun j u hj => by simp at hj)⟩) h
              · cases h
          · cases h
        · cases hg
      · cases h
    · cases h
  · cases h

/-- copy: as much as fits. -/
theorem copyE_sound (c : Ctx base H n ρ L w) {ts : List TypeId} {ty : TypeId} {d s : Nat} {dv sv : Value} (hd : VR ρ L d dv) (hs : VR ρ L s sv) (h : copyE P ts d s H n = .ok v H' n') :
    After base H n ρ L w v H' n' (fun r W => (Builtin.copy_ ts.toArray ty #[dv, sv]).run P w = .ok r W) := by
  unfold copyE at h
  split at h
  · rename_i t t2
    obtain ⟨e, hu, ⟨i, hi⟩, h⟩ := telem_inv h rfl (by simp)
    rw [tsz_of hi] at h
    rw [sel_eq] at h
    split at h
    · rename_i hg
      rw [sel_beq] at hg
      split at hg
      · rename_i hd4
        have hs4 := Nat.eq_of_beq_eq_true hg
        -- what the two slices are
        have slen : ∀ {x : Nat} {xv : Value}, VR ρ L x xv → tagOf x = 4 → ∃ a l cp, xv = .slice a l cp ∧ sLen (payOf x) = l := by
          intro x xv hx h4
          rcases hx.slice_inv h4 with ⟨rfl, rfl⟩ | ⟨b, es, off, m, k, rb, dd, sz, cp, a, hb, he, hof, hm, hk, hmc, hbig, hk1, hcp, rfl, rfl⟩
          · exact ⟨_, _, _, rfl, s_nil.2.1⟩
          · exact ⟨_, _, _, rfl, (s_parts b es off m k he hof hm hk).2.1⟩
        obtain ⟨da, dl, dc, hdv, hdl⟩ := slen hd hd4
        obtain ⟨sa, sl, sc, hsv, hsl⟩ := slen hs hs4
        simp only at h
        rw [hdl, hsl] at h
        have hmin : sel (ltb sl dl) sl dl = Nat.min sl dl := by
          rw [sel_ltb]
          show _ = min sl dl
          split <;> omega
        rw [hmin] at h
        have hlen : (Builtin.lenOf sv).run P w = .ok sl w := by rw [hsv]; simp [Builtin.lenOf]
        rw [sel_beq] at h
        split at h
        · rename_i hm0
          injection h with h1 h2 h3
          subst h1; subst h2; subst h3
          refine .pure c (.int 0 (by omega)) ?_
          have hf : (Builtin.firstCells i.size 0 sv).run P w = .ok #[] w := by
            rw [hsv]
            cases sa with
            | none => simp [run_firstCells_none]
            | some a => exact run_firstCells_some w i.size 0 a sl sc [] (by simp) (fun j u hj => by simp at hj)
          subst hdv
          cases da <;> simp [Builtin.copy_, run_underlying hu, hlen, hm0, run_sizeOf hi, hf, storeCells, goInt, sInt]
        · rename_i hm0
          rw [sel_eq] at h
          split at h
          · rename_i hz
            rw [sel_beq] at hz
            split at hz
            · cases hz
            · rename_i hdz
              rw [sel_beq] at hz
              split at hz
              · cases hz
              · rename_i hsz
                have hes := Nat.eq_of_beq_eq_true hz
                split at h
                · rename_i ch hrd
                  have hW := h
                  rcases hs.slice_inv hs4 with ⟨rfl, _⟩ | ⟨b, es, off, m, k, rb, dd, sz, cp, a, hb, he, hof, hm, hk, hmc, hbig, hk1, hcp, rfl, hsv2⟩
                  · exact absurd s_nil.2.2.2.2.2 hsz
                  · obtain ⟨_, q1, q2, q3, q4, q5⟩ := s_parts b es off m k he hof hm hk
                    rw [q5, q3, Nat.pred_succ] at hrd
                    obtain ⟨news, ro⟩ := rdRange_sound c hb hrd
                    rcases hd.slice_inv hd4 with ⟨rfl, _⟩ | ⟨b', es', off', m', k', rb', dd', sz', cp', a', hb', he', hof', hm', hk', hmc', hbig', hk1', hcp', rfl, hdv2⟩
                    · exact absurd s_nil.2.2.2.2.2 hdz
                    · obtain ⟨_, r1, r2, r3, r4, r5⟩ := s_parts b' es' off' m' k' he' hof' hm' hk'
                      rw [r5, r3, Nat.pred_succ] at hW
                      have hcr : CellsR ρ L (Nat.mul (Nat.min sl dl) i.size) ch news.toArray := CellsR.of_row ro
                      obtain ⟨H1, L1, cur, cty, hk, hh, hfit, hc', hee, hbel, hloc⟩ := wrR_sound c hb' hcr hW (by simp)
                      injection hk with h1 h2 h3
                      subst h1; subst h2; subst h3
                      rw [q1] at hsl
                      rw [r1] at hdl
                      have hmpos : 0 < Nat.min sl dl := Nat.pos_of_ne_zero hm0
                      have hml : Nat.min sl dl ≤ sl := Nat.min_le_left _ _
                      have hmd : Nat.min sl dl ≤ dl := Nat.min_le_right _ _
                      have ha : a = ⟨rb, dd + off, none⟩ := (hcp.resolve_left (by omega)).1
                      have ha' : a' = ⟨rb', dd' + off', none⟩ := (hcp'.resolve_left (by omega)).1
                      have hf : (Builtin.firstCells i.size (Nat.min sl dl) sv).run P w = .ok news.toArray w := by
                        rw [hsv2]
                        refine run_firstCells_some w i.size (Nat.min sl dl) a m cp news ro.len fun j u hj => ?_
                        rw [ha]; exact ro.cell j u hj
                      have hst := run_storeCells_at P rb' (dd' + off') cty news 0 cur w hh (by simpa using hfit) (by
                        have := hcr.oneCell; simpa using this)
                      simp only [Nat.add_zero] at hst
                      refine ⟨ρ, L1, _, goInt (Nat.min sl dl : Nat), by simpa using hc', hee, by simpa using hbel, hloc, Nat.le_refl _, ?_, ?_⟩
                      · have hlt : Nat.min sl dl < 9223372036854775808 := by omega
                        have := VR.int (ρ := ρ) (L := L1) (Nat.min sl dl) (by omega)
                        rw [sInt_small hlt] at this
                        exact this
                      · rw [hdv2] at hdv ⊢
                        injection hdv with _ hdv3 _
                        subst hdv3
                        simp [Builtin.copy_, run_underlying hu, hlen, run_sizeOf hi, hf, ha', hst]
                · cases h
          · cases h
      · cases hg
    · cases h
  · cases h

theorem builtinE_sound (c : Ctx base H n ρ L w) {b : Builtin} {ts : Array TypeId} {ty : TypeId} {consts : Array Bool} {args : List Nat} {vs : List Value} (ha : AR ρ L args vs)
    (h : builtinE P b ts.toList args H n = .ok v H' n') :
    After base H n ρ L w v H' n' (fun x w' => (builtin b ts ty consts vs.toArray).run P w = .ok (.value x) w') := by
  have ets : ts.toList.toArray = ts := by simp
  unfold builtinE at h
  split at h
  · rename_i x
    obtain ⟨h1, rfl, rfl, rfl⟩ := okv_inv h
    cases ha with
    | cons _ vx _ _ hx ha' =>
      cases ha'
      obtain ⟨r, hr1, hr2⟩ := lenE_sound (w := w) (ty := ty) hx h1
      rw [ets] at hr2
      exact .pure c hr1 (by simp [builtin, hr2])
  · rename_i x
    obtain ⟨h1, rfl, rfl, rfl⟩ := okv_inv h
    cases ha with
    | cons _ vx _ _ hx ha' =>
      cases ha'
      obtain ⟨r, hr1, hr2⟩ := capE_sound (w := w) (ty := ty) hx h1
      rw [ets] at hr2
      exact .pure c hr1 (by simp [builtin, hr2])
  · rename_i s x
    cases ha with
    | cons _ vs1 _ _ hs ha' =>
      cases ha' with
      | cons _ vx _ _ hx ha'' =>
        cases ha''
        refine (appendE_sound (ty := ty) c hs hx h).mono fun r w' hr => ?_
        rw [ets] at hr
        simp [builtin, hr]
  · exact (op_min (P := P) (ts := ts) (ty := ty) c ha h).mono fun r w' hr => by simp [builtin, hr]
  · exact (op_max (P := P) (ts := ts) (ty := ty) c ha h).mono fun r w' hr => by simp [builtin, hr]
  · rename_i x
    cases ha with
    | cons _ vx _ _ hx ha' =>
      cases ha'
      refine (clearE_sound (ty := ty) c hx h).mono fun r w' hr => ?_
      rw [ets] at hr
      simp [builtin, hr]
  · rename_i d s
    cases ha with
    | cons _ vd _ _ hd ha' =>
      cases ha' with
      | cons _ vs1 _ _ hs ha'' =>
        cases ha''
        refine (copyE_sound (ty := ty) c hd hs h).mono fun r w' hr => ?_
        rw [ets] at hr
        simp [builtin, hr]
  · cases h

theorem methL_find (l : List Method) (name : String) : l.find? (·.name == name) = methL l name := by
  induction l with
  | nil => rfl
  | cons m l ih =>
    have e : methL (m :: l) name = if m.name = name then some m else methL l name := rfl
    rw [e, List.find?_cons]
    by_cases h : m.name = name
    · have hb : (m.name == name) = true := by rw [h]; exact beq_self_eq_true name
      rw [hb, if_pos h]
    · have hb : (m.name == name) = false := beq_false_of_ne h
      rw [hb, if_neg h]; exact ih
theorem methK_inv {t : TypeId} {name : String} {k : Nat → OR} (h : methK P t name k = .ok v H' n') : ∃ f, (∀ (u : Value) (w : World), (method (P.types.size + Made.depth) t u name).run P w = .ok (f, u) w) ∧ k f = .ok v H' n' := by
  unfold methK at h
  split at h
  · rename_i i hi
    split at h
    · rename_i m hm
      split at h
      · rename_i f hp hf
        rw [sel_eq] at h
        split at h
        · cases h
        · rename_i hpt
          refine ⟨f, fun u w => ?_, h⟩
          have hfind : i.methods.find? (·.name == name) = some m := by rw [← Array.find?_toList, methL_find, hm]
          have hd : Made.depth + P.types.size = (P.types.size + Made.depth - 1) + 1 := by unfold Made.depth; omega
          rw [Nat.add_comm, hd]
          have hu : ∃ d, P.underlying t = some d ∧ ∀ e, d ≠ .pointer e := by
            unfold ptrT at hpt
            cases hu : P.underlying t with
            | none => rw [hu] at hpt; exact absurd rfl hpt
            | some d => exact ⟨d, rfl, fun e he => by rw [hu, he] at hpt; exact absurd rfl hpt⟩
          obtain ⟨d, hu, hne⟩ := hu
          have hrec : (receiverAt t (.val u) false (if m.path.isEmpty = true then some ((name.splitOn ".").getLastD name) else none)).run P w = .ok u w := by
            unfold receiverAt
            simp only [Sem.run_bind, run_underlying hu, Result.andThen_ok]
            cases d <;> first | exact absurd rfl (hne _) | rfl
          simp only [method, Sem.run_bind, run_typeInfo w hi, Result.andThen_ok, hfind, hp, hf, follow, Sem.run_pure, hrec]
      · cases h
    · cases h
  · cases h
theorem _root_.Go.Eng.Does.congr {s s' : Sem Next} {w w' : World} {x : Value} {c : Frame} {cs : List Frame} (h : Does P s w x w' c cs) (e : s'.run P w = s.run P w) : Does P s' w x w' c cs := by
  cases h with
  | value h => exact .value (e.trans h)
  | skip h hx => exact .skip (e.trans h) hx
  | enter f args w1 h hr => exact .enter f args w1 (e.trans h) hr
  | round l f tmps assign body w1 h hr => exact .round l f tmps assign body w1 (e.trans h) hr
theorem op_call (c : Ctx base H n ρ L w) (ht : TR ρ L nt T tmps) (hcall : CallS P call) {q : Call} (ho : o.op = .call q) (h : opE P call T H n o.op = .ok v H' n') :
    After base H n ρ L w v H' n' (OpDone P tmps o w cfr ccs) := by
  rw [ho] at h
  simp only [opE_eq, opX, callE] at h
  rw [sel_eq] at h
  split at h
  · rename_i hnb
    have ha := evs_sound ht q.args.toList hnb
    have hargs : (q.args.map (evT tmps)) = (q.args.toList.map (evT tmps)).toArray := by apply Array.ext'; simp
    split at h
    · rename_i b hcal
      refine (builtinE_sound (ty := o.type) (consts := q.args.map fun | .const _ => true | _ => false) c ha h).mono fun x w' hx => ?_
      refine .value ?_
      rw [← hargs] at hx
      simp only [execOp, ho, resolve, hcal, invoke]
      exact hx
    · rename_i f hcal
      rw [sel_beq] at h
      split at h
      · cases h
      · rename_i hf
        have hfv := ev_sound ht f hf
        have ha' : AR ρ L (evs T q.args.toList) (q.args.map (evT tmps)).toList := by rw [hargs]; exact ha
        refine (hcall _ _ _ _ _ _ _ _ _ _ _ _ _ cfr ccs c hfv ha' h).mono fun x w' hx => ?_
        have e : execOp (evT tmps) o = (do let d ← Deferred.ofValue (evT tmps f) (q.args.map (evT tmps)); invoke d.target d.args) := by
          simp only [execOp, ho, resolve, hcal]
        show Does P (execOp (evT tmps) o) w x w' cfr ccs
        rw [e]; exact hx
    · rename_i r m hcal
      rw [sel_beq] at h
      split at h
      · rename_i h10
        split at h
        · rename_i ty cc hget
          have hr := ev_sound ht r (by rw [h10]; decide)
          obtain ⟨u, hu, hvu, hlt⟩ := hr.iface_inv h10 (c.agree.2 _ _ hget)
          obtain ⟨f, hmk, hk⟩ := methK_inv h
          have ha' : AR ρ L (cc :: evs T q.args.toList) (#[u] ++ q.args.map (evT tmps)).toList := by
            rw [hargs]
            simpa using AR.cons _ _ _ _ hvu ha
          refine (hcall _ _ _ _ _ _ _ _ _ _ _ _ _ cfr ccs c (.fn f) ha' hk).mono fun x w' hx => ?_
          have e : (execOp (evT tmps) o).run P w = ((do let d ← Deferred.ofValue (.func (.func f) #[] #[]) (#[u] ++ q.args.map (evT tmps)); invoke d.target d.args : Sem Next)).run P w := by
            simp only [execOp, ho, resolve, hcal]
            have h0 : (#[Value.iface ty u] ++ Array.map (evT tmps) q.args)[0]? = some (Value.iface ty u) := by simp [Array.getElem?_append]
            have hex : (Array.map (evT tmps) q.args).extract 0 q.args.size = Array.map (evT tmps) q.args := by
              apply Array.ext'
              rw [Array.toList_extract]
              simp
              exact List.take_of_length_le (by simp)
            have hpr : ∀ k : Program → Sem Next, (program >>= k : Sem Next).run P w = (k P).run P w := fun k => by simp
            simp [Deferred.ofValue, invoke, callMethod, hu, h0, hex, hmk u w]
          exact hx.congr e
        · cases h
      · cases h
  · cases h

/-- One operation. -/
theorem opE_sound (c : Ctx base H n ρ L w) (ht : TR ρ L nt T tmps) (hcall : CallS P call) (h : opE P call T H n o.op = .ok v H' n') : After base H n ρ L w v H' n' (OpDone P tmps o w cfr ccs) := by
  cases hop : o.op with
  | move x => rw [hop] at h; exact (op_move c ht (.inl hop) h).after c
  | assign x => rw [hop] at h; exact (op_move c ht (.inr hop) h).after c
  | nilCheck x => exact (op_nil c ht hop h).after c
  | pick q a b => exact (op_pick c ht hop h).after c
  | alloc t => exact op_alloc c hop h
  | box t x => exact op_box c ht hop h
  | buildSlice t len ps => exact op_buildSlice c ht hop h
  | load t a => exact (op_load c ht hop h).after c
  | store t a x => exact op_store c ht hop h
  | binOp op t x y yt => exact (op_bin c ht hop h).after c
  | unOp op t x => exact (op_un c ht hop h).after c
  | makeFunc fn first cap =>
    cases fn with
    | func f => exact (op_makeFunc c ht hop h).after c
    | _ => rw [hop] at h; cases h
  | makeSlice t l q => exact op_makeSlice c ht hop h
  | slice t x lo hi mx => exact (op_slice c ht hop h).after c
  | indexAddr t x i => exact (op_indexAddr c ht hop h).after c
  | extract x i => exact (op_extract c ht hop h).after c
  | call q => exact op_call c ht hcall hop h
  | convert s t x => exact (op_convert c ht hop h).after c
  | build t ps => exact (op_build c ht hop h).after c
  | field t x i => exact (op_field c ht hop h).after c
  | index t x i => exact (op_index c ht hop h).after c
  | fieldAddr t x i => exact (op_fieldAddr c ht hop h).after c
  | lookup t x i ok => exact (op_lookup c ht hop h).after c
  | mapUpdate t x i y => exact op_mapUpdate c ht hop h
  | makeMap t r => exact op_makeMap c ht hop h
  | makeInterface t x => exact (op_makeInterface c ht hop h).after c
  | _ => rw [hop] at h; cases h
end
end Go.Eng
