/- Part of the evaluator: Xf Xi. -/
import Derived.Test.YtnglbchhlpbgkabSEngXe
import Derived.Test.YtnglbchhlpbgkabSEngXp

/- Laws on a code: what is drawn is known, and the law is run on it. -/
namespace Go.Eng
set_option linter.unusedSectionVars false
set_option linter.unusedSimpArgs false
set_option linter.unusedVariables false
open Go Go.RowKit

section
variable [E : Env]
section
variable {base n : Nat} {H : Trie} {ρ : Rho} {L : Look} {w : World}
theorem listW_row {ts : List Nat} (h : ∀ i, i < ts.length → storable (ts.getD i 0) = true) : allSlot ts = true := allSlot_of _ fun x hx => by
  obtain ⟨i, hi, rfl⟩ := List.mem_iff_getElem.1 hx
  have := h i hi
  rw [List.getD_eq_getElem?_getD, List.getElem?_eq_getElem hi] at this
  exact ((storable_iff _).1 this).2.2.2
theorem adopt_drow (c : Ctx base H n ρ L w) (hn : n < 16384) {s rb d cp : Nat} {ts : List Nat} (hs : Low base s) (h : DRow E s w rb d cp ts) (h0 : ts.length ≠ 0) (hm : ts.length < 1048576) (hnew : ∀ b r, ρ b = some r → r.1 ≠ rb) :
    ∃ ρ' L', Ctx base (hset H n (.cells (lenN ts) (listW ts) (n + 1) n n (lenN ts))) (n + 1) ρ' L' w ∧ Ext ρ L ρ' L' ∧ VR ρ' L' (wS n 1 0 (lenN ts) 0) (.slice (some ⟨rb, d, none⟩) ts.length cp) ∧ (∀ b r, ρ' b = some r → ρ b = some r ∨ r.1 = rb) ∧ Loc H n ρ L ρ' L' := by
  obtain ⟨h1, h2, h3, cs, ty, h4, h5, h6⟩ := h
  rw [lenN_eq]
  have hsl : allSlot ts = true := listW_row fun i hi => by obtain ⟨u, _, q⟩ := h6 i hi; exact q.2
  obtain ⟨c1, e1⟩ := c.adopt (sz := cp) (len := ts.length) (ch := listW ts) hn h4 (Nat.le_trans hs.1 h1) (hs.2 _ h1) hnew h5 h2 (fun j hj => by
    obtain ⟨u, a, b⟩ := h6 j hj
    rw [getW_listW _ hsl]
    exact ⟨u, a, b.vr ρ L, b.2⟩)
  refine ⟨_, _, c1, e1, .slice n 1 0 ts.length 0 rb d cp cp _ (updR_same _ _ _) (by omega) (by omega) hm (by omega) h2 h3 (.inl rfl) (.inr ⟨by simp, by omega⟩), fun b r hr => ?_, .fresh _ _⟩
  by_cases hbn : b = n
  · subst hbn; rw [updR_same] at hr; injection hr with hr; subst hr; exact .inr rfl
  · rw [updR_ne _ _ hbn] at hr; exact .inl hr
theorem putItems_le : ∀ (l : List DI) (H : Trie) (n : Nat) (ws : List Nat), n ≤ (putItems l H n ws).n
  | [], H, n, ws => Nat.le_refl _
  | .cell t :: l, H, n, ws => putItems_le l H n (ws ++ [t])
  | .emp :: l, H, n, ws => putItems_le l H n (ws ++ [14])
  | .row ts :: l, H, n, ws => Nat.le_trans (Nat.le_succ n) (putItems_le l _ _ _)
  | .sum _ _ ts :: l, H, n, ws => Nat.le_trans (Nat.le_trans (Nat.le_succ n) (Nat.le_succ _)) (putItems_le l _ _ _)
theorem putItems_sound {s : Nat} : ∀ (l : List DI) (vs : List Value) (bs : List Nat) (H : Trie) (n : Nat) (ws : List Nat) (us : List Value) (ρ : Rho) (L : Look), Ctx base H n ρ L w → Low base s → NewItems E s w l vs bs → (putItems l H n ws).n < 16384 →
    okDI l = true → (∀ b r, ρ b = some r → r.1 ∉ bs) → AR ρ L ws us → (∀ x ∈ ws, x < 2 ^ 128) →
    ∃ ρ' L', Ctx base (putItems l H n ws).H (putItems l H n ws).n ρ' L' w ∧ Ext ρ L ρ' L' ∧ AR ρ' L' (putItems l H n ws).ws (us ++ vs) ∧ (∀ x ∈ (putItems l H n ws).ws, x < 2 ^ 128) ∧ Loc H n ρ L ρ' L'
  | [], vs, bs, H, n, ws, us, ρ, L, c, hs, hnr, hlt, hl, hbs, ha, hst => by
    cases hnr
    exact ⟨ρ, L, c, .refl _ _, by rw [List.append_nil]; exact ha, hst, .refl _ _ _ _⟩
  | x :: l, vs, bs, H, n, ws, us, ρ, L, c, hs, hnr, hlt, hl, hbs, ha, hst => by
    cases hnr with
    | cell t v _ vs' _ h0 h1 =>
      have hl' : okDI l = true := hl
      obtain ⟨ρ', L', c', e', ha', hst', hloc⟩ := putItems_sound l vs' bs H n (ws ++ [t]) (us ++ [v]) ρ L c hs h1 hlt hl' hbs (ha.app (.cons _ _ _ _ (h0.vr ρ L) .nil)) (fun y hy => by
        rcases List.mem_append.1 hy with hy | hy
        · exact hst y hy
        · simp at hy; subst hy; exact storable_lt h0.2)
      have ha2 : AR ρ' L' (putItems l H n (ws ++ [t])).ws (us ++ v :: vs') := by simpa using ha'
      exact ⟨ρ', L', c', e', ha2, hst', hloc⟩
    | emp a _ vs' _ h1 =>
      have hl' : okDI l = true := hl
      obtain ⟨ρ', L', c', e', ha', hst', hloc⟩ := putItems_sound l vs' bs H n (ws ++ [14]) (us ++ [.slice (some a) 0 0]) ρ L c hs h1 hlt hl' hbs (ha.app (.cons _ _ _ _ (.sl0 a) .nil)) (fun y hy => by
        rcases List.mem_append.1 hy with hy | hy
        · exact hst y hy
        · simp at hy; subst hy; omega)
      have ha2 : AR ρ' L' (putItems l H n (ws ++ [14])).ws (us ++ Value.slice (some a) 0 0 :: vs') := by simpa using ha'
      exact ⟨ρ', L', c', e', ha2, hst', hloc⟩
    | row ts rb d cp _ vs' bs' hm0 h1 h2 h3 =>
      have e : putItems (.row ts :: l) H n ws = putItems l (hset H n (.cells (lenN ts) (listW ts) (Nat.succ n) n n (lenN ts))) (Nat.succ n) (ws ++ [wS n 1 0 (lenN ts) 0]) := rfl
      have hl' : sel (ltb (lenN ts) 1048576) (okDI l) false = true := hl
      obtain ⟨q1, hl'⟩ := sel_and hl'
      have q1 := (ltb_iff _ _).1 q1
      rw [lenN_eq] at q1
      rw [e] at hlt ⊢
      have hle := putItems_le l (hset H n (.cells (lenN ts) (listW ts) (Nat.succ n) n n (lenN ts))) (Nat.succ n) (ws ++ [wS n 1 0 (lenN ts) 0])
      have hnl : n < 16384 := by omega
      obtain ⟨ρ1, L1, c1, e1, v1, hb1, hloc1⟩ := adopt_drow c hnl hs h1 hm0 q1 (fun b r hr => fun hh => hbs b r hr (by simp [hh]))
      obtain ⟨ρ', L', c', e', ha', hst', hloc⟩ := putItems_sound l vs' bs' (hset H n (.cells (lenN ts) (listW ts) (Nat.succ n) n n (lenN ts))) (Nat.succ n) (ws ++ [wS n 1 0 (lenN ts) 0]) (us ++ [.slice (some ⟨rb, d, none⟩) ts.length cp]) ρ1 L1 c1 hs h3 hlt hl' (fun b r hr => by
        rcases hb1 b r hr with hr | hr
        · exact fun hh => hbs b r hr (by simp [hh])
        · rw [hr]; exact h2) ((ha.mono e1).app (.cons _ _ _ _ v1 .nil)) (fun y hy => by
        rcases List.mem_append.1 hy with hy | hy
        · exact hst y hy
        · simp at hy; subst hy
          rw [lenN_eq, wS_eq]; omega)
      exact ⟨ρ', L', c', e1.trans e', by simpa using ha', hst', hloc1.trans (Nat.le_succ _) hloc⟩
    | sum t1 t2 x1 x2 ts rb d cp _ vs' bs' g1 g2 hm0 h1 h2 h3 =>
      have e : putItems (.sum t1 t2 ts :: l) H n ws = putItems l (hset (hset H n (.cells (lenN ts) (listW ts) (Nat.succ n) n n (lenN ts))) (Nat.succ n) (.box 0 3 (listW [t1, t2, wS n 1 0 (lenN ts) 0]))) (Nat.succ (Nat.succ n)) (ws ++ [mk 6 (Nat.succ n)]) := rfl
      have hl' : sel (ltb (lenN ts) 1048576) (okDI l) false = true := hl
      obtain ⟨q1, hl'⟩ := sel_and hl'
      have q1 := (ltb_iff _ _).1 q1
      rw [lenN_eq] at q1
      rw [e] at hlt ⊢
      have hle := putItems_le l (hset (hset H n (.cells (lenN ts) (listW ts) (Nat.succ n) n n (lenN ts))) (Nat.succ n) (.box 0 3 (listW [t1, t2, wS n 1 0 (lenN ts) 0]))) (Nat.succ (Nat.succ n)) (ws ++ [mk 6 (Nat.succ n)])
      have e2 : Nat.succ n = n + 1 := rfl
      have e3 : Nat.succ (Nat.succ n) = n + 2 := rfl
      have hnl : n + 1 < 16384 := by omega
      obtain ⟨ρ1, L1, c1, e1, v1, hb1, hloc1⟩ := adopt_drow c (by omega) hs h1 hm0 q1 (fun b r hr => fun hh => hbs b r hr (by simp [hh]))
      have hwS : wS n 1 0 (lenN ts) 0 < 2 ^ 128 := by rw [lenN_eq, wS_eq]; omega
      have hst3 : storable (wS n 1 0 (lenN ts) 0) = true := by
        rw [storable_iff, tag_wS]
        exact ⟨by decide, by decide, by decide, hwS⟩
      have hall : allSlot [t1, t2, wS n 1 0 (lenN ts) 0] = true := allSlot_of _ fun y hy => by
        simp only [List.mem_cons, List.not_mem_nil, or_false] at hy
        rcases hy with rfl | rfl | rfl
        · exact storable_lt g1.2
        · exact storable_lt g2.2
        · exact hwS
      have hlen3 : ∀ a b d : Nat, [a, b, d].length = 3 := fun _ _ _ => rfl
      have hlw := listW_lt _ hall
      rw [hlen3] at hlw
      have ex : Ext ρ1 L1 ρ1 (upd L1 (n + 1) (.box 0 3 (listW [t1, t2, wS n 1 0 (lenN ts) 0]))) := .freshL c1.fresh _
      have c2 : Ctx base (hset (hset H n (.cells (lenN ts) (listW ts) (Nat.succ n) n n (lenN ts))) (Nat.succ n) (.box 0 3 (listW [t1, t2, wS n 1 0 (lenN ts) 0]))) (Nat.succ (Nat.succ n)) ρ1 (upd L1 (n + 1) (.box 0 3 (listW [t1, t2, wS n 1 0 (lenN ts) 0]))) w :=
        ⟨c1.sim.box c1.fresh _ _ _, c1.agree.hset hnl _, c1.fresh.updL _⟩
      have hagg : VR ρ1 (upd L1 (n + 1) (.box 0 3 (listW [t1, t2, wS n 1 0 (lenN ts) 0]))) (mk 6 (Nat.succ n)) (.agg #[x1, x2, .slice (some ⟨rb, d, none⟩) ts.length cp]) := by
        refine .agg (n + 1) 3 _ _ (upd_same _ _ _) rfl (fun i hi => ?_) hlw (fun i hi => ?_)
        · rw [getW_listW _ hall]
          have hi3 : i = 0 ∨ i = 1 ∨ i = 2 := by simp at hi; omega
          rcases hi3 with rfl | rfl | rfl
          · exact g1.vr _ _
          · exact g2.vr _ _
          · exact v1.mono ex
        · rw [getW_listW _ hall]
          have hi3 : i = 0 ∨ i = 1 ∨ i = 2 := by omega
          rcases hi3 with rfl | rfl | rfl
          · exact g1.2
          · exact g2.2
          · exact hst3
      obtain ⟨ρ', L', c', e', ha', hst', hloc⟩ := putItems_sound l vs' bs' (hset (hset H n (.cells (lenN ts) (listW ts) (Nat.succ n) n n (lenN ts))) (Nat.succ n) (.box 0 3 (listW [t1, t2, wS n 1 0 (lenN ts) 0]))) (Nat.succ (Nat.succ n)) (ws ++ [mk 6 (Nat.succ n)]) (us ++ [.agg #[x1, x2, .slice (some ⟨rb, d, none⟩) ts.length cp]]) ρ1 _ c2 hs h3 hlt hl' (fun b r hr => by
        rcases hb1 b r hr with hr | hr
        · exact fun hh => hbs b r hr (by simp [hh])
        · rw [hr]; exact h2) (((ha.mono e1).mono ex).app (.cons _ _ _ _ hagg .nil)) (fun y hy => by
        rcases List.mem_append.1 hy with hy | hy
        · exact hst y hy
        · simp at hy; subst hy
          rw [mk_eq]; omega)
      exact ⟨ρ', L', c', (e1.trans ex).trans e', by simpa using ha', hst', Loc.trans (H1 := H) (Loc.trans (H1 := H) hloc1 (Nat.le_succ _) (.freshL _)) (Nat.le_trans (Nat.le_succ _) (Nat.le_succ _)) hloc.any⟩

end

theorem drewS_sound {P : Program} {fd : Nat} {one : Bool} {l : List DI} {j0 : Nat} (K : DrawnK E P fd one l j0) : SumS P (drewS fd one l j0) := by
  intro base H n ρ L w f args vs v H' n' cs c ha h
  unfold drewS at h
  rw [sel_beq] at h
  generalize hvs : vs.toList = l0 at ha
  split at h
  · rename_i hf
    subst hf
    split at h
    · rename_i s
      rcases ha with _ | ⟨_, v1, _, vs1, hr1, ha1⟩
      cases ha1
      have hvv : vs = #[v1] := by cases vs; simp_all
      subst hvv
      obtain ⟨g1, k1⟩ := gd_inv h
      obtain ⟨g2, k2⟩ := gd_inv k1
      obtain ⟨g3, k3⟩ := gd_inv k2
      obtain ⟨g4, k4⟩ := gd_inv k3
      obtain ⟨g5, k5⟩ := gd_inv k4
      obtain ⟨g6, k6⟩ := gd_inv k5
      obtain ⟨g7, k7⟩ := gd_inv k6
      obtain ⟨g8, k8⟩ := gd_inv k7
      injection k8 with hfin
      clear h k1 k2 k3 k4 k5 k6 k7
      have g1 := Nat.eq_of_beq_eq_true g1
      have g2 := Nat.eq_of_beq_eq_true g2
      have g4 := Nat.le_of_ble_eq_true g4
      have g5 := Nat.le_of_ble_eq_true g5
      have g7 := (ltb_iff _ _).1 g7
      obtain ⟨b, j, lo, hi, rb, d, sz, cap, hb, hj, hlo, hhi, h5, h6, h7, h8, h9, rfl, rfl⟩ := hr1.opq_inv g1
      obtain ⟨p1, p2, p3, p4⟩ := o_parts b j lo hi hj hlo hhi
      rw [p3] at g2
      have g2 := g2.symm
      subst g2
      rw [p4] at g3
      rw [p2] at g4
      rw [p1] at g5 g6
      rw [sel_beq] at g6
      have hhi0 : hi ≠ 0 := by intro h0; rw [if_pos h0] at g6; cases g6
      have g3 := isCode_inv g3
      have hL := c.agree.2 _ _ g3
      have hgr : grp L b = 0 := by simp [grp, hL]
      obtain ⟨k, hk, hbr⟩ := c.sim.blk b _ hb
      rw [hL] at hk; injection hk with hk; subst hk
      obtain ⟨cs0, ty, fz, q1, q2, q3, q4, q5⟩ := hbr (.inl hgr)
      obtain ⟨e, W, ⟨x, vs', bs, he, hni, ho1, ho0, hbel⟩, hcall⟩ := calls_at (K.calls w rb d sz cap cs0 ty fz q1 q2 h7 h8 h9 q5 (by omega) (by omega)) cs
      subst he
      have c' := c.later hbel
      have hlow := hni.low
      obtain ⟨ρ', L', c2, e2, ha2, hst2, hloc2⟩ := putItems_sound (s := w.heap.size) l vs' bs H n [] [] ρ L c' c.sim.low hni (by omega) g8 (fun b r hbr => fun hh => by have := c.sim.bnd b r hbr; have := hlow _ hh; omega) .nil (fun x hx => by cases hx)
      have hle := putItems_le l H n []
      simp only [List.nil_append] at ha2
      unfold finD at hfin
      cases one with
      | true =>
        rw [sel_true] at hfin
        injection hfin with a1 a2 a3
        subst a1; subst a2; subst a3
        have hv := ho1 rfl
        subst hv
        generalize (putItems l H n []).ws = ws at ha2 ⊢
        rcases ha2 with _ | ⟨u, _, _, _, hu, hn0⟩
        cases hn0
        exact ⟨ρ', L', W, x, c2, e2, hbel.mono c.sim.bs, hloc2, hle, hu, K.known, hcall⟩
      | false =>
        rw [sel_false] at hfin
        obtain ⟨b1, b2, b3, b4⟩ := newBox_inv hfin
        subst b2; subst b3; subst b4
        have hv := ho0 rfl
        subst hv
        have hsl : allSlot (putItems l H n []).ws = true := allSlot_of _ fun y hy => hst2 y hy
        have e3 : Ext ρ' L' ρ' (upd L' (putItems l H n []).n (.box 1 (lenN l) (listW (putItems l H n []).ws))) := .freshL c2.fresh _
        refine ⟨ρ', _, W, _, ⟨c2.sim.box c2.fresh _ _ _, c2.agree.hset b1 _, c2.fresh.updL _⟩, e2.trans e3, hbel.mono c.sim.bs, Loc.trans (H1 := (putItems l H n []).H) hloc2 hle (.freshL _), by omega, ?_, K.known, hcall⟩
        refine .tup _ (lenN l) _ _ (upd_same _ _ _) (by rw [lenN_eq]; simpa using hni.len) fun i hi => ?_
        have hi' : i < vs'.length := by simpa using hi
        have hvr := ha2.get i hi'
        have hwl : (putItems l H n []).ws.length = vs'.length := ha2.length.symm
        rw [getW_listW _ hsl]
        have := hvr.mono e3
        simpa using this
    · cases h
  · cases h
end

/-- A law on a code, run on what is drawn. -/
noncomputable def drewRun (P : Program) (S0 : Sums) (fd : Nat) (one : Bool) (j0 : Nat) (l : List DI) (fuel d f : Nat) : OR := funE P (callN P (orS (drewS fd one l j0) S0) fuel d) fuel f [wO 0 j0 1 1048576] (hset .nil 0 (.opq j0 1)) 1
noncomputable def anyDrew (one : Bool) (ls : List (List DI)) (r : OR) : Bool := List.rec (motive := fun _ => Bool) false (fun l _ ih => sel (isDrew one l r) true ih) ls
theorem anyDrew_inv {one : Bool} {r : OR} : ∀ {ls : List (List DI)}, anyDrew one ls r = true → ∃ l ∈ ls, isDrew one l r = true
  | [], h => by cases h
  | l :: ls, h => by
    have e : anyDrew one (l :: ls) r = sel (isDrew one l r) true (anyDrew one ls r) := rfl
    rw [e, sel_eq] at h
    split at h
    · rename_i h1; exact ⟨l, List.mem_cons_self, h1⟩
    · obtain ⟨m, hm, h2⟩ := anyDrew_inv h
      exact ⟨m, List.mem_cons_of_mem _ hm, h2⟩

/-- Whatever is drawn, something holds of it. -/
def CoversG (G : OR → Prop) (run : Tab → OR) (tab : Tab) : Prop :=
  ∀ (E : Env) (code : List Int) (j0 : Nat), @DrawE E code j0 → 1 ≤ code.length → @TabOk E tab → ∀ Q : Prop, (∀ E' : Env, E'.lst = E.lst → @DrawE E' code j0 → ∀ tab, @TabOk E' tab → G (run tab) → Q) → Q
theorem CoversG.of {G : OR → Prop} {p : OR → Bool} {run : Tab → OR} {tab : Tab} (h : CoversP p run tab) (hG : ∀ r, p r = true → G r) : CoversG G run tab :=
  fun E code j0 hE hne hT Q hrun => h E code j0 hE hne hT Q fun E' hl hE' tab' hT' hp => hrun E' hl hE' tab' hT' (hG _ hp)
theorem CoversG.part {G : OR → Prop} {run : Tab → OR} {tab : Tab} (j : Nat) (hj : okIx j = true) (h : ∀ v, v < j % 4096 → CoversG G run ((j, v, v) :: tab)) : CoversG G run tab := by
  intro E code j0 hE hne hT Q hrun
  obtain ⟨hp, hn1, hn2⟩ := okIx_inv hj
  have hi := hE.int (j / 4096) (j % 4096) hp hn1 hn2
  have hr := pickv_range (c := code.take 2000) (fun x hx => hE.byte x (List.mem_of_mem_take hx)) (by simp; omega) hp hn1 hn2
  rw [show j / 4096 * 4096 + j % 4096 = j from by omega] at hi
  rw [← hi] at hr
  have hv : ((E.int j).toNat : Int) = E.int j := by omega
  refine h (E.int j).toNat (by omega) E code j0 hE hne ?_ Q hrun
  intro e he
  rcases List.mem_cons.1 he with rfl | he
  · exact .inl ⟨by show (((E.int j).toNat : Nat) : Int) ≤ E.int j; omega, by show E.int j ≤ (((E.int j).toNat : Nat) : Int); omega, by show (E.int j).toNat < 1000; omega⟩
  · exact hT e he
def Drawn (P : Program) (S0 : Sums) (fd : Nat) (one : Bool) (j0 : Nat) (fuel d f : Nat) (r : OR) : Prop := ∃ l, isTrue (drewRun P S0 fd one j0 l fuel d f) = true ∧ isDrew one l r = true
/-- something of each of a list -/
def AllI {α : Type} (p : α → Prop) (l : List α) : Prop := List.rec (motive := fun _ => Prop) True (fun x _ ih => p x ∧ ih) l
theorem AllI.mem {α : Type} {p : α → Prop} : ∀ {l : List α}, AllI p l → ∀ x ∈ l, p x
  | _ :: _, h, x, hx => by
    rcases List.mem_cons.1 hx with rfl | hx
    · exact h.1
    · exact AllI.mem h.2 x hx
noncomputable section
/-- a number that is drawn and not known -/
def drawVar (w : Nat) : Bool := sel (Nat.beq (tagOf w) 12) (ltb (vIx (payOf w)) 1099511627776) false
def scanC (k : OR) (m : Nat) : Nat → OR := Nat.rec (motive := fun _ => Nat → OR) (fun _ => k) (fun _ ih c => sel (drawVar (getW c 0)) (.bad (askMid (payOf (getW c 0)))) (ih (Nat.shiftRight c 128))) m
def scanW (H : Trie) (w : Nat) (k : OR) : OR :=
  sel (drawVar w) (.bad (askMid (payOf w))) (sel (Nat.beq (tagOf w) 4) (match rdRange H (Nat.pred (sBlk (payOf w))) (sOff (payOf w)) (sLen (payOf w)) with | .some c => scanC k (sLen (payOf w)) c | .none => k) k)
def scanL (H : Trie) (k : OR) (m : Nat) : Nat → OR := Nat.rec (motive := fun _ => Nat → OR) (fun _ => k) (fun _ ih c => scanW H (getW c 0) (ih (Nat.shiftRight c 128))) m
/-- asks for what is drawn and not known yet -/
def askIn (one : Bool) (r : OR) : OR :=
  match r with
  | .bad q => .bad q
  | .ok v H n => sel one (scanW H v (.ok v H n)) (match tget H (payOf v) with | some (.box _ m c) => scanL H (.ok v H n) m c | _ => .ok v H n)
end
theorem scanC_or {k r : OR} (hk : k = r ∨ ∃ q, k = .bad q) : ∀ (m c : Nat), scanC k m c = r ∨ ∃ q, scanC k m c = .bad q
  | 0, c => hk
  | m + 1, c => by
    have e : scanC k (m + 1) c = sel (drawVar (getW c 0)) (.bad (askMid (payOf (getW c 0)))) (scanC k m (Nat.shiftRight c 128)) := rfl
    rw [e, sel_eq]
    split
    · exact .inr ⟨_, rfl⟩
    · exact scanC_or hk m _
theorem scanW_or {H : Trie} {w : Nat} {k r : OR} (hk : k = r ∨ ∃ q, k = .bad q) : scanW H w k = r ∨ ∃ q, scanW H w k = .bad q := by
  unfold scanW
  rw [sel_eq]
  split
  · exact .inr ⟨_, rfl⟩
  · rw [sel_eq]
    split
    · split
      · exact scanC_or hk _ _
      · exact hk
    · exact hk
theorem scanL_or {H : Trie} {k r : OR} (hk : k = r ∨ ∃ q, k = .bad q) : ∀ (m c : Nat), scanL H k m c = r ∨ ∃ q, scanL H k m c = .bad q
  | 0, c => hk
  | m + 1, c => by
    have e : scanL H k (m + 1) c = scanW H (getW c 0) (scanL H k m (Nat.shiftRight c 128)) := rfl
    rw [e]
    exact scanW_or (scanL_or hk m _)
theorem askIn_or (one : Bool) (r : OR) : askIn one r = r ∨ ∃ q, askIn one r = .bad q := by
  cases r with
  | bad q => exact .inl rfl
  | ok v H n =>
    unfold askIn
    dsimp only
    rw [sel_eq]
    split
    · exact scanW_or (.inl rfl)
    · split
      · exact scanL_or (.inl rfl) _ _
      · exact .inl rfl
theorem anyDrew_bad {one : Bool} {q : Nat} : ∀ (ls : List (List DI)), anyDrew one ls (.bad q) = false
  | [] => rfl
  | l :: ls => by
    have e : anyDrew one (l :: ls) (.bad q) = sel (isDrew one l (.bad q)) true (anyDrew one ls (.bad q)) := rfl
    rw [e, anyDrew_bad ls]
    have : isDrew one l (.bad q) = false := by first | rfl | (unfold isDrew; cases one <;> rfl)
    rw [this]; rfl
theorem CoversP.ask {one : Bool} {ls : List (List DI)} {run : Tab → OR} {tab : Tab} (h : CoversP (anyDrew one ls) (fun tab => askIn one (run tab)) tab) : CoversP (anyDrew one ls) run tab :=
  fun E code j0 hE hne hT Q hrun => h E code j0 hE hne hT Q fun E' hl hE' tab' hT' hp => hrun E' hl hE' tab' hT' (by
    dsimp only at hp
    rcases askIn_or one (run tab') with h1 | ⟨q, h1⟩
    · rw [h1] at hp; exact hp
    · rw [h1, anyDrew_bad] at hp; cases hp)
theorem CoversG.drew {P : Program} {S0 : Sums} {fd : Nat} {one : Bool} {j0 fuel d f : Nat} {ls : List (List DI)} {run : Tab → OR} {tab : Tab} (h : CoversP (anyDrew one ls) run tab) (hl : AllI (fun l => isTrue (drewRun P S0 fd one j0 l fuel d f) = true) ls) : CoversG (Drawn P S0 fd one j0 fuel d f) run tab :=
  .of h fun r hr => by
    obtain ⟨l, hm, h1⟩ := anyDrew_inv hr
    exact ⟨l, hl.mem l hm, h1⟩

/-- A law on a code, out of what is drawn and its runs. -/
theorem drawn_trueX {P : Program} {S0 : Sums} {S1 : Nat → Tab → Sums} (hS0 : Always P S0) (hS1 : ∀ (E : Env) (code : List Int) (j0 : Nat) (tab : Tab), @DrawE E code j0 → @TabOk E tab → @SumS E P (S1 j0 tab)) {fo fp tS fuel d f fd fuel1 d1 len cap : Nat} {one : Bool} (K : DrawK P fo fp tS) {w : World} {x : Addr} {zs : List Int} (hz : RowOf .u8 w x cap zs) (hcap : 0 < cap) (hl : len ≤ cap) (hc : cap < 9223372036854775808)
    (hb : ∀ z ∈ zs, 0 ≤ z ∧ z ≤ 255) (ix : List Int → Nat) (hix : ∀ code, codeL code (ix code) = code.map (Value.int .u8) ∧ ix code < 1048576)
    (h0 : isTrue (emptyRun P S0 fo fp fuel d f) = true) (h1 : ∀ code, CoversG (Drawn P S0 fd one (ix code) fuel d f) (fun tab => dRun P (S1 (ix code) tab) fo fp fuel1 d1 fd (ix code) tab) []) (h2 : isTrue (longRun P S0 fo fp fuel d f) = true) :
    Calls P f #[.slice (some x) len cap] w fun e w' => e = .returned (.bool true) ∧ Below w.heap.size w w' := by
  obtain ⟨hsp, cs, ty, fz, hh, hsz, hall⟩ := hz.block hcap
  have hx : x = ⟨x.block, x.off, none⟩ := by
    cases x with
    | mk b o s => simp at hsp ⊢; exact hsp
  have hrb : x.block < w.heap.size := (Array.getElem?_eq_some_iff.1 hh).1
  have hzl : zs.length = cap := hz.1
  by_cases hl0 : len = 0
  · subst hl0
    letI : Env := anyEnv
    have c := (Ctx.start w).arg (nb := 0) (ch := 0) (sz := cap) (d := x.off) (by omega) hh hrb hsz (by omega) (by intro i hi; omega)
    refine run_true (orS_sound (draw_any K) (hS0 _)) c (.cons _ _ _ _ ?_ .nil) h0
    exact .slice 0 1 0 0 0 x.block x.off cap cap x (updR_same _ _ _) (by omega) (by omega) (by omega) (by omega) (by omega) (by omega) (.inl rfl) (.inr ⟨hx, by omega⟩)
  · have hcl : (zs.take len).length = len := by simp; omega
    have hcb : ∀ z ∈ zs.take len, 0 ≤ z ∧ z ≤ 255 := fun z hz => hb z (List.mem_of_mem_take hz)
    have main : ∀ (E : Env) (j0 : Nat), E.lst j0 = (zs.take len).map (Value.int .u8) → (∀ k o, E.kept k ≠ some o) → j0 < 1048576 → @Ctx E w.heap.size (hset .nil 0 (.opq j0 1)) 1 (updR (fun _ => none) 0 (x.block, x.off, cap)) (upd (fun _ => none) 0 (.opq j0 1)) w ∧
        ∀ lo hi : Nat, lo < 4194304 → hi < 4194304 → lo ≤ len → (hi = 0 ∨ len ≤ hi) → @VR E (updR (fun _ => none) 0 (x.block, x.off, cap)) (upd (fun _ => none) 0 (.opq j0 1)) (wO 0 j0 lo hi) (.slice (some x) len cap) := by
      intro E j0 hel hkn hjl
      have he : (E.lst j0).length = len := by rw [hel, List.length_map, hcl]
      have c := (Ctx.start w (fun k o h => absurd h (hkn k o))).opq (j := j0) (sz := cap) (d := x.off) (by omega) hh hrb hsz (by omega) (fun i hi => by
        rw [hall i (by omega), hel, List.getElem?_map]
        have hi2 : i < (zs.take len).length := by omega
        rw [List.getElem?_eq_getElem hi2]
        have hi3 : i < zs.length := by omega
        simp [List.getD_eq_getElem?_getD, hi3])
      refine ⟨c, ?_⟩
      intro lo hi q1 q2 q3 q4
      have := VR.opq (ρ := updR (fun _ => none) 0 (x.block, x.off, cap)) (L := upd (fun _ => none) 0 (.opq j0 1)) 0 j0 lo hi x.block x.off cap cap (updR_same _ _ _) hjl q1 q2 (by rw [he]; exact q3) (by rw [he]; exact q4) (by rw [he]; exact hl) (by omega) (by omega)
      rw [he, ← hx] at this
      exact this
    by_cases hlong : 1048576 < len
    · letI E : Env := codeEnv (zs.take len) (by omega)
      have hE : DrawE (zs.take len) 0 := codeEnv_ok (by omega) hcb (by omega) rfl
      obtain ⟨c, word⟩ := main E 0 rfl (fun _ _ h => by cases (show (none : Option Obj) = some _ from h)) (by omega)
      exact run_true (orS_sound (drawS_sound K hE tabOk_nil) (hS0 _)) c (.cons _ _ _ _ (word 1048577 0 (by omega) (by omega) (by omega) (.inl rfl)) .nil) h2
    · obtain ⟨hi1, hi2⟩ := hix (zs.take len)
      have hE : @DrawE (codeEnv (zs.take len) (by omega)) (zs.take len) (ix (zs.take len)) := codeEnv_ok (by omega) hcb (by omega) hi1
      refine h1 (zs.take len) (codeEnv (zs.take len) (by omega)) (zs.take len) _ hE (by omega) (@tabOk_nil (codeEnv (zs.take len) (by omega))) _ fun E' hl' hE' tab hT ⟨l, hr, hd⟩ => ?_
      obtain ⟨y, hy, KD⟩ := drawn_of (hS1 E' _ _ _ hE' hT) K hi2 hE' hT hd
      obtain ⟨c, word⟩ := main (pvEnv E' y hy) (ix (zs.take len)) hE'.l0 (fun _ _ h => by cases h) hi2
      letI : Env := pvEnv E' y hy
      exact run_true (orS_sound (drewS_sound KD) (hS0 _)) c (.cons _ _ _ _ (word 1 1048576 (by omega) (by omega) (by omega) (.inr (by omega))) .nil) hr

/-- A law on a code, out of what is drawn and its runs. -/
theorem drawn_true {P : Program} {S0 S1 : Sums} (hS0 : Always P S0) (hS1 : Always P S1) {fo fp tS fuel d f fd fuel1 d1 len cap : Nat} {one : Bool} (K : DrawK P fo fp tS) {w : World} {x : Addr} {zs : List Int} (hz : RowOf .u8 w x cap zs) (hcap : 0 < cap) (hl : len ≤ cap) (hc : cap < 9223372036854775808)
    (hb : ∀ z ∈ zs, 0 ≤ z ∧ z ≤ 255) (ix : List Int → Nat) (hix : ∀ code, codeL code (ix code) = code.map (Value.int .u8) ∧ ix code < 1048576)
    (h0 : isTrue (emptyRun P S0 fo fp fuel d f) = true) (h1 : ∀ code, CoversG (Drawn P S0 fd one (ix code) fuel d f) (dRun P S1 fo fp fuel1 d1 fd (ix code)) []) (h2 : isTrue (longRun P S0 fo fp fuel d f) = true) :
    Calls P f #[.slice (some x) len cap] w fun e w' => e = .returned (.bool true) ∧ Below w.heap.size w w' :=
  drawn_trueX (S1 := fun _ _ => S1) hS0 (fun E _ _ _ _ _ => hS1 E) K hz hcap hl hc hb ix hix h0 h1 h2

/-- ██ The walk of a law on a code, out of what is drawn and its runs. -/
theorem drawn_walk {P : Program} {S0 S1 : Sums} (hS0 : Always P S0) (hS1 : Always P S1) {fo fp tS fuel d f fd fuel1 d1 len cap : Nat} {one : Bool} (K : DrawK P fo fp tS) {w : World} {a : Option Addr} {zs : List Int}
    (w0 : (a = none ∧ len = 0 ∧ cap = 0 ∧ zs = []) ∨ ∃ x, a = some x ∧ len ≤ cap ∧ cap ≤ maxLen ∧ zs.length = cap ∧ (∀ i, i < zs.length → w.cell? (x.add i) = some (.int .u8 (zs.getD i 0))) ∧ ∀ n ∈ zs, (Lit.int .u8 n).wf = true)
    (hn : isTrue (nilRun P S0 fo fp fuel d f) = true) (hz : isTrue (zeroRun P S0 fo fp fuel d f) = true) (h0 : isTrue (emptyRun P S0 fo fp fuel d f) = true) (h2 : isTrue (longRun P S0 fo fp fuel d f) = true)
    (h1 : CoversG (Drawn P S0 fd one 0 fuel d f) (dRun P S1 fo fp fuel1 d1 fd 0) []) :
    Calls P f #[.slice a len cap] w fun e w' => e = .returned (.bool true) ∧ Below w.heap.size w w' := by
  rcases w0 with ⟨rfl, rfl, rfl, rfl⟩ | ⟨x, rfl, hl, hm, hzl, hcell, hwz⟩
  · exact code_nil hS0 K hn
  by_cases hc0 : cap = 0
  · subst hc0
    obtain rfl : len = 0 := by omega
    exact code_zero hS0 K hz
  unfold maxLen at hm
  exact drawn_true hS0 hS1 K ⟨hzl, hcell⟩ (by omega) hl (by omega) (fun z hz => wf_byte (hwz z hz)) (fun _ => 0) (fun _ => ⟨rfl, by omega⟩) h0 (fun _ => h1) h2
/-- ██ The same, where the law asks whether three divides the code's length. -/
theorem drawn_walk3 {P : Program} {S0 S1 : Sums} (hS0 : Always P S0) (hS1 : Always P S1) {fo fp tS fuel d f fd fuel1 d1 len cap : Nat} {one : Bool} (K : DrawK P fo fp tS) {w : World} {a : Option Addr} {zs : List Int}
    (w0 : (a = none ∧ len = 0 ∧ cap = 0 ∧ zs = []) ∨ ∃ x, a = some x ∧ len ≤ cap ∧ cap ≤ maxLen ∧ zs.length = cap ∧ (∀ i, i < zs.length → w.cell? (x.add i) = some (.int .u8 (zs.getD i 0))) ∧ ∀ n ∈ zs, (Lit.int .u8 n).wf = true)
    (hn : isTrue (nilRun P S0 fo fp fuel d f) = true) (hz : isTrue (zeroRun P S0 fo fp fuel d f) = true) (h0 : isTrue (emptyRun P S0 fo fp fuel d f) = true) (h2 : isTrue (longRun P S0 fo fp fuel d f) = true)
    (h1 : CoversG (Drawn P S0 fd one 1000 fuel d f) (dRun P S1 fo fp fuel1 d1 fd 1000) []) (h3 : CoversG (Drawn P S0 fd one 1001 fuel d f) (dRun P S1 fo fp fuel1 d1 fd 1001) []) :
    Calls P f #[.slice a len cap] w fun e w' => e = .returned (.bool true) ∧ Below w.heap.size w w' := by
  rcases w0 with ⟨rfl, rfl, rfl, rfl⟩ | ⟨x, rfl, hl, hm, hzl, hcell, hwz⟩
  · exact code_nil hS0 K hn
  by_cases hc0 : cap = 0
  · subst hc0
    obtain rfl : len = 0 := by omega
    exact code_zero hS0 K hz
  unfold maxLen at hm
  refine drawn_true (one := one) (fd := fd) (fuel1 := fuel1) (d1 := d1) hS0 hS1 K ⟨hzl, hcell⟩ (by omega) hl (by omega) (fun z hz => wf_byte (hwz z hz)) threeIx (fun code => ⟨codeL_three code, ?_⟩) h0 (fun code => ?_) h2
  · unfold threeIx; split <;> omega
  · unfold threeIx; split
    · exact h1
    · exact h3
/-- ██ The walk of a law on a code, out of what is drawn and its runs. -/
theorem drawn_walkX {P : Program} {S0 : Sums} {S1 : Nat → Tab → Sums} (hS0 : Always P S0) (hS1 : ∀ (E : Env) (code : List Int) (j0 : Nat) (tab : Tab), @DrawE E code j0 → @TabOk E tab → @SumS E P (S1 j0 tab)) {fo fp tS fuel d f fd fuel1 d1 len cap : Nat} {one : Bool} (K : DrawK P fo fp tS) {w : World} {a : Option Addr} {zs : List Int}
    (w0 : (a = none ∧ len = 0 ∧ cap = 0 ∧ zs = []) ∨ ∃ x, a = some x ∧ len ≤ cap ∧ cap ≤ maxLen ∧ zs.length = cap ∧ (∀ i, i < zs.length → w.cell? (x.add i) = some (.int .u8 (zs.getD i 0))) ∧ ∀ n ∈ zs, (Lit.int .u8 n).wf = true)
    (hn : isTrue (nilRun P S0 fo fp fuel d f) = true) (hz : isTrue (zeroRun P S0 fo fp fuel d f) = true) (h0 : isTrue (emptyRun P S0 fo fp fuel d f) = true) (h2 : isTrue (longRun P S0 fo fp fuel d f) = true)
    (h1 : CoversG (Drawn P S0 fd one 0 fuel d f) (fun tab => dRun P (S1 0 tab) fo fp fuel1 d1 fd 0 tab) []) :
    Calls P f #[.slice a len cap] w fun e w' => e = .returned (.bool true) ∧ Below w.heap.size w w' := by
  rcases w0 with ⟨rfl, rfl, rfl, rfl⟩ | ⟨x, rfl, hl, hm, hzl, hcell, hwz⟩
  · exact code_nil hS0 K hn
  by_cases hc0 : cap = 0
  · subst hc0
    obtain rfl : len = 0 := by omega
    exact code_zero hS0 K hz
  unfold maxLen at hm
  exact drawn_trueX (S1 := S1) hS0 hS1 K ⟨hzl, hcell⟩ (by omega) hl (by omega) (fun z hz => wf_byte (hwz z hz)) (fun _ => 0) (fun _ => ⟨rfl, by omega⟩) h0 (fun _ => h1) h2
/-- ██ The same, where the law asks whether three divides the code's length. -/
theorem drawn_walk3X {P : Program} {S0 : Sums} {S1 : Nat → Tab → Sums} (hS0 : Always P S0) (hS1 : ∀ (E : Env) (code : List Int) (j0 : Nat) (tab : Tab), @DrawE E code j0 → @TabOk E tab → @SumS E P (S1 j0 tab)) {fo fp tS fuel d f fd fuel1 d1 len cap : Nat} {one : Bool} (K : DrawK P fo fp tS) {w : World} {a : Option Addr} {zs : List Int}
    (w0 : (a = none ∧ len = 0 ∧ cap = 0 ∧ zs = []) ∨ ∃ x, a = some x ∧ len ≤ cap ∧ cap ≤ maxLen ∧ zs.length = cap ∧ (∀ i, i < zs.length → w.cell? (x.add i) = some (.int .u8 (zs.getD i 0))) ∧ ∀ n ∈ zs, (Lit.int .u8 n).wf = true)
    (hn : isTrue (nilRun P S0 fo fp fuel d f) = true) (hz : isTrue (zeroRun P S0 fo fp fuel d f) = true) (h0 : isTrue (emptyRun P S0 fo fp fuel d f) = true) (h2 : isTrue (longRun P S0 fo fp fuel d f) = true)
    (h1 : CoversG (Drawn P S0 fd one 1000 fuel d f) (fun tab => dRun P (S1 1000 tab) fo fp fuel1 d1 fd 1000 tab) []) (h3 : CoversG (Drawn P S0 fd one 1001 fuel d f) (fun tab => dRun P (S1 1001 tab) fo fp fuel1 d1 fd 1001 tab) []) :
    Calls P f #[.slice a len cap] w fun e w' => e = .returned (.bool true) ∧ Below w.heap.size w w' := by
  rcases w0 with ⟨rfl, rfl, rfl, rfl⟩ | ⟨x, rfl, hl, hm, hzl, hcell, hwz⟩
  · exact code_nil hS0 K hn
  by_cases hc0 : cap = 0
  · subst hc0
    obtain rfl : len = 0 := by omega
    exact code_zero hS0 K hz
  unfold maxLen at hm
  refine drawn_trueX (S1 := S1) (one := one) (fd := fd) (fuel1 := fuel1) (d1 := d1) hS0 hS1 K ⟨hzl, hcell⟩ (by omega) hl (by omega) (fun z hz => wf_byte (hwz z hz)) threeIx (fun code => ⟨codeL_three code, ?_⟩) h0 (fun code => ?_) h2
  · unfold threeIx; split <;> omega
  · unfold threeIx; split
    · exact h1
    · exact h3
end Go.Eng

/- Laws on a code: runs with facts; numbers that are drawn, in groups; a number that is drawn, parted. -/
namespace Go.Eng
set_option linter.unusedSectionVars false
set_option linter.unusedSimpArgs false
set_option linter.unusedVariables false
open Go Go.RowKit

/-! ### numbers that are drawn may be variables of sums of products, from any one on -/
noncomputable section
def tabUpto (k : Nat) (tab : Tab) : Bool := List.rec (motive := fun _ => Bool) true (fun e _ ih => sel (ltb e.1 2199023255552) (sel (ltb e.2.1 (Nat.add 1000 k)) ih false) false) tab
end
theorem tabUpto_inv {k : Nat} : ∀ {tab : Tab}, tabUpto k tab = true → ∀ e ∈ tab, e.1 < 2199023255552 ∧ e.2.1 < 1000 + k
  | [], _, e, he => by cases he
  | u :: tab, h, e, he => by
    have eq : tabUpto k (u :: tab) = sel (ltb u.1 2199023255552) (sel (ltb u.2.1 (Nat.add 1000 k)) (tabUpto k tab) false) false := rfl
    rw [eq] at h
    obtain ⟨h1, h⟩ := sel_and h
    obtain ⟨h2, h⟩ := sel_and h
    rcases List.mem_cons.1 he with rfl | he
    · exact ⟨(ltb_iff _ _).1 h1, (ltb_iff _ _).1 h2⟩
    · exact tabUpto_inv h e he
@[reducible] noncomputable def ptsEnvK (E : Env) (k : Nat) (js : List Nat) : Env where
  int := fun i => if 2199023255552 + k ≤ i ∧ i < 2199023255552 + k + js.length then E.int (js.getD (i - (2199023255552 + k)) 0) else E.int i
  lst := E.lst
  wf := fun i => by
    split
    · exact E.wf _
    · exact E.wf _
  len := fun j hj => by
    have e : lenIx j = 1099511627776 + j := rfl
    rw [if_neg (by rw [e]; omega)]
    exact E.len j hj
  byThree := E.byThree
  notThree := E.notThree
  txt := E.txt
  txtNe := E.txtNe
theorem ptsEnvK_low (E : Env) (k : Nat) (js : List Nat) {i : Nat} (hi : i < 2199023255552 + k) : (ptsEnvK E k js).int i = E.int i := by
  show (if 2199023255552 + k ≤ i ∧ i < 2199023255552 + k + js.length then E.int (js.getD (i - (2199023255552 + k)) 0) else E.int i) = _
  rw [if_neg (by omega)]
theorem ptsEnvK_var (E : Env) (k : Nat) (js : List Nat) {i : Nat} (hi : i < js.length) : (ptsEnvK E k js).int (pvIx (k + i)) = E.int (js.getD i 0) := by
  have e3 : pvIx (k + i) = 2199023255552 + (k + i) := rfl
  show (if 2199023255552 + k ≤ pvIx (k + i) ∧ pvIx (k + i) < 2199023255552 + k + js.length then E.int (js.getD (pvIx (k + i) - (2199023255552 + k)) 0) else E.int (pvIx (k + i))) = _
  rw [e3, if_pos (by omega), show 2199023255552 + (k + i) - (2199023255552 + k) = i from by omega]
/-- ██ Numbers that are drawn may be variables of sums of products. -/
theorem CoversG.ptsK {G : OR → Prop} {run : Tab → OR} {tab : Tab} (k : Nat) (js : List Nat) (hjs : jsOk js = true) (hp : tabUpto k tab = true) (h : CoversG G run (addPts js k tab)) : CoversG G run tab := by
  intro E code j0 hE hne hT Q hrun
  have hok := jsOk_inv hjs
  have hpl := tabUpto_inv hp
  have hE' : @DrawE (ptsEnvK E k js) code j0 := @DrawE.mk (ptsEnvK E k js) code j0 hE.l0 hE.l1 hE.byte (fun p n hp h1 h2 => (ptsEnvK_low E k js (by omega)).trans (hE.int p n hp h1 h2)) (fun p hp => (ptsEnvK_low E k js (by omega)).trans (hE.num0 p hp)) (fun p hp => (ptsEnvK_low E k js (by omega)).trans (hE.num1 p hp)) (fun _ _ h => by cases h)
  have key : ∀ (l pre : List Nat), js = pre ++ l → @TabOk (ptsEnvK E k js) (addPts l (k + pre.length) tab) := by
    intro l
    induction l with
    | nil =>
      intro pre _ e he
      have he : e ∈ tab := he
      obtain ⟨h1, h2⟩ := hpl e he
      rcases hT e he with h3 | ⟨h3, h4, h5⟩
      · left
        rw [ptsEnvK_low E k js (by omega)]
        exact h3
      · right
        have e3 : pvIx (e.2.1 - 1000) = 2199023255552 + (e.2.1 - 1000) := rfl
        rw [ptsEnvK_low E k js (show e.1 < _ by omega), ptsEnvK_low E k js (show pvIx (e.2.1 - 1000) < _ by rw [e3]; omega)]
        exact ⟨h3, h4, h5⟩
    | cons j l ih =>
      intro pre hjsl e he
      have he : e ∈ (j, Nat.add 1000 (k + pre.length), Nat.pred (Nat.mod j 4096)) :: addPts l (Nat.succ (k + pre.length)) tab := he
      rcases List.mem_cons.1 he with rfl | he
      · right
        have hj := hok j (by rw [hjsl]; simp)
        obtain ⟨o1, o2, o3⟩ := okIx_inv hj
        have e1 : Nat.add 1000 (k + pre.length) = 1000 + (k + pre.length) := rfl
        have e2 : Nat.pred (Nat.mod j 4096) = j % 4096 - 1 := rfl
        have hjl : j < 2199023255552 := by omega
        have hi := hE.int (j / 4096) (j % 4096) o1 o2 o3
        have hr := pickv_range (c := code.take 2000) (fun x hx => hE.byte x (List.mem_of_mem_take hx)) (by simp; omega) o1 o2 o3
        rw [show j / 4096 * 4096 + j % 4096 = j from by omega] at hi
        rw [← hi] at hr
        simp only [e1, e2]
        have hlen : pre.length < js.length := by rw [hjsl]; simp
        refine ⟨by omega, ?_, by rw [ptsEnvK_low E k js (by omega)]; omega, by rw [ptsEnvK_low E k js (by omega)]; omega, by omega⟩
        rw [ptsEnvK_low E k js (i := j) (by omega), show 1000 + (k + pre.length) - 1000 = k + pre.length from by omega, ptsEnvK_var E k js hlen]
        have : js.getD pre.length 0 = j := by rw [hjsl]; simp [List.getD_eq_getElem?_getD]
        rw [this]
      · exact ih (pre ++ [j]) (by rw [hjsl]; simp) e (by rw [show k + (pre ++ [j]).length = Nat.succ (k + pre.length) from by simp; omega]; exact he)
  exact h (ptsEnvK E k js) code j0 hE' hne (key js [] rfl) Q (fun E'' hl hd tab' ht hr => hrun E'' (hl.trans rfl) hd tab' ht hr)
/-- nought, one and the others -/
theorem CoversG.three {G : OR → Prop} {run : Tab → OR} {tab : Tab} (j : Nat) (hj : okIx j = true) (h0 : CoversG G run ((j, 0, 0) :: tab)) (h1 : CoversG G run ((j, 1, 1) :: tab)) (h2 : CoversG G run ((j, 2, j % 4096 - 1) :: tab)) : CoversG G run tab := by
  intro E code j0 hE hne hT Q hrun
  obtain ⟨hp, hn1, hn2⟩ := okIx_inv hj
  have hi := hE.int (j / 4096) (j % 4096) hp hn1 hn2
  have hr := pickv_range (c := code.take 2000) (fun x hx => hE.byte x (List.mem_of_mem_take hx)) (by simp; omega) hp hn1 hn2
  rw [show j / 4096 * 4096 + j % 4096 = j from by omega] at hi
  rw [← hi] at hr
  have put : ∀ lo hi : Nat, (lo : Int) ≤ E.int j → E.int j ≤ hi → hi < 1000 → TabOk ((j, lo, hi) :: tab) := fun lo hi a b c e he => by
    rcases List.mem_cons.1 he with rfl | he
    · exact .inl ⟨a, b, c⟩
    · exact hT e he
  by_cases hv : E.int j = 0
  · exact h0 E code j0 hE hne (put 0 0 (by omega) (by omega) (by omega)) Q hrun
  · by_cases hv1 : E.int j = 1
    · exact h1 E code j0 hE hne (put 1 1 (by omega) (by omega) (by omega)) Q hrun
    · exact h2 E code j0 hE hne (put 2 _ (by omega) (by omega) (by omega)) Q hrun
/-- nought and the others -/
theorem CoversG.two {G : OR → Prop} {run : Tab → OR} {tab : Tab} (j : Nat) (hj : okIx j = true) (h0 : CoversG G run ((j, 0, 0) :: tab)) (h1 : CoversG G run ((j, 1, j % 4096 - 1) :: tab)) : CoversG G run tab := by
  intro E code j0 hE hne hT Q hrun
  obtain ⟨hp, hn1, hn2⟩ := okIx_inv hj
  have hi := hE.int (j / 4096) (j % 4096) hp hn1 hn2
  have hr := pickv_range (c := code.take 2000) (fun x hx => hE.byte x (List.mem_of_mem_take hx)) (by simp; omega) hp hn1 hn2
  rw [show j / 4096 * 4096 + j % 4096 = j from by omega] at hi
  rw [← hi] at hr
  have put : ∀ lo hi : Nat, (lo : Int) ≤ E.int j → E.int j ≤ hi → hi < 1000 → TabOk ((j, lo, hi) :: tab) := fun lo hi a b c e he => by
    rcases List.mem_cons.1 he with rfl | he
    · exact .inl ⟨a, b, c⟩
    · exact hT e he
  by_cases hv : E.int j = 0
  · exact h0 E code j0 hE hne (put 0 0 (by omega) (by omega) (by omega)) Q hrun
  · exact h1 E code j0 hE hne (put 1 _ (by omega) (by omega) (by omega)) Q hrun

/-! ### runs with facts -/
noncomputable section
def drewRunF (P : Program) (S0 : Sums) (fd : Nat) (one : Bool) (j0 : Nat) (l : List DI) (fuel d f : Nat) (fs : List FE) : Bool :=
  sel (ltb fs.length 15) (isTrue (funE P (callN P (orS (drewS fd one l j0) S0) fuel d) fuel f [wO fs.length j0 1 1048576] (hset (feH fs 0 .nil) fs.length (.opq j0 1)) (Nat.succ fs.length))) false
/-- the word of a number, biased by 2^39 -/
def litK (c : Nat) : Nat := sel (ltb c 549755813888) (wI (Nat.sub (Nat.add 18446744073709551616 c) 549755813888)) (wI (Nat.sub c 549755813888))
end
theorem litK_holds (E : Env) {c : Nat} (hc : c < 1099511627776) : HoldsT E (litK c) (.int .i64 ((c : Int) - 549755813888)) := by
  have a1 : Nat.add 18446744073709551616 c = 18446744073709551616 + c := rfl
  have a2 : ∀ a b, Nat.sub a b = a - b := fun _ _ => rfl
  have key : ∃ p, p < 18446744073709551616 ∧ litK c = wI p ∧ sInt p = (c : Int) - 549755813888 := by
    unfold litK
    rw [sel_ltb]
    split
    · refine ⟨_, ?_, rfl, ?_⟩
      · rw [a1, a2]; omega
      · rw [a1, a2]; unfold sInt; rw [if_neg (by omega)]; omega
    · refine ⟨_, ?_, rfl, ?_⟩
      · rw [a2]; omega
      · rw [a2]; unfold sInt; rw [if_pos (by omega)]; omega
  obtain ⟨p, hp, e, hs⟩ := key
  rw [e, ← hs]
  refine ⟨.int p hp, ?_⟩
  rw [storable_iff, tag_wI]
  refine ⟨by decide, by decide, by decide, ?_⟩
  show 16 * p + 1 < _
  omega
noncomputable section
/-- a word told by another one -/
def subW (t0 t1 t : Nat) : Nat := sel (Nat.beq t t0) t1 t
def subR (t0 t1 : Nat) (ts : List Nat) : List Nat := List.rec (motive := fun _ => List Nat) [] (fun t _ ih => subW t0 t1 t :: ih) ts
def subL (t0 t1 : Nat) (l : List DI) : List DI := List.rec (motive := fun _ => List DI) [] (fun x _ ih => DI.rec (motive := fun _ => List DI) (fun t => .cell (subW t0 t1 t) :: ih) (fun ts => .row (subR t0 t1 ts) :: ih) (.emp :: ih) (fun w d ts => .sum (subW t0 t1 w) (subW t0 t1 d) (subR t0 t1 ts) :: ih) x) l
/-- a variable between bounds, or the number that it is -/
def pieceW (i : Nat) (q : Nat × Nat) : Nat := sel (Nat.beq q.1 q.2) (litK q.1) (wV (pvIx i) q.1 q.2)
/-- do the pieces cover all from lo to hi? -/
def covB (hi : Nat) (ps : List (Nat × Nat)) : Nat → Bool := List.rec (motive := fun _ => Nat → Bool) (fun lo => ltb hi lo) (fun q _ ih lo => sel (sel (Nat.ble q.1 lo) (sel (ltb 0 q.1) (ltb q.2 1099511627775) false) false) (ih (Nat.succ q.2)) false) ps
end
theorem covB_of {hi : Nat} : ∀ {ps : List (Nat × Nat)} {lo : Nat}, covB hi ps lo = true → ∀ c, lo ≤ c → c ≤ hi → ∃ q ∈ ps, q.1 ≤ c ∧ c ≤ q.2 ∧ 0 < q.1 ∧ q.2 < 1099511627775
  | [], lo, h, c, h1, h2 => by
    have h : ltb hi lo = true := h
    have := (ltb_iff _ _).1 h
    omega
  | q :: ps, lo, h, c, h1, h2 => by
    have h : sel (sel (Nat.ble q.1 lo) (sel (ltb 0 q.1) (ltb q.2 1099511627775) false) false) (covB hi ps (Nat.succ q.2)) false = true := h
    obtain ⟨g1, g2⟩ := sel_and h
    obtain ⟨g3, g4⟩ := sel_and g1
    obtain ⟨g4, g5⟩ := sel_and g4
    have g3 := Nat.le_of_ble_eq_true g3
    have g4 := (ltb_iff _ _).1 g4
    have g5 := (ltb_iff _ _).1 g5
    by_cases hc : c ≤ q.2
    · exact ⟨q, List.mem_cons_self, by omega, hc, g4, g5⟩
    · obtain ⟨q', hq, hr⟩ := covB_of g2 c (by show Nat.succ q.2 ≤ c; omega) h2
      exact ⟨q', List.mem_cons_of_mem _ hq, hr⟩
theorem subW_holds {E : Env} {t0 t1 t : Nat} (hv : ∀ v, HoldsT E t0 v → HoldsT E t1 v) {v : Value} (h : HoldsT E t v) : HoldsT E (subW t0 t1 t) v := by
  unfold subW
  rw [sel_beq]
  split
  · rename_i e; subst e; exact hv v h
  · exact h
theorem subR_len (t0 t1 : Nat) : ∀ ts : List Nat, (subR t0 t1 ts).length = ts.length
  | [] => rfl
  | t :: ts => by show (subR t0 t1 ts).length + 1 = _; rw [subR_len t0 t1 ts]; rfl
theorem subR_get (t0 t1 : Nat) : ∀ (ts : List Nat) (i : Nat), i < ts.length → (subR t0 t1 ts).getD i 0 = subW t0 t1 (ts.getD i 0)
  | [], i, h => by cases h
  | t :: ts, 0, _ => rfl
  | t :: ts, i + 1, h => by
    show (subR t0 t1 ts).getD i 0 = _
    rw [subR_get t0 t1 ts i (by simpa using h)]
    rfl
theorem DRow.sub {E : Env} {s : Nat} {W : World} {rb d cp t0 t1 : Nat} {ts : List Nat} (hv : ∀ v, HoldsT E t0 v → HoldsT E t1 v) (h : DRow E s W rb d cp ts) : DRow E s W rb d cp (subR t0 t1 ts) := by
  obtain ⟨h1, h2, h3, cs, ty, h4, h5, h6⟩ := h
  refine ⟨h1, by rw [subR_len]; exact h2, h3, cs, ty, h4, h5, fun i hi => ?_⟩
  rw [subR_len] at hi
  obtain ⟨u, a, b⟩ := h6 i hi
  rw [subR_get t0 t1 ts i hi]
  exact ⟨u, a, subW_holds hv b⟩
theorem NewItems.sub {E : Env} {s : Nat} {W : World} {t0 t1 : Nat} (hv : ∀ v, HoldsT E t0 v → HoldsT E t1 v) {l : List DI} {vs : List Value} {bs : List Nat} (h : NewItems E s W l vs bs) : NewItems E s W (subL t0 t1 l) vs bs := by
  induction h with
  | nil => exact .nil
  | cell t v l vs bs h1 _ ih => exact .cell _ _ _ _ _ (subW_holds hv h1) ih
  | emp a l vs bs _ ih => exact .emp _ _ _ _ ih
  | row ts rb d cp l vs bs h1 h2 h3 _ ih =>
    have := NewItems.row (E := E) (s := s) (W := W) (subR t0 t1 ts) rb d cp _ _ _ (by rw [subR_len]; exact h1) (h2.sub hv) h3 ih
    rw [subR_len] at this
    exact this
  | sum t1' t2' v1 v2 ts rb d cp l vs bs h1 h2 h3 h4 h5 _ ih =>
    have := NewItems.sum (E := E) (s := s) (W := W) (subW t0 t1 t1') (subW t0 t1 t2') v1 v2 (subR t0 t1 ts) rb d cp _ _ _ (subW_holds hv h1) (subW_holds hv h2) (by rw [subR_len]; exact h3) (h4.sub hv) h5 ih
    rw [subR_len] at this
    exact this
/-- What a variable is lies in one of the pieces. -/
theorem DrawnK.part {E : Env} {P : Program} {fd j0 : Nat} {one : Bool} {l : List DI} {i lo hi : Nat} {ps : List (Nat × Nat)} (hi40 : i < 40) (hb : lo < 1099511627776 ∧ hi < 1099511627776 ∧ 0 < lo ∧ 0 < hi ∧ lo ≤ hi) (hc : covB hi ps lo = true) (K : DrawnK E P fd one l j0) :
    ∃ q ∈ ps, DrawnK E P fd one (subL (wV (pvIx i) lo hi) (pieceW i q) l) j0 := by
  obtain ⟨b1, b2, b3, b4, b5⟩ := hb
  have hold : ∀ v, HoldsT E (wV (pvIx i) lo hi) v → v = .int .i64 (E.int (pvIx i)) ∧ (lo : Int) - 549755813888 ≤ E.int (pvIx i) ∧ E.int (pvIx i) ≤ (hi : Int) - 549755813888 := by
    intro v hv
    obtain ⟨j, l', h', q1, q2, q3, q4, e1, e2⟩ := hv.1.var_inv (tag_wV _ _ _)
    obtain ⟨x1, x2, x3⟩ := v_parts (pvIx i) lo hi b1 b2
    obtain ⟨y1, y2, y3⟩ := v_parts j l' h' q1 q2
    rw [e1] at x1 x2 x3
    have z1 : h' = hi := y1.symm.trans x1
    have z2 : l' = lo := y2.symm.trans x2
    have z3 : j = pvIx i := y3.symm.trans x3
    rw [z1] at q4
    rw [z2] at q3
    rw [z3] at q3 q4 e2
    exact ⟨e2, by rcases q3 with q | q <;> omega, by rcases q4 with q | q <;> omega⟩
  have fin : ∀ q ∈ ps, (∀ v, HoldsT E (wV (pvIx i) lo hi) v → HoldsT E (pieceW i q) v) → DrawnK E P fd one (subL (wV (pvIx i) lo hi) (pieceW i q) l) j0 := by
    intro q hq hv
    refine ⟨K.known, ?_⟩
    intro w rb d sz c cs ty fz a1 a2 a3 a4 a5 a6 a7 a8
    refine (K.calls w rb d sz c cs ty fz a1 a2 a3 a4 a5 a6 a7 a8).mono ?_
    rintro e w' ⟨x, vs, bs, he, hn, ho, h0, hb⟩
    exact ⟨x, vs, bs, he, hn.sub hv, ho, h0, hb⟩
  by_cases hin : (lo : Int) - 549755813888 ≤ E.int (pvIx i) ∧ E.int (pvIx i) ≤ (hi : Int) - 549755813888
  · obtain ⟨q, hq, q1, q2, q3, q4⟩ := covB_of hc (E.int (pvIx i) + 549755813888).toNat (by omega) (by omega)
    refine ⟨q, hq, fin q hq fun v hv => ?_⟩
    obtain ⟨rfl, _, _⟩ := hold v hv
    unfold pieceW
    rw [sel_beq]
    split
    · rename_i e
      have := litK_holds E (c := q.1) (by omega)
      rw [show ((q.1 : Nat) : Int) - 549755813888 = E.int (pvIx i) from by omega] at this
      exact this
    · refine ⟨.var _ _ _ (by omega) (by omega) (.inr (by omega)) (.inr (by omega)), ?_⟩
      rw [storable_iff, tag_wV]
      refine ⟨by decide, by decide, by decide, ?_⟩
      show 16 * (1099511627776 * (1099511627776 * (2199023255552 + i) + q.1) + q.2) + 12 < _
      omega
  · obtain ⟨q, hq, _⟩ := covB_of hc lo (Nat.le_refl _) b5
    exact ⟨q, hq, fin q hq fun v hv => absurd (hold v hv).2 hin⟩
/-- The law's runs on something that is drawn are well: on itself, or on each of its parts. -/
inductive GoodL (P : Program) (S0 : Sums) (fd : Nat) (one : Bool) (j0 fuel d f : Nat) : List DI → Prop
  | run {l : List DI} (h : FtOk (drewRunF P S0 fd one j0 l fuel d f)) : GoodL P S0 fd one j0 fuel d f l
  | part {l : List DI} (i lo hi : Nat) (ps : List (Nat × Nat)) (hi40 : i < 40) (hb : lo < 1099511627776 ∧ hi < 1099511627776 ∧ 0 < lo ∧ 0 < hi ∧ lo ≤ hi) (hc : covB hi ps lo = true) (h : ∀ q ∈ ps, GoodL P S0 fd one j0 fuel d f (subL (wV (pvIx i) lo hi) (pieceW i q) l)) : GoodL P S0 fd one j0 fuel d f l
theorem GoodL.fin {E : Env} {P : Program} {S0 : Sums} {fd j0 fuel d f : Nat} {one : Bool} {l : List DI} (h : GoodL P S0 fd one j0 fuel d f l) (K : DrawnK E P fd one l j0) : ∃ l', FtOk (drewRunF P S0 fd one j0 l' fuel d f) ∧ DrawnK E P fd one l' j0 := by
  induction h with
  | run h => exact ⟨_, h, K⟩
  | part i lo hi ps h1 h2 h3 _ ih =>
    obtain ⟨q, hq, K'⟩ := K.part h1 h2 h3
    exact ih q hq K'
def DrawnF (P : Program) (S0 : Sums) (fd : Nat) (one : Bool) (j0 : Nat) (fuel d f : Nat) (r : OR) : Prop := ∃ l, GoodL P S0 fd one j0 fuel d f l ∧ isDrew one l r = true
theorem CoversG.drewF {P : Program} {S0 : Sums} {fd : Nat} {one : Bool} {j0 fuel d f : Nat} {ls : List (List DI)} {run : Tab → OR} {tab : Tab} (h : CoversP (anyDrew one ls) run tab) (hl : AllI (GoodL P S0 fd one j0 fuel d f) ls) : CoversG (DrawnF P S0 fd one j0 fuel d f) run tab :=
  .of h fun r hr => by
    obtain ⟨l, hm, h1⟩ := anyDrew_inv hr
    exact ⟨l, hl.mem l hm, h1⟩
theorem put_code [E : Env] {H : Trie} {n j0 rb d cap len : Nat} {ρ : Rho} {L : Look} {w : World} {x : Addr} {zs : List Int} {cs : Array Value} {ty : TypeId} {fz : Nat × Nat} (c0 : Ctx w.heap.size H n ρ L w) (hn : n < 16000) (hx : x = ⟨rb, d, none⟩) (hh : w.heap[rb]? = some (.cells cs ty fz)) (hrb : rb < w.heap.size)
    (hsz : d + cap ≤ cs.size) (hall : ∀ i, i < cap → cs[d + i]? = some (.int .u8 (zs.getD i 0))) (hzl : zs.length = cap) (hl : len ≤ cap) (hc : cap < 9223372036854775808) (hel : E.lst j0 = (zs.take len).map (Value.int .u8)) (hjl : j0 < 1048576) (hlen : len ≤ 1048576) (h1 : 1 ≤ len) :
    ∃ ρ' L', Ctx w.heap.size (hset H n (.opq j0 1)) (n + 1) ρ' L' w ∧ VR ρ' L' (wO n j0 1 1048576) (.slice (some x) len cap) := by
  have hcl : (zs.take len).length = len := by simp; omega
  have he : (E.lst j0).length = len := by rw [hel, List.length_map, hcl]
  refine ⟨_, _, c0.opq (j := j0) (sz := cap) (d := d) (by omega) hh hrb hsz (by omega) (fun i hi => ?_), ?_⟩
  · rw [hall i (by omega), hel, List.getElem?_map]
    have hi2 : i < (zs.take len).length := by omega
    rw [List.getElem?_eq_getElem hi2]
    have hi3 : i < zs.length := by omega
    simp [List.getD_eq_getElem?_getD, hi3]
  · have := VR.opq (ρ := updR ρ n (rb, d, cap)) (L := upd L n (.opq j0 1)) n j0 1 1048576 rb d cap cap (updR_same _ _ _) hjl (by omega) (by omega) (by rw [he]; exact h1) (by rw [he]; omega) (by rw [he]; exact hl) (by omega) (by omega)
    rw [he, ← hx] at this
    exact this
/-- ██ The walk of a law on a code, out of what is drawn and its runs with facts. -/
theorem drawn_walkF {P : Program} {S0 S1 : Sums} (hS0 : Always P S0) (hS1 : Always P S1) {fo fp tS fuel d f fd fuel1 d1 len cap : Nat} {one : Bool} (K : DrawK P fo fp tS) {w : World} {a : Option Addr} {zs : List Int}
    (w0 : (a = none ∧ len = 0 ∧ cap = 0 ∧ zs = []) ∨ ∃ x, a = some x ∧ len ≤ cap ∧ cap ≤ maxLen ∧ zs.length = cap ∧ (∀ i, i < zs.length → w.cell? (x.add i) = some (.int .u8 (zs.getD i 0))) ∧ ∀ n ∈ zs, (Lit.int .u8 n).wf = true)
    (hn : isTrue (nilRun P S0 fo fp fuel d f) = true) (hz : isTrue (zeroRun P S0 fo fp fuel d f) = true) (h0 : isTrue (emptyRun P S0 fo fp fuel d f) = true) (h2 : isTrue (longRun P S0 fo fp fuel d f) = true)
    (h1 : CoversG (DrawnF P S0 fd one 0 fuel d f) (dRun P S1 fo fp fuel1 d1 fd 0) []) :
    Calls P f #[.slice a len cap] w fun e w' => e = .returned (.bool true) ∧ Below w.heap.size w w' := by
  rcases w0 with ⟨rfl, rfl, rfl, rfl⟩ | ⟨x, rfl, hl, hm, hzl, hcell, hwz⟩
  · exact code_nil hS0 K hn
  by_cases hc0 : cap = 0
  · subst hc0
    obtain rfl : len = 0 := by omega
    exact code_zero hS0 K hz
  unfold maxLen at hm
  have hrow : RowOf .u8 w x cap zs := ⟨hzl, hcell⟩
  have hb : ∀ z ∈ zs, 0 ≤ z ∧ z ≤ 255 := fun z hz => wf_byte (hwz z hz)
  obtain ⟨hsp, cs, ty, fz, hh, hsz, hall⟩ := hrow.block (by omega)
  have hx : x = ⟨x.block, x.off, none⟩ := by
    cases x with
    | mk b o s => simp at hsp ⊢; exact hsp
  have hrb : x.block < w.heap.size := (Array.getElem?_eq_some_iff.1 hh).1
  by_cases hl0 : len = 0
  · subst hl0
    letI : Env := anyEnv
    have c := (Ctx.start w).arg (nb := 0) (ch := 0) (sz := cap) (d := x.off) (by omega) hh hrb hsz (by omega) (by intro i hi; omega)
    refine run_true (orS_sound (draw_any K) (hS0 _)) c (.cons _ _ _ _ ?_ .nil) h0
    exact .slice 0 1 0 0 0 x.block x.off cap cap x (updR_same _ _ _) (by omega) (by omega) (by omega) (by omega) (by omega) (by omega) (.inl rfl) (.inr ⟨hx, by omega⟩)
  · have hcl : (zs.take len).length = len := by simp; omega
    have hcb : ∀ z ∈ zs.take len, 0 ≤ z ∧ z ≤ 255 := fun z hz => hb z (List.mem_of_mem_take hz)
    by_cases hlong : 1048576 < len
    · letI E : Env := codeEnv (zs.take len) (by omega)
      have hE : DrawE (zs.take len) 0 := codeEnv_ok (by omega) hcb (by omega) rfl
      have he : (E.lst 0).length = len := by rw [hE.l0, List.length_map, hcl]
      have c := (Ctx.start w).opq (j := 0) (sz := cap) (d := x.off) (by omega) hh hrb hsz (by omega) (fun i hi => by
        rw [hall i (by omega), hE.l0, List.getElem?_map]
        have hi2 : i < (zs.take len).length := by omega
        rw [List.getElem?_eq_getElem hi2]
        have hi3 : i < zs.length := by omega
        simp [List.getD_eq_getElem?_getD, hi3])
      refine run_true (orS_sound (drawS_sound K hE tabOk_nil) (hS0 _)) c (.cons _ _ _ _ ?_ .nil) h2
      have := VR.opq (ρ := updR (fun _ => none) 0 (x.block, x.off, cap)) (L := upd (fun _ => none) 0 (.opq 0 1)) 0 0 1048577 0 x.block x.off cap cap (updR_same _ _ _) (by omega) (by omega) (by omega) (by rw [he]; omega) (.inl rfl) (by rw [he]; exact hl) (by omega) (by omega)
      rw [he, ← hx] at this
      exact this
    · have hE : @DrawE (codeEnv (zs.take len) (by omega)) (zs.take len) 0 := codeEnv_ok (by omega) hcb (by omega) rfl
      refine h1 (codeEnv (zs.take len) (by omega)) (zs.take len) _ hE (by omega) (@tabOk_nil (codeEnv (zs.take len) (by omega))) _ fun E' hl' hE' tab hT ⟨l, hg, hd⟩ => ?_
      obtain ⟨y, hy, KD⟩ := drawn_of (hS1 E') K (by omega) hE' hT hd
      obtain ⟨l', ⟨t, ht⟩, KD'⟩ := hg.fin KD
      letI E2 : Env := pvEnv E' y hy
      obtain ⟨fs, hfs, hrun⟩ := FT.sound E2 t [] ht (fun f h => by cases h)
      obtain ⟨hlen, hrun⟩ := sel_and hrun
      have hlen := (ltb_iff _ _).1 hlen
      obtain ⟨L0, c0, _⟩ := put_fe fs 0 .nil _ _ w.heap.size w (Ctx.start w) (by omega) hfs
      rw [Nat.zero_add] at c0
      obtain ⟨ρ, L, c1, hv⟩ := put_code (j0 := 0) c0 (by omega) hx hh hrb hsz hall hzl hl (by omega) (@DrawE.l0 E' _ _ hE') (by omega) (by omega) (by omega)
      exact run_true (orS_sound (drewS_sound KD') (hS0 _)) c1 (.cons _ _ _ _ hv .nil) hrun
end Go.Eng
