/- Part of the evaluator: Xc Xd Xe. -/
import Derived.Test.YtnglbchhlpbgkaaSEngX
import Derived.Test.YtnglbchhlpbgkaaSEngXp

/- Laws on a code: trees of cases told beforehand. -/
namespace Go.Eng
set_option linter.unusedSectionVars false
set_option linter.unusedSimpArgs false
set_option linter.unusedVariables false
open Go Go.RowKit

/-- parts of a range: nought, one (if told), and all others -/
theorem Covers.two {run : Tab → OR} {tab : Tab} (j : Nat) (hj : okIx j = true) (h0 : Covers run ((j, 0, 0) :: tab)) (h1 : Covers run ((j, 1, j % 4096 - 1) :: tab)) : Covers run tab := by
  intro E code j0 hE hne hT Q hrun
  unfold okIx at hj
  rw [sel_ltb, sel_ble] at hj
  split at hj
  · rename_i hp
    split at hj
    · rename_i hn1
      have hn2 := Nat.le_of_ble_eq_true hj
      have d1 : Nat.div j 4096 = j / 4096 := rfl
      have d2 : Nat.mod j 4096 = j % 4096 := rfl
      rw [d1] at hp
      rw [d2] at hn1 hn2
      have hi := hE.int (j / 4096) (j % 4096) hp hn1 hn2
      have hr := pickv_range (c := code.take 2000) (fun x hx => hE.byte x (List.mem_of_mem_take hx)) (by simp; omega) hp hn1 hn2
      rw [show j / 4096 * 4096 + j % 4096 = j from by omega] at hi
      rw [← hi] at hr
      by_cases hv : E.int j = 0
      · refine h0 E code j0 hE hne ?_ Q hrun
        intro e he
        rcases List.mem_cons.1 he with rfl | he
        · exact .inl ⟨by show (((0 : Nat) : Int)) ≤ E.int j; omega, by show E.int j ≤ (((0 : Nat)) : Int); omega, by show (0 : Nat) < 1000; omega⟩
        · exact hT e he
      · refine h1 E code j0 hE hne ?_ Q hrun
        intro e he
        rcases List.mem_cons.1 he with rfl | he
        · exact .inl ⟨by show (((1 : Nat) : Int)) ≤ E.int j; omega, by show E.int j ≤ (((j % 4096 - 1 : Nat)) : Int); omega, by show j % 4096 - 1 < 1000; omega⟩
        · exact hT e he
    · cases hj
  · cases hj
theorem Covers.three {run : Tab → OR} {tab : Tab} (j : Nat) (hj : okIx j = true) (h0 : Covers run ((j, 0, 0) :: tab)) (h1 : Covers run ((j, 1, 1) :: tab)) (h2 : Covers run ((j, 2, j % 4096 - 1) :: tab)) : Covers run tab := by
  intro E code j0 hE hne hT Q hrun
  unfold okIx at hj
  rw [sel_ltb, sel_ble] at hj
  split at hj
  · rename_i hp
    split at hj
    · rename_i hn1
      have hn2 := Nat.le_of_ble_eq_true hj
      have d1 : Nat.div j 4096 = j / 4096 := rfl
      have d2 : Nat.mod j 4096 = j % 4096 := rfl
      rw [d1] at hp
      rw [d2] at hn1 hn2
      have hi := hE.int (j / 4096) (j % 4096) hp hn1 hn2
      have hr := pickv_range (c := code.take 2000) (fun x hx => hE.byte x (List.mem_of_mem_take hx)) (by simp; omega) hp hn1 hn2
      rw [show j / 4096 * 4096 + j % 4096 = j from by omega] at hi
      rw [← hi] at hr
      by_cases hv : E.int j = 0
      · refine h0 E code j0 hE hne ?_ Q hrun
        intro e he
        rcases List.mem_cons.1 he with rfl | he
        · exact .inl ⟨by show (((0 : Nat) : Int)) ≤ E.int j; omega, by show E.int j ≤ (((0 : Nat)) : Int); omega, by show (0 : Nat) < 1000; omega⟩
        · exact hT e he
      · by_cases hv1 : E.int j = 1
        · refine h1 E code j0 hE hne ?_ Q hrun
          intro e he
          rcases List.mem_cons.1 he with rfl | he
          · exact .inl ⟨by show (((1 : Nat) : Int)) ≤ E.int j; omega, by show E.int j ≤ (((1 : Nat)) : Int); omega, by show (1 : Nat) < 1000; omega⟩
          · exact hT e he
        · refine h2 E code j0 hE hne ?_ Q hrun
          intro e he
          rcases List.mem_cons.1 he with rfl | he
          · exact .inl ⟨by show (((2 : Nat) : Int)) ≤ E.int j; omega, by show E.int j ≤ (((j % 4096 - 1 : Nat)) : Int); omega, by show j % 4096 - 1 < 1000; omega⟩
          · exact hT e he
    · cases hj
  · cases hj

/-! ### numbers that are variables of sums of products -/
noncomputable section
def addPts (js : List Nat) : Nat → Tab → Tab := List.rec (motive := fun _ => Nat → Tab → Tab) (fun _ tab => tab) (fun j _ ih i tab => (j, Nat.add 1000 i, Nat.pred (Nat.mod j 4096)) :: ih (Nat.succ i) tab) js
def tabPlain (tab : Tab) : Bool := List.rec (motive := fun _ => Bool) true (fun e _ ih => sel (ltb e.1 2199023255552) (sel (ltb e.2.1 1000) ih false) false) tab
def jsOk (js : List Nat) : Bool := List.rec (motive := fun _ => Bool) true (fun j _ ih => sel (okIx j) ih false) js
end
theorem okIx_inv {j : Nat} (h : okIx j = true) : j / 4096 < 1000000 ∧ 1 ≤ j % 4096 ∧ j % 4096 ≤ 1000 := by
  unfold okIx at h
  rw [sel_ltb, sel_ble] at h
  split at h
  · rename_i hp
    split at h
    · rename_i hn1
      exact ⟨hp, hn1, Nat.le_of_ble_eq_true h⟩
    · cases h
  · cases h
theorem tabPlain_inv : ∀ {tab : Tab}, tabPlain tab = true → ∀ e ∈ tab, e.1 < 2199023255552 ∧ e.2.1 < 1000
  | [], _, e, he => by cases he
  | u :: tab, h, e, he => by
    have eq : tabPlain (u :: tab) = sel (ltb u.1 2199023255552) (sel (ltb u.2.1 1000) (tabPlain tab) false) false := rfl
    rw [eq, sel_ltb] at h
    split at h
    · rename_i h1
      rw [sel_ltb] at h
      split at h
      · rename_i h2
        rcases List.mem_cons.1 he with rfl | he
        · exact ⟨h1, h2⟩
        · exact tabPlain_inv h e he
      · cases h
    · cases h
theorem jsOk_inv : ∀ {js : List Nat}, jsOk js = true → ∀ j ∈ js, okIx j = true
  | [], _, j, hj => by cases hj
  | u :: js, h, j, hj => by
    have eq : jsOk (u :: js) = sel (okIx u) (jsOk js) false := rfl
    rw [eq, sel_eq] at h
    split at h
    · rename_i h1
      rcases List.mem_cons.1 hj with rfl | hj
      · exact h1
      · exact jsOk_inv h j hj
    · cases h
@[reducible] noncomputable def ptsEnv (E : Env) (js : List Nat) : Env where
  int := fun k => if 2199023255560 ≤ k ∧ k < 2199023255560 + js.length then E.int (js.getD (k - 2199023255560) 0) else E.int k
  lst := E.lst
  wf := fun k => by
    split
    · exact E.wf _
    · exact E.wf _
  len := fun j hj => by
    have e : lenIx j = 1099511627776 + j := rfl
    rw [if_neg (by rw [e]; omega)]
    exact E.len j hj
  byThree := E.byThree
  notThree := E.notThree
  txt := E.txt
  txtNe := E.txtNe
theorem ptsEnv_low (E : Env) (js : List Nat) {k : Nat} (hk : k < 2199023255552) : (ptsEnv E js).int k = E.int k := by
  show (if 2199023255560 ≤ k ∧ k < 2199023255560 + js.length then E.int (js.getD (k - 2199023255560) 0) else E.int k) = _
  rw [if_neg (by omega)]
theorem ptsEnv_var (E : Env) (js : List Nat) {i : Nat} (hi : i < js.length) : (ptsEnv E js).int (pvIx (8 + i)) = E.int (js.getD i 0) := by
  have e3 : pvIx (8 + i) = 2199023255552 + (8 + i) := rfl
  show (if 2199023255560 ≤ pvIx (8 + i) ∧ pvIx (8 + i) < 2199023255560 + js.length then E.int (js.getD (pvIx (8 + i) - 2199023255560) 0) else E.int (pvIx (8 + i))) = _
  rw [e3, if_pos (by omega), show 2199023255552 + (8 + i) - 2199023255560 = i from by omega]
/-- ██ Numbers that are drawn may be variables of sums of products. -/
theorem Covers.pts {run : Tab → OR} {tab : Tab} (js : List Nat) (hjs : jsOk js = true) (hp : tabPlain tab = true) (h : Covers run (addPts js 8 tab)) : Covers run tab := by
  intro E code j0 hE hne hT Q hrun
  have hok := jsOk_inv hjs
  have hpl := tabPlain_inv hp
  have hE' : @DrawE (ptsEnv E js) code j0 := @DrawE.mk (ptsEnv E js) code j0 hE.l0 hE.l1 hE.byte (fun p n hp h1 h2 => (ptsEnv_low E js (by omega)).trans (hE.int p n hp h1 h2)) (fun p hp => (ptsEnv_low E js (by omega)).trans (hE.num0 p hp)) (fun p hp => (ptsEnv_low E js (by omega)).trans (hE.num1 p hp)) (fun _ _ h => by cases h)
  have key : ∀ (l pre : List Nat), js = pre ++ l → @TabOk (ptsEnv E js) (addPts l (8 + pre.length) tab) := by
    intro l
    induction l with
    | nil =>
      intro pre _ e he
      have he : e ∈ tab := he
      obtain ⟨h1, h2⟩ := hpl e he
      rcases hT e he with h3 | ⟨h3, _⟩
      · left
        rw [ptsEnv_low E js h1]
        exact h3
      · omega
    | cons j l ih =>
      intro pre hjsl e he
      have he : e ∈ (j, Nat.add 1000 (8 + pre.length), Nat.pred (Nat.mod j 4096)) :: addPts l (Nat.succ (8 + pre.length)) tab := he
      rcases List.mem_cons.1 he with rfl | he
      · right
        have hj := hok j (by rw [hjsl]; simp)
        obtain ⟨o1, o2, o3⟩ := okIx_inv hj
        have e1 : Nat.add 1000 (8 + pre.length) = 1000 + (8 + pre.length) := rfl
        have e2 : Nat.pred (Nat.mod j 4096) = j % 4096 - 1 := rfl
        have hjl : j < 2199023255552 := by omega
        have hi := hE.int (j / 4096) (j % 4096) o1 o2 o3
        have hr := pickv_range (c := code.take 2000) (fun x hx => hE.byte x (List.mem_of_mem_take hx)) (by simp; omega) o1 o2 o3
        rw [show j / 4096 * 4096 + j % 4096 = j from by omega] at hi
        rw [← hi] at hr
        simp only [e1, e2]
        have hlen : pre.length < js.length := by rw [hjsl]; simp
        refine ⟨by omega, ?_, by rw [ptsEnv_low E js hjl]; omega, by rw [ptsEnv_low E js hjl]; omega, by omega⟩
        rw [ptsEnv_low E js hjl, show 1000 + (8 + pre.length) - 1000 = 8 + pre.length from by omega, ptsEnv_var E js hlen]
        have : js.getD pre.length 0 = j := by rw [hjsl]; simp [List.getD_eq_getElem?_getD]
        rw [this]
      · exact ih (pre ++ [j]) (by rw [hjsl]; simp) e (by rw [show 8 + (pre ++ [j]).length = Nat.succ (8 + pre.length) from by simp; omega]; exact he)
  exact h (ptsEnv E js) code j0 hE' hne (key js [] rfl) Q (fun E'' hl hd tab' ht hr => hrun E'' (hl.trans rfl) hd tab' ht hr)

/-- A tree of cases: ask on; a number one by one; nought and the others; nought, one and the others. -/
inductive QT where
  | of (k : Nat)
  | part (j : Nat) (f : Nat → QT)
  | two (j : Nat) (a b : QT)
  | three (j : Nat) (a b c : QT)
  | pts (js : List Nat) (t : QT)
noncomputable section
def allB (n : Nat) (f : Nat → Bool) : Bool := Nat.rec (motive := fun _ => Bool) true (fun k ih => sel (f k) ih false) n
def chkQ (run : Tab → OR) (t : QT) : Tab → Bool :=
  QT.rec (motive := fun _ => Tab → Bool) (fun k tab => chkT run k tab)
    (fun j _ ih tab => sel (okIx j) (allB (Nat.mod j 4096) fun v => ih v ((j, v, v) :: tab)) false)
    (fun j _ _ iha ihb tab => sel (okIx j) (sel (iha ((j, 0, 0) :: tab)) (ihb ((j, 1, Nat.pred (Nat.mod j 4096)) :: tab)) false) false)
    (fun j _ _ _ iha ihb ihc tab => sel (okIx j) (sel (iha ((j, 0, 0) :: tab)) (sel (ihb ((j, 1, 1) :: tab)) (ihc ((j, 2, Nat.pred (Nat.mod j 4096)) :: tab)) false) false) false)
    (fun js _ ih tab => sel (jsOk js) (sel (tabPlain tab) (ih (addPts js 8 tab)) false) false) t
end
theorem allB_all {f : Nat → Bool} : ∀ {n : Nat}, allB n f = true → ∀ v, v < n → f v = true
  | 0, _, v, h => by omega
  | n + 1, he, v, h => by
    have e : allB (n + 1) f = sel (f n) (allB n f) false := rfl
    rw [e, sel_eq] at he
    split at he
    · rename_i h1
      by_cases hv : v = n
      · subst hv; exact h1
      · exact allB_all he v (by omega)
    · cases he
theorem sel_and {a b : Bool} (h : sel a b false = true) : a = true ∧ b = true := by
  cases a with
  | true => exact ⟨rfl, h⟩
  | false => cases h
theorem Covers.tree {run : Tab → OR} (t : QT) : ∀ {tab : Tab}, chkQ run t tab = true → Covers run tab := by
  induction t with
  | of k => intro tab h; exact .of k h
  | part j f ih =>
    intro tab h
    have e : chkQ run (.part j f) tab = sel (okIx j) (allB (Nat.mod j 4096) fun v => chkQ run (f v) ((j, v, v) :: tab)) false := rfl
    rw [e] at h
    obtain ⟨h1, h2⟩ := sel_and h
    exact .part j h1 fun v hv => ih v (allB_all h2 v hv)
  | two j a b iha ihb =>
    intro tab h
    have e : chkQ run (.two j a b) tab = sel (okIx j) (sel (chkQ run a ((j, 0, 0) :: tab)) (chkQ run b ((j, 1, Nat.pred (Nat.mod j 4096)) :: tab)) false) false := rfl
    rw [e] at h
    obtain ⟨h1, h2⟩ := sel_and h
    obtain ⟨h2, h3⟩ := sel_and h2
    exact .two j h1 (iha h2) (ihb h3)
  | three j a b c iha ihb ihc =>
    intro tab h
    have e : chkQ run (.three j a b c) tab = sel (okIx j) (sel (chkQ run a ((j, 0, 0) :: tab)) (sel (chkQ run b ((j, 1, 1) :: tab)) (chkQ run c ((j, 2, Nat.pred (Nat.mod j 4096)) :: tab)) false) false) false := rfl
    rw [e] at h
    obtain ⟨h1, h2⟩ := sel_and h
    obtain ⟨h2, h3⟩ := sel_and h2
    obtain ⟨h3, h4⟩ := sel_and h3
    exact .three j h1 (iha h2) (ihb h3) (ihc h4)
  | pts js t ih =>
    intro tab h
    have e : chkQ run (.pts js t) tab = sel (jsOk js) (sel (tabPlain tab) (chkQ run t (addPts js 8 tab)) false) false := rfl
    rw [e] at h
    obtain ⟨h1, h2⟩ := sel_and h
    obtain ⟨h2, h3⟩ := sel_and h2
    exact .pts js h1 h2 (ih h3)
end Go.Eng

/- Laws on a code: trees of cases for whatever is asked of a run. -/
namespace Go.Eng
set_option linter.unusedSectionVars false
set_option linter.unusedSimpArgs false
set_option linter.unusedVariables false
open Go Go.RowKit
noncomputable section
/-- all answers to all questions -/
def chkP (p : OR → Bool) (run : Tab → OR) (k : Nat) : Tab → Bool :=
  Nat.rec (motive := fun _ => Tab → Bool) (fun _ => false)
    (fun _ ih tab => match run tab with
      | .ok v H n => p (.ok v H n)
      | .bad q => sel (ltb q 1099511627776) false
        (let j := Nat.pred (Nat.div q 1099511627776)
         let c := Nat.sub (Nat.mod q 1099511627776) 549755813888
         let both (lo hi : Nat) : Bool := sel (ltb lo 1000) (sel (ih ((j, lo, Nat.pred c) :: tab)) (ih ((j, c, hi) :: tab)) false) false
         sel (sel (Nat.ble 1 c) (Nat.ble c 1000) false) (tabGet tab j both (sel (okIx j) (both 0 (Nat.pred (Nat.mod j 4096))) false)) false)) k
end
theorem chkP_sound [E : Env] {p : OR → Bool} {code : List Int} {j0 : Nat} (hE : DrawE code j0) (hne : 1 ≤ code.length) {run : Tab → OR} {Q : Prop} (hrun : ∀ tab, TabOk tab → p (run tab) = true → Q) : ∀ (k : Nat) (tab : Tab), TabOk tab → chkP p run k tab = true → Q
  | 0, _, _, h => by cases h
  | k + 1, tab, hT, h => by
    have e : chkP p run (k + 1) tab = match run tab with
      | .ok v H n => p (.ok v H n)
      | .bad q => sel (ltb q 1099511627776) false
         (sel (sel (Nat.ble 1 (Nat.sub (Nat.mod q 1099511627776) 549755813888)) (Nat.ble (Nat.sub (Nat.mod q 1099511627776) 549755813888) 1000) false) (tabGet tab (Nat.pred (Nat.div q 1099511627776))
           (fun lo hi => sel (ltb lo 1000) (sel (chkP p run k ((Nat.pred (Nat.div q 1099511627776), lo, Nat.pred (Nat.sub (Nat.mod q 1099511627776) 549755813888)) :: tab)) (chkP p run k ((Nat.pred (Nat.div q 1099511627776), Nat.sub (Nat.mod q 1099511627776) 549755813888, hi) :: tab)) false) false)
           (sel (okIx (Nat.pred (Nat.div q 1099511627776))) (sel (ltb 0 1000) (sel (chkP p run k ((Nat.pred (Nat.div q 1099511627776), 0, Nat.pred (Nat.sub (Nat.mod q 1099511627776) 549755813888)) :: tab)) (chkP p run k ((Nat.pred (Nat.div q 1099511627776), Nat.sub (Nat.mod q 1099511627776) 549755813888, Nat.pred (Nat.mod (Nat.pred (Nat.div q 1099511627776)) 4096)) :: tab)) false) false) false)) false) := rfl
    rw [e] at h
    cases hr : run tab with
    | ok v H n =>
      rw [hr] at h
      exact hrun tab hT (by rw [hr]; exact h)
    | bad q =>
      rw [hr] at h
      dsimp only at h
      rw [sel_ltb] at h
      split at h
      · cases h
      · generalize Nat.pred (Nat.div q 1099511627776) = j at h
        generalize Nat.sub (Nat.mod q 1099511627776) 549755813888 = c at h
        cases hcc : sel (Nat.ble 1 c) (Nat.ble c 1000) false with
        | false => rw [hcc] at h; cases h
        | true =>
          rw [hcc, sel_true] at h
          rw [sel_ble] at hcc
          have hc2 : 1 ≤ c ∧ c ≤ 1000 := by
            split at hcc
            · exact ⟨by assumption, Nat.le_of_ble_eq_true hcc⟩
            · cases hcc
          have part : ∀ lo hi : Nat, (lo : Int) ≤ E.int j → E.int j ≤ hi → hi < 1000 → sel (ltb lo 1000) (sel (chkP p run k ((j, lo, Nat.pred c) :: tab)) (chkP p run k ((j, c, hi) :: tab)) false) false = true → Q := by
            intro lo hi h1 h2 h3 h
            rw [sel_ltb, if_pos (by omega)] at h
            have hp : Nat.pred c = c - 1 := rfl
            have hboth : chkP p run k ((j, lo, Nat.pred c) :: tab) = true ∧ chkP p run k ((j, c, hi) :: tab) = true := by
              cases hx : chkP p run k ((j, lo, Nat.pred c) :: tab) with
              | true => rw [hx] at h; exact ⟨rfl, h⟩
              | false => rw [hx] at h; cases h
            by_cases hlt : E.int j < c
            · refine chkP_sound hE hne hrun k _ ?_ hboth.1
              intro e he
              rcases List.mem_cons.1 he with rfl | he
              · exact .inl ⟨h1, by show E.int j ≤ ((Nat.pred c : Nat) : Int); rw [hp]; omega, by
                  show Nat.pred c < 1000
                  rw [hp]
                  omega⟩
              · exact hT e he
            · refine chkP_sound hE hne hrun k _ ?_ hboth.2
              intro e he
              rcases List.mem_cons.1 he with rfl | he
              · exact .inl ⟨by show (c : Int) ≤ E.int j; omega, h2, h3⟩
              · exact hT e he
          rcases tabGet_inv (j := j) tab hT with h0 | ⟨lo, hi, h0, h1⟩
          · rw [h0, sel_eq] at h
            split at h
            · rename_i hok
              unfold okIx at hok
              rw [sel_ltb, sel_ble] at hok
              split at hok
              · rename_i hp
                split at hok
                · rename_i hn1
                  have hn2 := Nat.le_of_ble_eq_true hok
                  have d1 : Nat.div j 4096 = j / 4096 := rfl
                  have d2 : Nat.mod j 4096 = j % 4096 := rfl
                  rw [d1] at hp
                  rw [d2] at hn1 hn2
                  have hi := hE.int (j / 4096) (j % 4096) hp hn1 hn2
                  have hr := pickv_range (c := code.take 2000) (fun x hx => hE.byte x (List.mem_of_mem_take hx)) (by simp; omega) hp hn1 hn2
                  rw [show j / 4096 * 4096 + j % 4096 = j from by omega] at hi
                  rw [← hi] at hr
                  have d3 : Nat.pred (Nat.mod j 4096) = j % 4096 - 1 := rfl
                  exact part 0 _ (by omega) (by rw [d3]; omega) (by rw [d3]; omega) h
                · cases hok
              · cases hok
            · cases h
          · rw [h0] at h
            rcases h1 with ⟨h1, h2, h3⟩ | ⟨h1, _⟩
            · exact part lo hi h1 h2 h3 h
            · simp only at h1
              rw [sel_ltb, if_neg (by omega)] at h
              cases h
/-- Whatever is drawn, one of the runs is it. -/
def CoversP (p : OR → Bool) (run : Tab → OR) (tab : Tab) : Prop :=
  ∀ (E : Env) (code : List Int) (j0 : Nat), @DrawE E code j0 → 1 ≤ code.length → @TabOk E tab → ∀ Q : Prop, (∀ E' : Env, E'.lst = E.lst → @DrawE E' code j0 → ∀ tab, @TabOk E' tab → p (run tab) = true → Q) → Q
theorem CoversP.of {p : OR → Bool} {run : Tab → OR} {tab : Tab} (k : Nat) (h : chkP p run k tab = true) : CoversP p run tab := fun E code j0 hE hne hT Q hrun => @chkP_sound E p code j0 hE hne run Q (hrun E rfl hE) k tab hT h
theorem CoversP.part {p : OR → Bool} {run : Tab → OR} {tab : Tab} (j : Nat) (hj : okIx j = true) (h : ∀ v, v < j % 4096 → CoversP p run ((j, v, v) :: tab)) : CoversP p run tab := by
  intro E code j0 hE hne hT Q hrun
  unfold okIx at hj
  rw [sel_ltb, sel_ble] at hj
  split at hj
  · rename_i hp
    split at hj
    · rename_i hn1
      have hn2 := Nat.le_of_ble_eq_true hj
      have d1 : Nat.div j 4096 = j / 4096 := rfl
      have d2 : Nat.mod j 4096 = j % 4096 := rfl
      rw [d1] at hp
      rw [d2] at hn1 hn2
      have hi := hE.int (j / 4096) (j % 4096) hp hn1 hn2
      have hr := pickv_range (c := code.take 2000) (fun x hx => hE.byte x (List.mem_of_mem_take hx)) (by simp; omega) hp hn1 hn2
      rw [show j / 4096 * 4096 + j % 4096 = j from by omega] at hi
      rw [← hi] at hr
      have hv : ((E.int j).toNat : Int) = E.int j := by omega
      refine h (E.int j).toNat (by omega) E code j0 hE hne ?_ Q hrun
      intro e he
      rcases List.mem_cons.1 he with rfl | he
      · exact .inl ⟨by show (((E.int j).toNat : Nat) : Int) ≤ E.int j; omega, by show E.int j ≤ (((E.int j).toNat : Nat) : Int); omega, by show (E.int j).toNat < 1000; omega⟩
      · exact hT e he
    · cases hj
  · cases hj
/-- parts of a range: nought, one (if told), and all others -/
theorem CoversP.two {p : OR → Bool} {run : Tab → OR} {tab : Tab} (j : Nat) (hj : okIx j = true) (h0 : CoversP p run ((j, 0, 0) :: tab)) (h1 : CoversP p run ((j, 1, j % 4096 - 1) :: tab)) : CoversP p run tab := by
  intro E code j0 hE hne hT Q hrun
  unfold okIx at hj
  rw [sel_ltb, sel_ble] at hj
  split at hj
  · rename_i hp
    split at hj
    · rename_i hn1
      have hn2 := Nat.le_of_ble_eq_true hj
      have d1 : Nat.div j 4096 = j / 4096 := rfl
      have d2 : Nat.mod j 4096 = j % 4096 := rfl
      rw [d1] at hp
      rw [d2] at hn1 hn2
      have hi := hE.int (j / 4096) (j % 4096) hp hn1 hn2
      have hr := pickv_range (c := code.take 2000) (fun x hx => hE.byte x (List.mem_of_mem_take hx)) (by simp; omega) hp hn1 hn2
      rw [show j / 4096 * 4096 + j % 4096 = j from by omega] at hi
      rw [← hi] at hr
      by_cases hv : E.int j = 0
      · refine h0 E code j0 hE hne ?_ Q hrun
        intro e he
        rcases List.mem_cons.1 he with rfl | he
        · exact .inl ⟨by show (((0 : Nat) : Int)) ≤ E.int j; omega, by show E.int j ≤ (((0 : Nat)) : Int); omega, by show (0 : Nat) < 1000; omega⟩
        · exact hT e he
      · refine h1 E code j0 hE hne ?_ Q hrun
        intro e he
        rcases List.mem_cons.1 he with rfl | he
        · exact .inl ⟨by show (((1 : Nat) : Int)) ≤ E.int j; omega, by show E.int j ≤ (((j % 4096 - 1 : Nat)) : Int); omega, by show j % 4096 - 1 < 1000; omega⟩
        · exact hT e he
    · cases hj
  · cases hj
theorem CoversP.three {p : OR → Bool} {run : Tab → OR} {tab : Tab} (j : Nat) (hj : okIx j = true) (h0 : CoversP p run ((j, 0, 0) :: tab)) (h1 : CoversP p run ((j, 1, 1) :: tab)) (h2 : CoversP p run ((j, 2, j % 4096 - 1) :: tab)) : CoversP p run tab := by
  intro E code j0 hE hne hT Q hrun
  unfold okIx at hj
  rw [sel_ltb, sel_ble] at hj
  split at hj
  · rename_i hp
    split at hj
    · rename_i hn1
      have hn2 := Nat.le_of_ble_eq_true hj
      have d1 : Nat.div j 4096 = j / 4096 := rfl
      have d2 : Nat.mod j 4096 = j % 4096 := rfl
      rw [d1] at hp
      rw [d2] at hn1 hn2
      have hi := hE.int (j / 4096) (j % 4096) hp hn1 hn2
      have hr := pickv_range (c := code.take 2000) (fun x hx => hE.byte x (List.mem_of_mem_take hx)) (by simp; omega) hp hn1 hn2
      rw [show j / 4096 * 4096 + j % 4096 = j from by omega] at hi
      rw [← hi] at hr
      by_cases hv : E.int j = 0
      · refine h0 E code j0 hE hne ?_ Q hrun
        intro e he
        rcases List.mem_cons.1 he with rfl | he
        · exact .inl ⟨by show (((0 : Nat) : Int)) ≤ E.int j; omega, by show E.int j ≤ (((0 : Nat)) : Int); omega, by show (0 : Nat) < 1000; omega⟩
        · exact hT e he
      · by_cases hv1 : E.int j = 1
        · refine h1 E code j0 hE hne ?_ Q hrun
          intro e he
          rcases List.mem_cons.1 he with rfl | he
          · exact .inl ⟨by show (((1 : Nat) : Int)) ≤ E.int j; omega, by show E.int j ≤ (((1 : Nat)) : Int); omega, by show (1 : Nat) < 1000; omega⟩
          · exact hT e he
        · refine h2 E code j0 hE hne ?_ Q hrun
          intro e he
          rcases List.mem_cons.1 he with rfl | he
          · exact .inl ⟨by show (((2 : Nat) : Int)) ≤ E.int j; omega, by show E.int j ≤ (((j % 4096 - 1 : Nat)) : Int); omega, by show j % 4096 - 1 < 1000; omega⟩
          · exact hT e he
    · cases hj
  · cases hj

/-- ██ Numbers that are drawn may be variables of sums of products. -/
theorem CoversP.pts {p : OR → Bool} {run : Tab → OR} {tab : Tab} (js : List Nat) (hjs : jsOk js = true) (hp : tabPlain tab = true) (h : CoversP p run (addPts js 8 tab)) : CoversP p run tab := by
  intro E code j0 hE hne hT Q hrun
  have hok := jsOk_inv hjs
  have hpl := tabPlain_inv hp
  have hE' : @DrawE (ptsEnv E js) code j0 := @DrawE.mk (ptsEnv E js) code j0 hE.l0 hE.l1 hE.byte (fun p n hp h1 h2 => (ptsEnv_low E js (by omega)).trans (hE.int p n hp h1 h2)) (fun p hp => (ptsEnv_low E js (by omega)).trans (hE.num0 p hp)) (fun p hp => (ptsEnv_low E js (by omega)).trans (hE.num1 p hp)) (fun _ _ h => by cases h)
  have key : ∀ (l pre : List Nat), js = pre ++ l → @TabOk (ptsEnv E js) (addPts l (8 + pre.length) tab) := by
    intro l
    induction l with
    | nil =>
      intro pre _ e he
      have he : e ∈ tab := he
      obtain ⟨h1, h2⟩ := hpl e he
      rcases hT e he with h3 | ⟨h3, _⟩
      · left
        rw [ptsEnv_low E js h1]
        exact h3
      · omega
    | cons j l ih =>
      intro pre hjsl e he
      have he : e ∈ (j, Nat.add 1000 (8 + pre.length), Nat.pred (Nat.mod j 4096)) :: addPts l (Nat.succ (8 + pre.length)) tab := he
      rcases List.mem_cons.1 he with rfl | he
      · right
        have hj := hok j (by rw [hjsl]; simp)
        obtain ⟨o1, o2, o3⟩ := okIx_inv hj
        have e1 : Nat.add 1000 (8 + pre.length) = 1000 + (8 + pre.length) := rfl
        have e2 : Nat.pred (Nat.mod j 4096) = j % 4096 - 1 := rfl
        have hjl : j < 2199023255552 := by omega
        have hi := hE.int (j / 4096) (j % 4096) o1 o2 o3
        have hr := pickv_range (c := code.take 2000) (fun x hx => hE.byte x (List.mem_of_mem_take hx)) (by simp; omega) o1 o2 o3
        rw [show j / 4096 * 4096 + j % 4096 = j from by omega] at hi
        rw [← hi] at hr
        simp only [e1, e2]
        have hlen : pre.length < js.length := by rw [hjsl]; simp
        refine ⟨by omega, ?_, by rw [ptsEnv_low E js hjl]; omega, by rw [ptsEnv_low E js hjl]; omega, by omega⟩
        rw [ptsEnv_low E js hjl, show 1000 + (8 + pre.length) - 1000 = 8 + pre.length from by omega, ptsEnv_var E js hlen]
        have : js.getD pre.length 0 = j := by rw [hjsl]; simp [List.getD_eq_getElem?_getD]
        rw [this]
      · exact ih (pre ++ [j]) (by rw [hjsl]; simp) e (by rw [show 8 + (pre ++ [j]).length = Nat.succ (8 + pre.length) from by simp; omega]; exact he)
  exact h (ptsEnv E js) code j0 hE' hne (key js [] rfl) Q (fun E'' hl hd tab' ht hr => hrun E'' (hl.trans rfl) hd tab' ht hr)

noncomputable section
def chkR (p : OR → Bool) (run : Tab → OR) (t : QT) : Tab → Bool :=
  QT.rec (motive := fun _ => Tab → Bool) (fun k tab => chkP p run k tab)
    (fun j _ ih tab => sel (okIx j) (allB (Nat.mod j 4096) fun v => ih v ((j, v, v) :: tab)) false)
    (fun j _ _ iha ihb tab => sel (okIx j) (sel (iha ((j, 0, 0) :: tab)) (ihb ((j, 1, Nat.pred (Nat.mod j 4096)) :: tab)) false) false)
    (fun j _ _ _ iha ihb ihc tab => sel (okIx j) (sel (iha ((j, 0, 0) :: tab)) (sel (ihb ((j, 1, 1) :: tab)) (ihc ((j, 2, Nat.pred (Nat.mod j 4096)) :: tab)) false) false) false)
    (fun js _ ih tab => sel (jsOk js) (sel (tabPlain tab) (ih (addPts js 8 tab)) false) false) t
end
theorem CoversP.tree {p : OR → Bool} {run : Tab → OR} (t : QT) : ∀ {tab : Tab}, chkR p run t tab = true → CoversP p run tab := by
  induction t with
  | of k => intro tab h; exact .of k h
  | part j f ih =>
    intro tab h
    have e : chkR p run (.part j f) tab = sel (okIx j) (allB (Nat.mod j 4096) fun v => chkR p run (f v) ((j, v, v) :: tab)) false := rfl
    rw [e] at h
    obtain ⟨h1, h2⟩ := sel_and h
    exact .part j h1 fun v hv => ih v (allB_all h2 v hv)
  | two j a b iha ihb =>
    intro tab h
    have e : chkR p run (.two j a b) tab = sel (okIx j) (sel (chkR p run a ((j, 0, 0) :: tab)) (chkR p run b ((j, 1, Nat.pred (Nat.mod j 4096)) :: tab)) false) false := rfl
    rw [e] at h
    obtain ⟨h1, h2⟩ := sel_and h
    obtain ⟨h2, h3⟩ := sel_and h2
    exact .two j h1 (iha h2) (ihb h3)
  | three j a b c iha ihb ihc =>
    intro tab h
    have e : chkR p run (.three j a b c) tab = sel (okIx j) (sel (chkR p run a ((j, 0, 0) :: tab)) (sel (chkR p run b ((j, 1, 1) :: tab)) (chkR p run c ((j, 2, Nat.pred (Nat.mod j 4096)) :: tab)) false) false) false := rfl
    rw [e] at h
    obtain ⟨h1, h2⟩ := sel_and h
    obtain ⟨h2, h3⟩ := sel_and h2
    obtain ⟨h3, h4⟩ := sel_and h3
    exact .three j h1 (iha h2) (ihb h3) (ihc h4)
  | pts js t ih =>
    intro tab h
    have e : chkR p run (.pts js t) tab = sel (jsOk js) (sel (tabPlain tab) (chkR p run t (addPts js 8 tab)) false) false := rfl
    rw [e] at h
    obtain ⟨h1, h2⟩ := sel_and h
    obtain ⟨h2, h3⟩ := sel_and h2
    exact .pts js h1 h2 (ih h3)
end Go.Eng

/- Laws on a code: what is drawn, told by itself. -/
namespace Go.Eng
set_option linter.unusedSectionVars false
set_option linter.unusedSimpArgs false
set_option linter.unusedVariables false
open Go Go.RowKit

noncomputable section
/-- a part of what is drawn: a word (a number or a text that is known, a variable of sums of products); a new row of such words; a slice without elements -/
inductive DI where
  | cell (t : Nat)
  | row (ts : List Nat)
  | emp
  /-- a struct of two words and a new row of words -/
  | sum (w d : Nat) (ts : List Nat)

def pvOf (t : Nat) : Nat := Nat.sub (vIx (payOf t)) 2199023255552
def asgGet (asg : List (Nat × Nat)) (i : Nat) : Nat := List.rec (motive := fun _ => Nat) 15 (fun e _ ih => sel (Nat.beq e.1 i) e.2 ih) asg
def withinK (lo hi : Nat) : Nat → Nat → Nat → Nat → Nat → Nat → OR := fun _ _ s _ l h => sel (Nat.ble (Nat.add lo 9223371487098961920) l) (sel (Nat.ble h (Nat.add hi 9223371487098961920)) (sel (ltb s 4611686018427387904) (.ok 18 .nil 0) (.bad 0)) (.bad 0)) (.bad 0)
def isOk (r : OR) : Bool := match r with | .ok _ _ _ => true | .bad _ => false
def withinP (H : Trie) (c lo hi : Nat) : Bool := isOk (pget H c (withinK lo hi))
/-- a variable between bounds, or a sum of products that is known to lie between them -/
def within (H : Trie) (c lo hi : Nat) : Bool :=
  sel (Nat.beq (tagOf c) 12) (sel (Nat.beq (vLo (payOf c)) 0) false (sel (Nat.beq (vHi (payOf c)) 0) false (sel (Nat.ble lo (vLo (payOf c))) (Nat.ble (vHi (payOf c)) hi) false))) (withinP H c lo hi)
def isVar (t : Nat) : Bool := sel (Nat.beq (tagOf t) 12) (sel (Nat.ble 2199023255552 (vIx (payOf t))) (sel (pvOk (pvOf t)) (sel (Nat.beq (vLo (payOf t)) 0) false (sel (Nat.beq (vHi (payOf t)) 0) false true)) false) false) false
def cellOk (H : Trie) (asg : List (Nat × Nat)) (t c : Nat) : Bool :=
  sel (isVar t) (sel (Nat.beq (asgGet asg (pvOf t)) c) (within H c (vLo (payOf t)) (vHi (payOf t))) false)
    (sel (sel (litW t) true (isStr t)) (Nat.beq c t) false)
def cellsOk (H : Trie) (asg : List (Nat × Nat)) (ts : List Nat) : Nat → Bool := List.rec (motive := fun _ => Nat → Bool) (fun _ => true) (fun t _ ih c => sel (cellOk H asg t (getW c 0)) (ih (Nat.shiftRight c 128)) false) ts
def drowE (H : Trie) (asg : List (Nat × Nat)) (w : Nat) (ts : List Nat) (k : Nat → Bool) : Bool :=
  sel (sel (Nat.beq (tagOf w) 4) (sel (Nat.beq (sLen (payOf w)) (lenN ts)) (sel (Nat.beq (sEs (payOf w)) 1) (sel (Nat.beq (sOff (payOf w)) 0) (sel (Nat.beq (lenN ts) 0) false (sel (Nat.beq (sBlk (payOf w)) 0) false true)) false) false) false) false)
    (match tget H (Nat.pred (sBlk (payOf w))) with
     | some (.cells nb cb g keep since _) => sel (sel (Nat.beq g 0) false (sel (validE H (Nat.pred (sBlk (payOf w))) g keep since) (sel (Nat.ble (lenN ts) nb) (cellsOk H asg ts cb) false) false)) (k g) false
     | _ => false) false
def empE (w : Nat) : Bool := sel (Nat.beq w 14) true (sel (Nat.beq (tagOf w) 4) (sel (Nat.beq (sLen (payOf w)) 0) (sel (Nat.beq (sCap (payOf w)) 1) (sel (Nat.beq (sBlk (payOf w)) 0) false true) false) false) false)
def itemsOk (H : Trie) (asg : List (Nat × Nat)) (l : List DI) : Nat → List Nat → Bool :=
  List.rec (motive := fun _ => Nat → List Nat → Bool) (fun _ _ => true)
    (fun x _ ih c gs => DI.rec (motive := fun _ => Bool) (fun t => sel (cellOk H asg t (getW c 0)) (ih (Nat.shiftRight c 128) gs) false)
      (fun ts => drowE H asg (getW c 0) ts fun g => sel (noneE gs g) (ih (Nat.shiftRight c 128) (g :: gs)) false)
      (sel (empE (getW c 0)) (ih (Nat.shiftRight c 128) gs) false)
      (fun w d ts => sel (Nat.beq (tagOf (getW c 0)) 6) (match tget H (payOf (getW c 0)) with
        | some (.box 0 m c') => sel (sel (Nat.beq m 3) (sel (cellOk H asg w (getW c' 0)) (cellOk H asg d (getW c' 1)) false) false) (drowE H asg (getW c' 2) ts fun g => sel (noneE gs g) (ih (Nat.shiftRight c 128) (g :: gs)) false) false
        | _ => false) false) x) l
def asgCells (ts : List Nat) : Nat → List (Nat × Nat) → List (Nat × Nat) := List.rec (motive := fun _ => Nat → List (Nat × Nat) → List (Nat × Nat)) (fun _ a => a) (fun t _ ih c a => ih (Nat.shiftRight c 128) (sel (isVar t) ((pvOf t, getW c 0) :: a) a)) ts
def asgItems (H : Trie) (l : List DI) : Nat → List (Nat × Nat) → List (Nat × Nat) :=
  List.rec (motive := fun _ => Nat → List (Nat × Nat) → List (Nat × Nat)) (fun _ a => a)
    (fun x _ ih c a => ih (Nat.shiftRight c 128) (DI.rec (motive := fun _ => List (Nat × Nat)) (fun t => sel (isVar t) ((pvOf t, getW c 0) :: a) a)
      (fun ts => match tget H (Nat.pred (sBlk (payOf (getW c 0)))) with | some (.cells _ cb _ _ _ _) => asgCells ts cb a | _ => a) a
      (fun w d ts => match tget H (payOf (getW c 0)) with
        | some (.box 0 m c') => (match tget H (Nat.pred (sBlk (payOf (getW c' 2)))) with | some (.cells _ cb _ _ _ _) => asgCells ts cb a | _ => a)
        | _ => a) x)) l
/-- the cells of what is drawn: of a tuple, or itself -/
def drewC (one : Bool) (l : List DI) (v : Nat) (H : Trie) (k : Nat → Bool) : Bool :=
  sel one (sel (ltb v 340282366920938463463374607431768211456) (sel (Nat.beq (lenN l) 1) (k v) false) false)
    (sel (Nat.beq (tagOf v) 6) (match tget H (payOf v) with | some (.box 1 m c) => sel (Nat.beq m (lenN l)) (k c) false | _ => false) false)
def isDrew (one : Bool) (l : List DI) (r : OR) : Bool := match r with | .bad _ => false | .ok v H _ => drewC one l v H fun c => itemsOk H (asgItems H l c []) l c []

/-- what is drawn, laid down -/
def putItems (l : List DI) : Trie → Nat → List Nat → Lay :=
  List.rec (motive := fun _ => Trie → Nat → List Nat → Lay) (fun H n ws => ⟨H, n, ws⟩)
    (fun x _ ih H n ws => DI.rec (motive := fun _ => Lay) (fun t => ih H n (ws ++ [t]))
      (fun ts => ih (hset H n (.cells (lenN ts) (listW ts) (Nat.succ n) n n (lenN ts))) (Nat.succ n) (ws ++ [wS n 1 0 (lenN ts) 0]))
      (ih H n (ws ++ [14]))
      (fun w d ts => ih (hset (hset H n (.cells (lenN ts) (listW ts) (Nat.succ n) n n (lenN ts))) (Nat.succ n) (.box 0 3 (listW [w, d, wS n 1 0 (lenN ts) 0]))) (Nat.succ (Nat.succ n)) (ws ++ [mk 6 (Nat.succ n)])) x) l
def okDI (l : List DI) : Bool := List.rec (motive := fun _ => Bool) true (fun x _ ih => DI.rec (motive := fun _ => Bool) (fun _ => ih) (fun ts => sel (ltb (lenN ts) 1048576) ih false) ih (fun _ _ ts => sel (ltb (lenN ts) 1048576) ih false) x) l
def headW (l : List Nat) : Nat := List.rec (motive := fun _ => Nat) 15 (fun x _ _ => x) l
def finD (one : Bool) (m : Nat) (y : Lay) : OR := sel one (.ok (headW y.ws) y.H y.n) (newBox y.H y.n 1 m (listW y.ws) (mk 6 y.n))
def drewS (fd : Nat) (one : Bool) (l : List DI) (j0 : Nat) : Sums := fun f args H n =>
  sel (Nat.beq f fd) (match args with
    | [s] => gd (Nat.beq (tagOf s) 11) (gd (Nat.beq (oIx (payOf s)) j0) (gd (isCode j0 H (oBlk (payOf s))) (gd (Nat.ble 1 (oLo (payOf s))) (gd (Nat.ble (oHi (payOf s)) 1048576) (gd (sel (Nat.beq (oHi (payOf s)) 0) false true) (gd (ltb (putItems l H n []).n 16000) (gd (okDI l)
        (.yes (finD one (lenN l) (putItems l H n []))))))))))
    | _ => .no) .no
end

/-! ### what a word tells, wherever it lies -/
theorem pget_form {H H' : Trie} {x v n' : Nat} {k0 : Nat → Nat → Nat → Nat → Nat → Nat → OR} (h : pget H x k0 = .ok v H' n') : ∃ p q s d lo hi, ∀ k, pget H x k = k p q s d lo hi := by
  cases h1 : Nat.beq (tagOf x) 1 with
  | true =>
    cases h2 : ltb (payOf x) 9223372036854775808 with
    | true => exact ⟨_, _, _, _, _, _, fun k => by unfold pget; rw [h1, sel_true, h2, sel_true]⟩
    | false => exact ⟨_, _, _, _, _, _, fun k => by unfold pget; rw [h1, sel_true, h2, sel_false]⟩
  | false =>
    cases h3 : Nat.beq (tagOf x) 12 with
    | true =>
      cases h4 : sel (Nat.ble 2199023255552 (vIx (payOf x))) (pvOk (Nat.sub (vIx (payOf x)) 2199023255552)) false with
      | true =>
        cases h7 : knownV (payOf x) with
        | true => exact ⟨_, _, _, _, _, _, fun k => by unfold pget; rw [h1, sel_false, h3, sel_true, h4, sel_true, h7, sel_true]⟩
        | false => exact ⟨_, _, _, _, _, _, fun k => by unfold pget; rw [h1, sel_false, h3, sel_true, h4, sel_true, h7, sel_false]⟩
      | false => exfalso; unfold pget at h; rw [h1, sel_false, h3, sel_true, h4] at h; cases h
    | false =>
      cases h5 : sel (Nat.beq (tagOf x) 7) (Nat.beq (xKind (payOf x)) 0) false with
      | true =>
        cases h6 : tget H (xNum (payOf x)) with
        | none => exfalso; unfold pget at h; rw [h1, sel_false, h3, sel_false, h5, sel_true, h6] at h; cases h
        | some b =>
          cases b with
          | poly p q s d lo hi => exact ⟨p, q, s, d, lo, hi, fun k => by unfold pget; rw [h1, sel_false, h3, sel_false, h5, sel_true, h6]⟩
          | _ => exfalso; unfold pget at h; rw [h1, sel_false, h3, sel_false, h5, sel_true, h6] at h; cases h
      | false => exfalso; unfold pget at h; rw [h1, sel_false, h3, sel_false, h5] at h; cases h

/-- the int of a word -/
def IsV (E : Env) (H : Trie) (c : Nat) (z : Int) : Prop := ∃ p q s d lo hi, (∀ k, pget H c k = k p q s d lo hi) ∧ @PolyZ E p q s d lo hi z
noncomputable def valW (E : Env) (H : Trie) (c : Nat) : Int := open Classical in if tagOf c = 12 then E.int (vIx (payOf c)) else if h : ∃ z, IsV E H c z then Classical.choose h else 0
theorem IsV.range {E : Env} {H : Trie} {c : Nat} {z : Int} (h : IsV E H c z) : -9223372036854775808 ≤ z ∧ z < 9223372036854775808 := by
  obtain ⟨p, q, s, d, lo, hi, _, h1, h2, h3, h4, _⟩ := h
  omega
theorem valW_range (E : Env) (H : Trie) (c : Nat) : -9223372036854775808 ≤ valW E H c ∧ valW E H c < 9223372036854775808 := by
  unfold valW
  split
  · exact E.wf _
  · split
    · rename_i h; exact (Classical.choose_spec h).range
    · omega
theorem pget_same {H : Trie} {c p q s d lo hi p' q' s' d' lo' hi' : Nat} (h : ∀ k : Nat → Nat → Nat → Nat → Nat → Nat → OR, pget H c k = k p q s d lo hi) (h' : ∀ k : Nat → Nat → Nat → Nat → Nat → Nat → OR, pget H c k = k p' q' s' d' lo' hi') : p = p' ∧ q = q' ∧ s = s' ∧ d = d' ∧ lo = lo' ∧ hi = hi' := by
  have key : ∀ f : Nat → Nat → Nat → Nat → Nat → Nat → Nat, f p q s d lo hi = f p' q' s' d' lo' hi' := fun f => by
    have a := (h (fun a b c d e g => .bad (f a b c d e g))).symm.trans (h' _)
    injection a
  exact ⟨key fun a _ _ _ _ _ => a, key fun _ a _ _ _ _ => a, key fun _ _ a _ _ _ => a, key fun _ _ _ a _ _ => a, key fun _ _ _ _ a _ => a, key fun _ _ _ _ _ a => a⟩
theorem valW_eq {E : Env} {H : Trie} {c : Nat} {z : Int} (h : IsV E H c z) {lo hi : Nat} (h12 : tagOf c ≠ 12) (hw : withinP H c lo hi = true) : valW E H c = z ∧ (lo : Int) - 549755813888 ≤ z ∧ z ≤ (hi : Int) - 549755813888 := by
  obtain ⟨p, q, s, d, l, u, hf, Z⟩ := h
  unfold withinP at hw
  rw [hf] at hw
  unfold withinK at hw
  rw [sel_ble] at hw
  split at hw
  · rename_i b1
    rw [sel_ble] at hw
    split at hw
    · rename_i b2
      rw [sel_ltb] at hw
      split at hw
      · rename_i b3
        have a1 : Nat.add lo 9223371487098961920 = lo + 9223371487098961920 := rfl
        have a2 : Nat.add hi 9223371487098961920 = hi + 9223371487098961920 := rfl
        rw [a1] at b1
        rw [a2] at b2
        have hz1 := Z.low
        have hz2 := Z.high
        refine ⟨?_, by omega, by omega⟩
        unfold valW
        rw [if_neg h12, dif_pos ⟨z, p, q, s, d, l, u, hf, Z⟩]
        obtain ⟨p', q', s', d', l', u', hf', Z'⟩ := Classical.choose_spec (⟨z, p, q, s, d, l, u, hf, Z⟩ : ∃ z, IsV E H c z)
        obtain ⟨e1, e2, e3, e4, e5, e6⟩ := pget_same hf hf'
        subst e1; subst e2; subst e3; subst e4; subst e5; subst e6
        generalize Classical.choose (⟨z, p, q, s, d, l, u, hf, Z⟩ : ∃ z, IsV E H c z) = z' at Z' ⊢
        obtain ⟨g1, g2, g3, g4, r, R, g5⟩ := Z
        obtain ⟨f1, f2, f3, f4, r', R', f5⟩ := Z'
        have := PolyR.same R R' (by omega) (by omega)
        omega
      · cases hw
    · cases hw
  · cases hw

/-- the surroundings in which the variables are these ints -/
@[reducible] noncomputable def pvEnv (E : Env) (x : Nat → Int) (hx : ∀ i, -9223372036854775808 ≤ x i ∧ x i < 9223372036854775808) : Env where
  int := fun k => if 2199023255552 ≤ k then x (k - 2199023255552) else E.int k
  lst := E.lst
  wf := fun k => by
    split
    · exact hx _
    · exact E.wf _
  len := fun j hj => by
    have e : lenIx j = 1099511627776 + j := rfl
    rw [if_neg (by rw [e]; omega)]
    exact E.len j hj
  byThree := E.byThree
  notThree := E.notThree
  txt := E.txt
  txtNe := E.txtNe
theorem pvEnv_var (E : Env) (x : Nat → Int) (hx) (i : Nat) : (pvEnv E x hx).int (pvIx i) = x i := by
  have e3 : pvIx i = 2199023255552 + i := rfl
  show (if 2199023255552 ≤ pvIx i then x (pvIx i - 2199023255552) else E.int (pvIx i)) = _
  rw [e3, if_pos (by omega), show 2199023255552 + i - 2199023255552 = i from by omega]

/-- what a word of a drawn part stands for -/
def HoldsT (E : Env) (t : Nat) (v : Value) : Prop := @VR E (fun _ => none) (fun _ => none) t v ∧ storable t = true
theorem HoldsT.vr {E : Env} {t : Nat} {v : Value} (h : HoldsT E t v) (ρ : Rho) (L : Look) : @VR E ρ L t v :=
  @VR.mono0 E (fun _ => none) ρ (fun _ => none) L ⟨fun _ _ h => (by cases h), fun _ _ _ _ h => (by cases h), fun _ _ _ _ _ _ _ h => (by cases h), fun _ h => (by rcases h with h | h <;> cases h)⟩ t v h.1

theorem isVar_inv {t : Nat} (h : isVar t = true) : tagOf t = 12 ∧ 2199023255552 ≤ vIx (payOf t) ∧ pvOf t < 40 ∧ vLo (payOf t) ≠ 0 ∧ vHi (payOf t) ≠ 0 ∧ t = wV (pvIx (pvOf t)) (vLo (payOf t)) (vHi (payOf t)) ∧ vLo (payOf t) < 1099511627776 ∧ vHi (payOf t) < 1099511627776 := by
  unfold isVar at h
  rw [sel_beq] at h
  split at h
  · rename_i h1
    rw [sel_ble] at h
    split at h
    · rename_i h2
      rw [sel_eq] at h
      split at h
      · rename_i h3
        have h3 : pvOf t < 40 := by
          unfold pvOk at h3
          rw [sel_ltb, sel_ble] at h3
          split at h3
          · omega
          · split at h3
            · exact (ltb_iff _ _).1 h3
            · cases h3
        rw [sel_beq] at h
        split at h
        · cases h
        · rename_i h4
          rw [sel_beq] at h
          split at h
          · cases h
          · rename_i h5
            have e1 : payOf t = t / 16 := rfl
            have e2 : tagOf t = t % 16 := rfl
            have e3 : vHi (payOf t) = payOf t % 1099511627776 := rfl
            have e4 : vLo (payOf t) = payOf t / 1099511627776 % 1099511627776 := rfl
            have e5 : vIx (payOf t) = payOf t / 1208925819614629174706176 := rfl
            have e6 : pvOf t = vIx (payOf t) - 2199023255552 := rfl
            refine ⟨h1, h2, h3, h4, h5, ?_, by rw [e4]; omega, by rw [e3]; omega⟩
            show t = 16 * (1099511627776 * (1099511627776 * (2199023255552 + pvOf t) + vLo (payOf t)) + vHi (payOf t)) + 12
            rw [e6, e3, e4]
            rw [e5] at h2 ⊢
            generalize payOf t = p at *
            omega
      · cases h
    · cases h
  · cases h

section
variable {base n : Nat} {H : Trie} {ρ : Rho} {L : Look} {w : World}
theorem cell_holds {E : Env} (c : @Ctx E base H n ρ L w) {asg : List (Nat × Nat)} (hx) {t cw : Nat} {v : Value} (hv : @VR E ρ L cw v) (hlt : cw < 2 ^ 128) (h : cellOk H asg t cw = true) :
    HoldsT (pvEnv E (fun i => valW E H (asgGet asg i)) hx) t v := by
  unfold cellOk at h
  rw [sel_eq] at h
  split at h
  · rename_i hvar
    obtain ⟨h1, h2, h3, h4, h5, h6, h7, h8⟩ := isVar_inv hvar
    rw [sel_beq] at h
    split at h
    · rename_i ha
      have key : ∃ z, v = .int .i64 z ∧ valW E H cw = z ∧ (vLo (payOf t) : Int) - 549755813888 ≤ z ∧ z ≤ (vHi (payOf t) : Int) - 549755813888 := by
        unfold within at h
        rw [sel_beq] at h
        split at h
        · rename_i h12
          rw [sel_beq] at h
          split at h
          · cases h
          · rename_i n1
            rw [sel_beq] at h
            split at h
            · cases h
            · rename_i n2
              rw [sel_ble] at h
              split at h
              · rename_i m1
                have m2 := Nat.le_of_ble_eq_true h
                obtain ⟨j, lo, hi, q1, q2, q3, q4, e1, e2⟩ := hv.var_inv h12
                obtain ⟨y1, y2, y3⟩ := v_parts j lo hi q1 q2
                rw [e1, y2] at n1 m1
                rw [e1, y1] at n2 m2
                refine ⟨_, e2, ?_, ?_, ?_⟩
                · unfold valW
                  rw [if_pos h12, e1, y3]
                · rcases q3 with q | q <;> omega
                · rcases q4 with q | q <;> omega
              · cases h
        · rename_i h12
          have h12 : tagOf cw ≠ 12 := h12
          obtain ⟨p, q, s, d, lo, hi, hf⟩ : ∃ p q s d lo hi, ∀ k, pget H cw k = k p q s d lo hi := by
            cases hp : pget H cw (withinK (vLo (payOf t)) (vHi (payOf t))) with
            | bad q => unfold withinP at h; rw [hp] at h; cases h
            | ok a b c => exact pget_form hp
          obtain ⟨p', q', s', d', lo', hi', z, rfl, Z, hk⟩ := @pget_sound E base H n _ ρ L w c cw v hv (fun a b c d e g => open Classical in if a = p ∧ b = q ∧ c = s ∧ d = d ∧ e = lo ∧ g = hi then .ok 18 .nil 0 else .bad 0) _ _ (by rw [hf, if_pos ⟨rfl, rfl, rfl, rfl, rfl, rfl⟩])
          have hz : IsV E H cw z := by
            obtain ⟨p2, q2, s2, d2, lo2, hi2, z2, e2, Z2, hk2⟩ := @pget_sound E base H n _ ρ L w c cw _ hv (fun a b c d' e g => open Classical in if a = p ∧ b = q ∧ c = s ∧ d' = d ∧ e = lo ∧ g = hi then .ok 18 .nil 0 else .bad 0) _ _ (by rw [hf, if_pos ⟨rfl, rfl, rfl, rfl, rfl, rfl⟩])
            injection e2 with _ e2
            subst e2
            split at hk2
            · rename_i he
              obtain ⟨rfl, rfl, rfl, rfl, rfl, rfl⟩ := he
              exact ⟨_, _, _, _, _, _, hf, Z2⟩
            · cases hk2
          obtain ⟨v1, v2, v3⟩ := valW_eq hz h12 h
          exact ⟨_, rfl, v1, v2, v3⟩
      obtain ⟨z, rfl, v1, v2, v3⟩ := key
      have hint : (pvEnv E (fun i => valW E H (asgGet asg i)) hx).int (pvIx (pvOf t)) = z := by rw [pvEnv_var, ha, v1]
      refine ⟨?_, ?_⟩
      · rw [h6, ← hint]
        exact @VR.var (pvEnv E (fun i => valW E H (asgGet asg i)) hx) _ _ _ _ _ h7 h8 (.inr (by rw [hint]; exact v2)) (.inr (by rw [hint]; exact v3))
      · rw [storable_iff, h1]
        refine ⟨by decide, by decide, by decide, ?_⟩
        rw [h6]
        show 16 * (1099511627776 * (1099511627776 * (2199023255552 + pvOf t) + vLo (payOf t)) + vHi (payOf t)) + 12 < _
        omega
    · cases h
  · rw [sel_eq] at h
    split at h
    · rename_i hl
      have := Nat.eq_of_beq_eq_true h
      subst this
      rw [sel_eq] at hl
      split at hl
      · rename_i hlw
        rw [@litV_of E ρ L cw v hlw hv]
        exact ⟨@litV_vr (pvEnv E (fun i => valW E H (asgGet asg i)) hx) _ _ _ hlw, litW_storable hlw⟩
      · obtain ⟨s, rfl, rfl⟩ := @VR.str_inv E ρ L cw v hv hl
        refine ⟨@VR.str (pvEnv E (fun i => valW E H (asgGet asg i)) hx) _ _ s, ?_⟩
        rw [storable_iff]
        have : tagOf (strW s) = 7 := tag_mk7 _
        rw [this]
        exact ⟨by decide, by decide, by decide, hlt⟩
    · cases h
end

/-! ### what comes back -/
/-- a new row -/
def DRow (E : Env) (s : Nat) (W : World) (rb d cp : Nat) (ts : List Nat) : Prop :=
  s ≤ rb ∧ ts.length ≤ cp ∧ cp < 9223372036854775808 ∧ ∃ cs ty, W.heap[rb]? = some (.cells cs ty (0, 0)) ∧ d + cp ≤ cs.size ∧ ∀ i, i < ts.length → ∃ u, cs[d + i]? = some u ∧ HoldsT E (ts.getD i 0) u
inductive NewItems (E : Env) (s : Nat) (W : World) : List DI → List Value → List Nat → Prop
  | nil : NewItems E s W [] [] []
  | cell (t : Nat) (v : Value) (l : List DI) (vs : List Value) (bs : List Nat) : HoldsT E t v → NewItems E s W l vs bs → NewItems E s W (.cell t :: l) (v :: vs) bs
  | emp (a : Addr) (l : List DI) (vs : List Value) (bs : List Nat) : NewItems E s W l vs bs → NewItems E s W (.emp :: l) (.slice (some a) 0 0 :: vs) bs
  | row (ts : List Nat) (rb d cp : Nat) (l : List DI) (vs : List Value) (bs : List Nat) : ts.length ≠ 0 → DRow E s W rb d cp ts → rb ∉ bs → NewItems E s W l vs bs → NewItems E s W (.row ts :: l) (.slice (some ⟨rb, d, none⟩) ts.length cp :: vs) (rb :: bs)
  | sum (t1 t2 : Nat) (v1 v2 : Value) (ts : List Nat) (rb d cp : Nat) (l : List DI) (vs : List Value) (bs : List Nat) : HoldsT E t1 v1 → HoldsT E t2 v2 → ts.length ≠ 0 → DRow E s W rb d cp ts → rb ∉ bs → NewItems E s W l vs bs → NewItems E s W (.sum t1 t2 ts :: l) (.agg #[v1, v2, .slice (some ⟨rb, d, none⟩) ts.length cp] :: vs) (rb :: bs)
theorem NewItems.len {E : Env} {s : Nat} {W : World} {l : List DI} {vs : List Value} {bs : List Nat} (h : NewItems E s W l vs bs) : vs.length = l.length := by
  induction h with
  | nil => rfl
  | cell _ _ _ _ _ _ _ ih => simp [ih]
  | emp _ _ _ _ _ ih => simp [ih]
  | row _ _ _ _ _ _ _ _ _ _ _ ih => simp [ih]
  | sum _ _ _ _ _ _ _ _ _ _ _ _ _ _ _ _ _ ih => simp [ih]
theorem NewItems.low {E : Env} {s : Nat} {W : World} {l : List DI} {vs : List Value} {bs : List Nat} (h : NewItems E s W l vs bs) : ∀ b ∈ bs, s ≤ b := by
  induction h with
  | nil => intro b hb; cases hb
  | cell _ _ _ _ _ _ _ ih => exact ih
  | emp _ _ _ _ _ ih => exact ih
  | row _ _ _ _ _ _ _ _ h2 _ _ ih =>
    intro b hb
    rcases List.mem_cons.1 hb with rfl | hb
    · exact h2.1
    · exact ih b hb
  | sum _ _ _ _ _ _ _ _ _ _ _ _ _ _ h2 _ _ ih =>
    intro b hb
    rcases List.mem_cons.1 hb with rfl | hb
    · exact h2.1
    · exact ih b hb

section
variable {base n : Nat} {H : Trie} {ρ : Rho} {L : Look} {w : World}
theorem cellsOk_inv {H : Trie} {asg : List (Nat × Nat)} : ∀ (ts : List Nat) (c : Nat), cellsOk H asg ts c = true → ∀ i, i < ts.length → cellOk H asg (ts.getD i 0) (getW c i) = true
  | [], c, _, i, h => by simp at h
  | t :: ts, c, h, i, hi => by
    have e : cellsOk H asg (t :: ts) c = sel (cellOk H asg t (getW c 0)) (cellsOk H asg ts (Nat.shiftRight c 128)) false := rfl
    rw [e] at h
    obtain ⟨h1, h2⟩ := sel_and h
    cases i with
    | zero => exact h1
    | succ i =>
      have h3 := cellsOk_inv ts (Nat.shiftRight c 128) h2 i (by simpa using hi)
      rw [@getW_shift noEnv] at h3
      exact h3
theorem drowE_inv {E : Env} (c : @Ctx E base H n ρ L w) {asg : List (Nat × Nat)} (hx) {x : Nat} {v : Value} (hv : @VR E ρ L x v) {ts : List Nat} {k : Nat → Bool} (h : drowE H asg x ts k = true) :
    ∃ b rb d sz cp g, v = .slice (some ⟨rb, d, none⟩) ts.length cp ∧ DRow (pvEnv E (fun i => valW E H (asgGet asg i)) hx) base w rb d cp ts ∧ k g = true ∧ live L b ∧ grp L b = g ∧ g ≠ 0 ∧ ρ b = some (rb, d, sz) ∧ ts.length ≠ 0 := by
  unfold drowE at h
  rw [sel_eq] at h
  split at h
  · rename_i h1
    rw [lenN_eq] at h1 h
    rw [sel_beq] at h1
    split at h1
    · rename_i h4
      rw [sel_beq] at h1
      split at h1
      · rename_i hlen
        rw [sel_beq] at h1
        split at h1
        · rename_i hes
          rw [sel_beq] at h1
          split at h1
          · rename_i hof0
            rw [sel_beq] at h1
            split at h1
            · cases h1
            · rename_i hm0
              rw [sel_beq] at h1
              split at h1
              · cases h1
              · rename_i hbn
                rcases @VR.slice_inv E ρ L x v hv h4 with ⟨rfl, _⟩ | ⟨b, es, off, m', kk, rb, d, sz, cp, a, hb, he, ho, hm, hk, hmc, hbig, hk1, hcp, rfl, rfl⟩
                · exact absurd s_nil.2.2.2.2.2 hbn
                · obtain ⟨_, q1, q2, q3, q4, q5⟩ := s_parts b es off m' kk he ho hm hk
                  rw [q1] at hlen; rw [q4] at hes; rw [q3] at hof0
                  subst hlen; subst hes; subst hof0
                  rw [q5, Nat.pred_succ] at h
                  split at h
                  · rename_i nb cb g keep since mx hget
                    rw [sel_eq] at h
                    split at h
                    · rename_i hc
                      rw [sel_beq] at hc
                      split at hc
                      · cases hc
                      · rename_i hg0
                        rw [sel_eq] at hc
                        split at hc
                        · rename_i hval
                          rw [sel_ble] at hc
                          split at hc
                          · rename_i hle
                            have hL := @Ctx.agree E base H n ρ L w c |>.2 _ _ hget
                            have hl := validE_iff (@Ctx.agree E base H n ρ L w c) hL hval
                            obtain ⟨k2, hk2, hbr⟩ := (@Ctx.sim E base H n ρ L w c).blk b _ hb
                            rw [hL] at hk2; injection hk2 with hk2; subst hk2
                            obtain ⟨cs, ty, fz, g1, g2, g3, g4, g5⟩ := hbr hl
                            obtain rfl := g4 hg0
                            have hgrp : grp L b = g := grp_of hL
                            have hcp2 := hcp.resolve_left (by omega)
                            have hbase : base ≤ rb := (@Ctx.sim E base H n ρ L w c).rw b _ hb (by rw [hgrp]; exact hg0)
                            simp only at g2 g3 g5
                            refine ⟨b, rb, d, sz, cp, g, by rw [hcp2.1]; rfl, ⟨hbase, hmc, hbig, cs, ty, g1, by have := hcp2.2; omega, fun i hi => ?_⟩, h, hl, hgrp, hg0, hb, hm0⟩
                            obtain ⟨u, u1, u2, u3⟩ := g5 i (by omega)
                            exact ⟨u, u1, cell_holds c hx u2 (getW_lt _ _) (cellsOk_inv ts cb hc i hi)⟩
                          · cases hc
                        · cases hc
                    · cases h
                  · cases h
          · cases h1
        · cases h1
      · cases h1
    · cases h1
  · cases h
theorem empE_inv {E : Env} {x : Nat} {v : Value} (hv : @VR E ρ L x v) (h : empE x = true) : ∃ a, v = .slice (some a) 0 0 := by
  unfold empE at h
  rw [sel_beq] at h
  split at h
  · rename_i h14
    subst h14
    exact @VR.sl0_inv E ρ L v 14 hv rfl
  · rw [sel_beq] at h
    split at h
    · rename_i h4
      rw [sel_beq] at h
      split at h
      · rename_i hlen
        rw [sel_beq] at h
        split at h
        · rename_i hcap
          rw [sel_beq] at h
          split at h
          · cases h
          · rename_i hbn
            rcases @VR.slice_inv E ρ L x v hv h4 with ⟨h5, _⟩ | ⟨b, es, off, m', kk, rb, d, sz, cp, a, hb, he, ho, hm, hk, hmc, hbig, hk1, hcp, h5, rfl⟩
            · rw [h5] at hbn; exact absurd s_nil.2.2.2.2.2 hbn
            · obtain ⟨_, q1, q2, q3, q4, q5⟩ := s_parts b es off m' kk he ho hm hk
              rw [h5, q1] at hlen
              rw [h5, q2] at hcap
              have hcp0 : cp = 0 := by omega
              subst hlen; subst hcp0
              exact ⟨a, rfl⟩
        · cases h
      · cases h
    · cases h

theorem itemsOk_inv {E : Env} (c : @Ctx E base H n ρ L w) {asg : List (Nat × Nat)} (hx) : ∀ (l : List DI) (ch : Nat) (gs : List Nat) (vs : List Value) (rs : List Nat), vs.length = l.length → (∀ i (h : i < vs.length), @VR E ρ L (getW ch i) vs[i]) →
    itemsOk H asg l ch gs = true → (∀ g ∈ gs, ∃ b r, live L b ∧ grp L b = g ∧ g ≠ 0 ∧ ρ b = some r ∧ r.1 ∈ rs) → (∀ r ∈ rs, ∃ g ∈ gs, ∃ b q, live L b ∧ grp L b = g ∧ g ≠ 0 ∧ ρ b = some q ∧ q.1 = r) →
    ∃ bs, NewItems (pvEnv E (fun i => valW E H (asgGet asg i)) hx) base w l vs bs ∧ ∀ r ∈ bs, r ∉ rs
  | [], ch, gs, vs, rs, hl, hv, h, hg, hr => by
    have : vs = [] := List.eq_nil_of_length_eq_zero (by simpa using hl)
    subst this
    exact ⟨[], .nil, by simp⟩
  | x :: l, ch, gs, [], rs, hl, hv, h, hg, hr => by simp at hl
  | x :: l, ch, gs, v :: vs, rs, hl, hv, h, hg, hr => by
    have hv0 : @VR E ρ L (getW ch 0) v := hv 0 (by simp)
    have hvt : ∀ i (h : i < vs.length), @VR E ρ L (getW (Nat.shiftRight ch 128) i) vs[i] := fun i hi => by
      letI : Env := E
      rw [getW_shift]
      have := hv (i + 1) (by simpa using hi)
      simpa using this
    cases x with
    | cell t =>
      have e : itemsOk H asg (.cell t :: l) ch gs = sel (cellOk H asg t (getW ch 0)) (itemsOk H asg l (Nat.shiftRight ch 128) gs) false := rfl
      rw [e] at h
      obtain ⟨h1, h2⟩ := sel_and h
      obtain ⟨bs, hb1, hb2⟩ := itemsOk_inv c hx l (Nat.shiftRight ch 128) gs vs rs (by simpa using hl) hvt h2 hg hr
      exact ⟨bs, .cell t v l vs bs (cell_holds c hx hv0 (getW_lt _ _) h1) hb1, hb2⟩
    | emp =>
      have e : itemsOk H asg (.emp :: l) ch gs = sel (empE (getW ch 0)) (itemsOk H asg l (Nat.shiftRight ch 128) gs) false := rfl
      rw [e] at h
      obtain ⟨h1, h2⟩ := sel_and h
      obtain ⟨bs, hb1, hb2⟩ := itemsOk_inv c hx l (Nat.shiftRight ch 128) gs vs rs (by simpa using hl) hvt h2 hg hr
      obtain ⟨a, rfl⟩ := empE_inv hv0 h1
      exact ⟨bs, .emp a l vs bs hb1, hb2⟩
    | row ts =>
      have e : itemsOk H asg (.row ts :: l) ch gs = drowE H asg (getW ch 0) ts (fun g => sel (noneE gs g) (itemsOk H asg l (Nat.shiftRight ch 128) (g :: gs)) false) := rfl
      rw [e] at h
      obtain ⟨b, rb, d, sz, cp, g, rfl, hnr, hk, hlive, hgrp, hg0, hρ, hm0⟩ := drowE_inv c hx hv0 h
      obtain ⟨hn, hk⟩ := sel_and hk
      have hng := noneE_inv gs g hn
      have hrs : rb ∉ rs := by
        intro hmem
        obtain ⟨g', hg', b', q, hl', hgr', hg0', hρ', hq⟩ := hr rb hmem
        have hne : grp L b ≠ grp L b' := by rw [hgrp, hgr']; intro hh; exact hng (hh ▸ hg')
        exact (@Ctx.sim E base H n ρ L w c).sep b b' _ q hρ hρ' hlive hl' (by rw [hgrp]; exact hg0) (by rw [hgr']; exact hg0') hne hq.symm
      obtain ⟨bs, hb1, hb2⟩ := itemsOk_inv c hx l (Nat.shiftRight ch 128) (g :: gs) vs (rb :: rs) (by simpa using hl) hvt hk (fun g' hg' => by
        rcases List.mem_cons.1 hg' with rfl | hg'
        · exact ⟨b, _, hlive, hgrp, hg0, hρ, by simp⟩
        · obtain ⟨b', r, a1, a2, a3, a4, a5⟩ := hg g' hg'
          exact ⟨b', r, a1, a2, a3, a4, by simp [a5]⟩) (fun r hrm => by
        rcases List.mem_cons.1 hrm with rfl | hrm
        · exact ⟨g, by simp, b, _, hlive, hgrp, hg0, hρ, rfl⟩
        · obtain ⟨g', a0, a1⟩ := hr r hrm
          exact ⟨g', by simp [a0], a1⟩)
      exact ⟨rb :: bs, .row ts rb d cp l vs bs hm0 hnr (fun hh => hb2 rb hh (by simp)) hb1, fun r hrm => by
        rcases List.mem_cons.1 hrm with rfl | hrm
        · exact hrs
        · exact fun hh => hb2 r hrm (by simp [hh])⟩
    | sum t1 t2 ts =>
      have e : itemsOk H asg (.sum t1 t2 ts :: l) ch gs = sel (Nat.beq (tagOf (getW ch 0)) 6) (match tget H (payOf (getW ch 0)) with
        | some (.box 0 m c') => sel (sel (Nat.beq m 3) (sel (cellOk H asg t1 (getW c' 0)) (cellOk H asg t2 (getW c' 1)) false) false) (drowE H asg (getW c' 2) ts fun g => sel (noneE gs g) (itemsOk H asg l (Nat.shiftRight ch 128) (g :: gs)) false) false
        | _ => false) false := rfl
      rw [e, sel_beq] at h
      split at h
      rotate_left
      · cases h
      rename_i h6
      obtain ⟨id, kd, m, cc, vs0, hw, hp, hL, hk0, hs0, hcells⟩ := @VR.box_inv E ρ L _ v hv0 h6
      split at h
      rotate_left
      · cases h
      rename_i m' c' hget
      have hL2 := (@Ctx.agree E base H n ρ L w c).2 _ _ hget
      rw [hp, hL] at hL2
      injection hL2 with hL2
      injection hL2 with q1 q2 q3
      subst q1; subst q2; subst q3
      obtain ⟨h1, hrow⟩ := sel_and h
      rw [sel_beq] at h1
      split at h1
      rotate_left
      · cases h1
      rename_i hm3
      subst hm3
      obtain ⟨ht1, ht2⟩ := sel_and h1
      have hv : v = .agg vs0 := by
        rcases hk0 with ⟨_, hk0⟩ | ⟨hk0, _⟩
        · exact hk0
        · omega
      subst hv
      obtain ⟨x1, x2, x3, rfl⟩ : ∃ x1 x2 x3, vs0 = #[x1, x2, x3] := by
        rcases vs0 with ⟨l0⟩
        match l0, hs0 with
        | [a, b, d], _ => exact ⟨a, b, d, rfl⟩
      have hc0 := hcells 0 (by simp)
      have hc1 := hcells 1 (by simp)
      have hc2 := hcells 2 (by simp)
      have hT1 := cell_holds c hx hc0 (getW_lt _ _) ht1
      have hT2 := cell_holds c hx hc1 (getW_lt _ _) ht2
      obtain ⟨b, rb, d, sz, cp, g, hx3, hnr, hk, hlive, hgrp, hg0, hρ, hm0⟩ := drowE_inv c hx hc2 hrow
      have hx3' : x3 = .slice (some ⟨rb, d, none⟩) ts.length cp := hx3
      subst hx3'
      obtain ⟨hn, hk⟩ := sel_and hk
      have hng := noneE_inv gs g hn
      have hrs : rb ∉ rs := by
        intro hmem
        obtain ⟨g', hg', b', q, hl', hgr', hg0', hρ', hq⟩ := hr rb hmem
        have hne : grp L b ≠ grp L b' := by rw [hgrp, hgr']; intro hh; exact hng (hh ▸ hg')
        exact (@Ctx.sim E base H n ρ L w c).sep b b' _ q hρ hρ' hlive hl' (by rw [hgrp]; exact hg0) (by rw [hgr']; exact hg0') hne hq.symm
      obtain ⟨bs, hb1, hb2⟩ := itemsOk_inv c hx l (Nat.shiftRight ch 128) (g :: gs) vs (rb :: rs) (by simpa using hl) hvt hk (fun g' hg' => by
        rcases List.mem_cons.1 hg' with rfl | hg'
        · exact ⟨b, _, hlive, hgrp, hg0, hρ, by simp⟩
        · obtain ⟨b', r, a1, a2, a3, a4, a5⟩ := hg g' hg'
          exact ⟨b', r, a1, a2, a3, a4, by simp [a5]⟩) (fun r hrm => by
        rcases List.mem_cons.1 hrm with rfl | hrm
        · exact ⟨g, by simp, b, _, hlive, hgrp, hg0, hρ, rfl⟩
        · obtain ⟨g', a0, a1⟩ := hr r hrm
          exact ⟨g', by simp [a0], a1⟩)
      exact ⟨rb :: bs, .sum t1 t2 x1 x2 ts rb d cp l vs bs hT1 hT2 hm0 hnr (fun hh => hb2 rb hh (by simp)) hb1, fun r hrm => by
        rcases List.mem_cons.1 hrm with rfl | hrm
        · exact hrs
        · exact fun hh => hb2 r hrm (by simp [hh])⟩
end

/-- what is known of a function that draws -/
structure DrawnK (E : Env) (P : Program) (fd : Nat) (one : Bool) (l : List DI) (j0 : Nat) : Prop where
  known : Known P fd
  calls : ∀ (w : World) (rb d sz c : Nat) (cs : Array Value) (ty : TypeId) (fz : Nat × Nat), w.heap[rb]? = some (.cells cs ty fz) → d + sz ≤ cs.size → (E.lst j0).length ≤ c → c ≤ sz → c < 9223372036854775808 →
    (∀ i, i < (E.lst j0).length → cs[d + i]? = (E.lst j0)[i]?) → 1 ≤ (E.lst j0).length → (E.lst j0).length ≤ 1048576 →
    Calls P fd #[.slice (some ⟨rb, d, none⟩) (E.lst j0).length c] w fun e w' => ∃ x vs bs, e = .returned x ∧ NewItems E w.heap.size w' l vs bs ∧ (one = true → vs = [x]) ∧ (one = false → x = .tuple vs.toArray) ∧ Below w.heap.size w w'

noncomputable def dRun (P : Program) (S0 : Sums) (fo fp fuel d fd : Nat) (j0 : Nat) (tab : Tab) : OR := funE P (callN P (orS (drawS fo fp tab j0) S0) fuel d) fuel fd [wO 0 j0 1 1048576] (hset .nil 0 (.opq j0 1)) 1
/-- ██ What a run draws is known. -/
theorem drawn_of {E : Env} {P : Program} {S0 : Sums} (hS0 : @SumS E P S0) {fo fp tS : Nat} (K : DrawK P fo fp tS) {code : List Int} {j0 : Nat} (hj0 : j0 < 1048576) (hE : @DrawE E code j0) {tab : Tab} (hT : @TabOk E tab) {one : Bool} {l : List DI} {fuel d fd : Nat}
    (h : isDrew one l (dRun P S0 fo fp fuel d fd j0 tab) = true) : ∃ x hx, DrawnK (pvEnv E x hx) P fd one l j0 := by
  cases hr : dRun P S0 fo fp fuel d fd j0 tab with
  | bad q => rw [hr] at h; cases h
  | ok v' H' n' =>
    rw [hr] at h
    -- the cells of what is drawn
    obtain ⟨ch, hch, hdrew⟩ : ∃ ch, itemsOk H' (asgItems H' l ch []) l ch [] = true ∧ (one = true ∧ ch = v' ∧ v' < 2 ^ 128 ∧ l.length = 1 ∨ one = false ∧ tagOf v' = 6 ∧ tget H' (payOf v') = some (.box 1 l.length ch)) := by
      have h : drewC one l v' H' (fun c => itemsOk H' (asgItems H' l c []) l c []) = true := h
      unfold drewC at h
      cases one with
      | true =>
        rw [sel_true, sel_ltb] at h
        split at h
        · rename_i hlt
          rw [sel_beq, lenN_eq] at h
          split at h
          · rename_i h1
            exact ⟨v', h, .inl ⟨rfl, rfl, hlt, h1⟩⟩
          · cases h
        · cases h
      | false =>
        rw [sel_false, sel_beq] at h
        split at h
        · rename_i h6
          split at h
          · rename_i m c hget
            rw [sel_beq, lenN_eq] at h
            split at h
            · rename_i hm
              subst hm
              exact ⟨c, h, .inr ⟨rfl, h6, hget⟩⟩
            · cases h
          · cases h
        · cases h
    refine ⟨fun i => valW E H' (asgGet (asgItems H' l ch []) i), fun i => valW_range E H' _, ?_⟩
    unfold dRun at hr
    refine ⟨known_of hr, ?_⟩
    intro w rb dd sz c cs ty fz hh hsz hlc hcs hbig hcell h1 h2 ccs
    letI : Env := E
    have hrb : rb < w.heap.size := (Array.getElem?_eq_some_iff.1 hh).1
    have hlst : (pvEnv E (fun i => valW E H' (asgGet (asgItems H' l ch []) i)) (fun i => valW_range E H' _)).lst j0 = E.lst j0 := rfl
    rw [hlst] at hlc hcell h1 h2
    have c0 := (Ctx.start w (fun k o h => absurd h (hE.kn k o))).opq (j := j0) (sz := sz) (d := dd) (by omega) hh hrb hsz (by omega) hcell
    have word := VR.opq (ρ := updR (fun _ => none) 0 (rb, dd, sz)) (L := upd (fun _ => none) 0 (.opq j0 1)) 0 j0 1 1048576 rb dd sz c (updR_same _ _ _) hj0 (by omega) (by omega) h1 (.inr h2) hlc hcs hbig
    obtain ⟨ρ2, L2, w', x, c2, _, hb, _, _, hx, _, hc⟩ := funE_sound (callN_sound P (orS_sound (drawS_sound K hE hT) hS0) fuel d) ccs c0 (vs := #[.slice (some ⟨rb, dd, none⟩) (E.lst j0).length c]) (.cons _ _ _ _ word .nil) hr
    obtain ⟨e, W, fr, ⟨he, hW⟩, h3⟩ := hc
    subst hW
    refine ⟨e, W, fr, ?_, h3⟩
    rcases hdrew with ⟨rfl, rfl, hlt, hl1⟩ | ⟨rfl, h6, hget⟩
    · have e0 : getW ch 0 = ch := by rw [getW_eq]; simpa using hlt
      obtain ⟨bs, hb1, _⟩ := itemsOk_inv c2 (fun i => valW_range E H' _) l ch [] [x] [] (by simp [hl1]) (fun i hi => by
        have : i = 0 := by simpa using hi
        subst this
        rw [e0]; exact hx) hch (fun g hg => by cases hg) (fun r hr => by cases hr)
      exact ⟨x, [x], bs, he, hb1, fun _ => rfl, fun hh => (by cases hh), hb⟩
    · obtain ⟨id, kd, m, cc, vs, hw, hp, hL, hk, hs, hcells⟩ := hx.box_inv h6
      have hL2 := c2.agree.2 _ _ hget
      rw [hp, hL] at hL2
      injection hL2 with hL2
      injection hL2 with q1 q2 q3
      subst q1; subst q2; subst q3
      have hxt : x = .tuple vs := by
        rcases hk with ⟨hk, _⟩ | ⟨_, hk⟩
        · omega
        · exact hk
      obtain ⟨bs, hb1, _⟩ := itemsOk_inv c2 (fun i => valW_range E H' _) l cc [] vs.toList [] (by simpa using hs) (fun i hi => by
        have := hcells i (by simpa using hi)
        simpa using this) hch (fun g hg => by cases hg) (fun r hr => by cases hr)
      exact ⟨x, vs.toList, bs, he, hb1, fun hh => (by cases hh), fun _ => by rw [hxt], hb⟩
end Go.Eng
