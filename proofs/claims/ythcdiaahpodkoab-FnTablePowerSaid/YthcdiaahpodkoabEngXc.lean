/- Laws on a code: trees of cases told beforehand. -/
import Derived.Test.YthcdiaahpodkoabEngX
namespace Go.Eng
set_option linter.unusedSectionVars false
set_option linter.unusedSimpArgs false
set_option linter.unusedVariables false
open Go Go.RowKit

/-- parts of a range: nought, one (if told), and all others -/
theorem Covers.two {run : Tab → OR} {tab : Tab} (j : Nat) (hj : okIx j = true) (h0 : Covers run ((j, 0, 0) :: tab)) (h1 : Covers run ((j, 1, j % 4096 - 1) :: tab)) : Covers run tab := by
  intro E code j0 hE hne hT Q hrun
  unfold okIx at hj
  rw [sel_ltb, sel_ble] at hj
  split at hj
  · rename_i hp
    split at hj
    · rename_i hn1
      have hn2 := Nat.le_of_ble_eq_true hj
      have d1 : Nat.div j 4096 = j / 4096 := rfl
      have d2 : Nat.mod j 4096 = j % 4096 := rfl
      rw [d1] at hp
      rw [d2] at hn1 hn2
      have hi := hE.int (j / 4096) (j % 4096) hp hn1 hn2
      have hr := pickv_range (c := code.take 2000) (fun x hx => hE.byte x (List.mem_of_mem_take hx)) (by simp; omega) hp hn1 hn2
      rw [show j / 4096 * 4096 + j % 4096 = j from by omega] at hi
      rw [← hi] at hr
      by_cases hv : E.int j = 0
      · refine h0 E code j0 hE hne ?_ Q hrun
        intro e he
        rcases List.mem_cons.1 he with rfl | he
        · exact .inl ⟨by show (((0 : Nat) : Int)) ≤ E.int j; omega, by show E.int j ≤ (((0 : Nat)) : Int); omega, by show (0 : Nat) < 1000; omega⟩
        · exact hT e he
      · refine h1 E code j0 hE hne ?_ Q hrun
        intro e he
        rcases List.mem_cons.1 he with rfl | he
        · exact .inl ⟨by show (((1 : Nat) : Int)) ≤ E.int j; omega, by show E.int j ≤ (((j % 4096 - 1 : Nat)) : Int); omega, by show j % 4096 - 1 < 1000; omega⟩
        · exact hT e he
    · cases hj
  · cases hj
theorem Covers.three {run : Tab → OR} {tab : Tab} (j : Nat) (hj : okIx j = true) (h0 : Covers run ((j, 0, 0) :: tab)) (h1 : Covers run ((j, 1, 1) :: tab)) (h2 : Covers run ((j, 2, j % 4096 - 1) :: tab)) : Covers run tab := by
  intro E code j0 hE hne hT Q hrun
  unfold okIx at hj
  rw [sel_ltb, sel_ble] at hj
  split at hj
  · rename_i hp
    split at hj
    · rename_i hn1
      have hn2 := Nat.le_of_ble_eq_true hj
      have d1 : Nat.div j 4096 = j / 4096 := rfl
      have d2 : Nat.mod j 4096 = j % 4096 := rfl
      rw [d1] at hp
      rw [d2] at hn1 hn2
      have hi := hE.int (j / 4096) (j % 4096) hp hn1 hn2
      have hr := pickv_range (c := code.take 2000) (fun x hx => hE.byte x (List.mem_of_mem_take hx)) (by simp; omega) hp hn1 hn2
      rw [show j / 4096 * 4096 + j % 4096 = j from by omega] at hi
      rw [← hi] at hr
      by_cases hv : E.int j = 0
      · refine h0 E code j0 hE hne ?_ Q hrun
        intro e he
        rcases List.mem_cons.1 he with rfl | he
        · exact .inl ⟨by show (((0 : Nat) : Int)) ≤ E.int j; omega, by show E.int j ≤ (((0 : Nat)) : Int); omega, by show (0 : Nat) < 1000; omega⟩
        · exact hT e he
      · by_cases hv1 : E.int j = 1
        · refine h1 E code j0 hE hne ?_ Q hrun
          intro e he
          rcases List.mem_cons.1 he with rfl | he
          · exact .inl ⟨by show (((1 : Nat) : Int)) ≤ E.int j; omega, by show E.int j ≤ (((1 : Nat)) : Int); omega, by show (1 : Nat) < 1000; omega⟩
          · exact hT e he
        · refine h2 E code j0 hE hne ?_ Q hrun
          intro e he
          rcases List.mem_cons.1 he with rfl | he
          · exact .inl ⟨by show (((2 : Nat) : Int)) ≤ E.int j; omega, by show E.int j ≤ (((j % 4096 - 1 : Nat)) : Int); omega, by show j % 4096 - 1 < 1000; omega⟩
          · exact hT e he
    · cases hj
  · cases hj

/-! ### numbers that are variables of sums of products -/
noncomputable section
def addPts (js : List Nat) : Nat → Tab → Tab := List.rec (motive := fun _ => Nat → Tab → Tab) (fun _ tab => tab) (fun j _ ih i tab => (j, Nat.add 1000 i, Nat.pred (Nat.mod j 4096)) :: ih (Nat.succ i) tab) js
def tabPlain (tab : Tab) : Bool := List.rec (motive := fun _ => Bool) true (fun e _ ih => sel (ltb e.1 2199023255552) (sel (ltb e.2.1 1000) ih false) false) tab
def jsOk (js : List Nat) : Bool := List.rec (motive := fun _ => Bool) true (fun j _ ih => sel (okIx j) ih false) js
end
theorem okIx_inv {j : Nat} (h : okIx j = true) : j / 4096 < 1000000 ∧ 1 ≤ j % 4096 ∧ j % 4096 ≤ 1000 := by
  unfold okIx at h
  rw [sel_ltb, sel_ble] at h
  split at h
  · rename_i hp
    split at h
    · rename_i hn1
      exact ⟨hp, hn1, Nat.le_of_ble_eq_true h⟩
    · cases h
  · cases h
theorem tabPlain_inv : ∀ {tab : Tab}, tabPlain tab = true → ∀ e ∈ tab, e.1 < 2199023255552 ∧ e.2.1 < 1000
  | [], _, e, he => by cases he
  | u :: tab, h, e, he => by
    have eq : tabPlain (u :: tab) = sel (ltb u.1 2199023255552) (sel (ltb u.2.1 1000) (tabPlain tab) false) false := rfl
    rw [eq, sel_ltb] at h
    split at h
    · rename_i h1
      rw [sel_ltb] at h
      split at h
      · rename_i h2
        rcases List.mem_cons.1 he with rfl | he
        · exact ⟨h1, h2⟩
        · exact tabPlain_inv h e he
      · cases h
    · cases h
theorem jsOk_inv : ∀ {js : List Nat}, jsOk js = true → ∀ j ∈ js, okIx j = true
  | [], _, j, hj => by cases hj
  | u :: js, h, j, hj => by
    have eq : jsOk (u :: js) = sel (okIx u) (jsOk js) false := rfl
    rw [eq, sel_eq] at h
    split at h
    · rename_i h1
      rcases List.mem_cons.1 hj with rfl | hj
      · exact h1
      · exact jsOk_inv h j hj
    · cases h
@[reducible] noncomputable def ptsEnv (E : Env) (js : List Nat) : Env where
  int := fun k => if 2199023255552 ≤ k ∧ k < 2199023255552 + js.length then E.int (js.getD (k - 2199023255552) 0) else E.int k
  lst := E.lst
  wf := fun k => by
    split
    · exact E.wf _
    · exact E.wf _
  len := fun j hj => by
    have e : lenIx j = 1099511627776 + j := rfl
    rw [if_neg (by rw [e]; omega)]
    exact E.len j hj
  byThree := E.byThree
  notThree := E.notThree
theorem ptsEnv_low (E : Env) (js : List Nat) {k : Nat} (hk : k < 2199023255552) : (ptsEnv E js).int k = E.int k := by
  show (if 2199023255552 ≤ k ∧ k < 2199023255552 + js.length then E.int (js.getD (k - 2199023255552) 0) else E.int k) = _
  rw [if_neg (by omega)]
theorem ptsEnv_var (E : Env) (js : List Nat) {i : Nat} (hi : i < js.length) : (ptsEnv E js).int (pvIx i) = E.int (js.getD i 0) := by
  have e3 : pvIx i = 2199023255552 + i := rfl
  show (if 2199023255552 ≤ pvIx i ∧ pvIx i < 2199023255552 + js.length then E.int (js.getD (pvIx i - 2199023255552) 0) else E.int (pvIx i)) = _
  rw [e3, if_pos (by omega), show 2199023255552 + i - 2199023255552 = i from by omega]
/-- ██ Numbers that are drawn may be variables of sums of products. -/
theorem Covers.pts {run : Tab → OR} {tab : Tab} (js : List Nat) (hjs : jsOk js = true) (hp : tabPlain tab = true) (h : Covers run (addPts js 0 tab)) : Covers run tab := by
  intro E code j0 hE hne hT Q hrun
  have hok := jsOk_inv hjs
  have hpl := tabPlain_inv hp
  have hE' : @DrawE (ptsEnv E js) code j0 := @DrawE.mk (ptsEnv E js) code j0 hE.l0 hE.l1 hE.byte (fun p n hp h1 h2 => (ptsEnv_low E js (by omega)).trans (hE.int p n hp h1 h2))
  have key : ∀ (l pre : List Nat), js = pre ++ l → @TabOk (ptsEnv E js) (addPts l pre.length tab) := by
    intro l
    induction l with
    | nil =>
      intro pre _ e he
      have he : e ∈ tab := he
      obtain ⟨h1, h2⟩ := hpl e he
      rcases hT e he with h3 | ⟨h3, _⟩
      · left
        rw [ptsEnv_low E js h1]
        exact h3
      · omega
    | cons j l ih =>
      intro pre hjsl e he
      have he : e ∈ (j, Nat.add 1000 pre.length, Nat.pred (Nat.mod j 4096)) :: addPts l (Nat.succ pre.length) tab := he
      rcases List.mem_cons.1 he with rfl | he
      · right
        have hj := hok j (by rw [hjsl]; simp)
        obtain ⟨o1, o2, o3⟩ := okIx_inv hj
        have e1 : Nat.add 1000 pre.length = 1000 + pre.length := rfl
        have e2 : Nat.pred (Nat.mod j 4096) = j % 4096 - 1 := rfl
        have hjl : j < 2199023255552 := by omega
        have hi := hE.int (j / 4096) (j % 4096) o1 o2 o3
        have hr := pickv_range (c := code.take 2000) (fun x hx => hE.byte x (List.mem_of_mem_take hx)) (by simp; omega) o1 o2 o3
        rw [show j / 4096 * 4096 + j % 4096 = j from by omega] at hi
        rw [← hi] at hr
        simp only [e1, e2]
        have hlen : pre.length < js.length := by rw [hjsl]; simp
        refine ⟨by omega, ?_, by rw [ptsEnv_low E js hjl]; omega, by rw [ptsEnv_low E js hjl]; omega, by omega⟩
        rw [ptsEnv_low E js hjl, show 1000 + pre.length - 1000 = pre.length from by omega, ptsEnv_var E js hlen]
        have : js.getD pre.length 0 = j := by rw [hjsl]; simp [List.getD_eq_getElem?_getD]
        rw [this]
      · exact ih (pre ++ [j]) (by rw [hjsl]; simp) e (by simpa using he)
  exact h (ptsEnv E js) code j0 hE' hne (key js [] rfl) Q (fun E'' hl hd tab' ht hr => hrun E'' (hl.trans rfl) hd tab' ht hr)

/-- A tree of cases: ask on; a number one by one; nought and the others; nought, one and the others. -/
inductive QT where
  | of (k : Nat)
  | part (j : Nat) (f : Nat → QT)
  | two (j : Nat) (a b : QT)
  | three (j : Nat) (a b c : QT)
  | pts (js : List Nat) (t : QT)
noncomputable section
def allB (n : Nat) (f : Nat → Bool) : Bool := Nat.rec (motive := fun _ => Bool) true (fun k ih => sel (f k) ih false) n
def chkQ (run : Tab → OR) (t : QT) : Tab → Bool :=
  QT.rec (motive := fun _ => Tab → Bool) (fun k tab => chkT run k tab)
    (fun j _ ih tab => sel (okIx j) (allB (Nat.mod j 4096) fun v => ih v ((j, v, v) :: tab)) false)
    (fun j _ _ iha ihb tab => sel (okIx j) (sel (iha ((j, 0, 0) :: tab)) (ihb ((j, 1, Nat.pred (Nat.mod j 4096)) :: tab)) false) false)
    (fun j _ _ _ iha ihb ihc tab => sel (okIx j) (sel (iha ((j, 0, 0) :: tab)) (sel (ihb ((j, 1, 1) :: tab)) (ihc ((j, 2, Nat.pred (Nat.mod j 4096)) :: tab)) false) false) false)
    (fun js _ ih tab => sel (jsOk js) (sel (tabPlain tab) (ih (addPts js 0 tab)) false) false) t
end
theorem allB_all {f : Nat → Bool} : ∀ {n : Nat}, allB n f = true → ∀ v, v < n → f v = true
  | 0, _, v, h => by omega
  | n + 1, he, v, h => by
    have e : allB (n + 1) f = sel (f n) (allB n f) false := rfl
    rw [e, sel_eq] at he
    split at he
    · rename_i h1
      by_cases hv : v = n
      · subst hv; exact h1
      · exact allB_all he v (by omega)
    · cases he
theorem sel_and {a b : Bool} (h : sel a b false = true) : a = true ∧ b = true := by
  cases a with
  | true => exact ⟨rfl, h⟩
  | false => cases h
theorem Covers.tree {run : Tab → OR} (t : QT) : ∀ {tab : Tab}, chkQ run t tab = true → Covers run tab := by
  induction t with
  | of k => intro tab h; exact .of k h
  | part j f ih =>
    intro tab h
    have e : chkQ run (.part j f) tab = sel (okIx j) (allB (Nat.mod j 4096) fun v => chkQ run (f v) ((j, v, v) :: tab)) false := rfl
    rw [e] at h
    obtain ⟨h1, h2⟩ := sel_and h
    exact .part j h1 fun v hv => ih v (allB_all h2 v hv)
  | two j a b iha ihb =>
    intro tab h
    have e : chkQ run (.two j a b) tab = sel (okIx j) (sel (chkQ run a ((j, 0, 0) :: tab)) (chkQ run b ((j, 1, Nat.pred (Nat.mod j 4096)) :: tab)) false) false := rfl
    rw [e] at h
    obtain ⟨h1, h2⟩ := sel_and h
    obtain ⟨h2, h3⟩ := sel_and h2
    exact .two j h1 (iha h2) (ihb h3)
  | three j a b c iha ihb ihc =>
    intro tab h
    have e : chkQ run (.three j a b c) tab = sel (okIx j) (sel (chkQ run a ((j, 0, 0) :: tab)) (sel (chkQ run b ((j, 1, 1) :: tab)) (chkQ run c ((j, 2, Nat.pred (Nat.mod j 4096)) :: tab)) false) false) false := rfl
    rw [e] at h
    obtain ⟨h1, h2⟩ := sel_and h
    obtain ⟨h2, h3⟩ := sel_and h2
    obtain ⟨h3, h4⟩ := sel_and h3
    exact .three j h1 (iha h2) (ihb h3) (ihc h4)
  | pts js t ih =>
    intro tab h
    have e : chkQ run (.pts js t) tab = sel (jsOk js) (sel (tabPlain tab) (chkQ run t (addPts js 0 tab)) false) false := rfl
    rw [e] at h
    obtain ⟨h1, h2⟩ := sel_and h
    obtain ⟨h2, h3⟩ := sel_and h2
    exact .pts js h1 h2 (ih h3)
end Go.Eng
