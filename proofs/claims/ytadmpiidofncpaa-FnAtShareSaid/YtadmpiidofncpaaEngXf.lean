/- Part of the evaluator: Xc Xa Xb Xd Xe Xf. -/
import Derived.Test.YtadmpiidofncpaaEngX

/- Laws on a code: trees of cases told beforehand. -/
namespace Go.Eng
set_option linter.unusedSectionVars false
set_option linter.unusedSimpArgs false
set_option linter.unusedVariables false
open Go Go.RowKit

/-- parts of a range: nought, one (if told), and all others -/
theorem Covers.two {run : Tab → OR} {tab : Tab} (j : Nat) (hj : okIx j = true) (h0 : Covers run ((j, 0, 0) :: tab)) (h1 : Covers run ((j, 1, j % 4096 - 1) :: tab)) : Covers run tab := by
  intro E code j0 hE hne hT Q hrun
  unfold okIx at hj
  rw [sel_ltb, sel_ble] at hj
  split at hj
  · rename_i hp
    split at hj
    · rename_i hn1
      have hn2 := Nat.le_of_ble_eq_true hj
      have d1 : Nat.div j 4096 = j / 4096 := rfl
      have d2 : Nat.mod j 4096 = j % 4096 := rfl
      rw [d1] at hp
      rw [d2] at hn1 hn2
      have hi := hE.int (j / 4096) (j % 4096) hp hn1 hn2
      have hr := pickv_range (c := code.take 2000) (fun x hx => hE.byte x (List.mem_of_mem_take hx)) (by simp; omega) hp hn1 hn2
      rw [show j / 4096 * 4096 + j % 4096 = j from by omega] at hi
      rw [← hi] at hr
      by_cases hv : E.int j = 0
      · refine h0 E code j0 hE hne ?_ Q hrun
        intro e he
        rcases List.mem_cons.1 he with rfl | he
        · exact .inl ⟨by show (((0 : Nat) : Int)) ≤ E.int j; omega, by show E.int j ≤ (((0 : Nat)) : Int); omega, by show (0 : Nat) < 1000; omega⟩
        · exact hT e he
      · refine h1 E code j0 hE hne ?_ Q hrun
        intro e he
        rcases List.mem_cons.1 he with rfl | he
        · exact .inl ⟨by show (((1 : Nat) : Int)) ≤ E.int j; omega, by show E.int j ≤ (((j % 4096 - 1 : Nat)) : Int); omega, by show j % 4096 - 1 < 1000; omega⟩
        · exact hT e he
    · cases hj
  · cases hj
theorem Covers.three {run : Tab → OR} {tab : Tab} (j : Nat) (hj : okIx j = true) (h0 : Covers run ((j, 0, 0) :: tab)) (h1 : Covers run ((j, 1, 1) :: tab)) (h2 : Covers run ((j, 2, j % 4096 - 1) :: tab)) : Covers run tab := by
  intro E code j0 hE hne hT Q hrun
  unfold okIx at hj
  rw [sel_ltb, sel_ble] at hj
  split at hj
  · rename_i hp
    split at hj
    · rename_i hn1
      have hn2 := Nat.le_of_ble_eq_true hj
      have d1 : Nat.div j 4096 = j / 4096 := rfl
      have d2 : Nat.mod j 4096 = j % 4096 := rfl
      rw [d1] at hp
      rw [d2] at hn1 hn2
      have hi := hE.int (j / 4096) (j % 4096) hp hn1 hn2
      have hr := pickv_range (c := code.take 2000) (fun x hx => hE.byte x (List.mem_of_mem_take hx)) (by simp; omega) hp hn1 hn2
      rw [show j / 4096 * 4096 + j % 4096 = j from by omega] at hi
      rw [← hi] at hr
      by_cases hv : E.int j = 0
      · refine h0 E code j0 hE hne ?_ Q hrun
        intro e he
        rcases List.mem_cons.1 he with rfl | he
        · exact .inl ⟨by show (((0 : Nat) : Int)) ≤ E.int j; omega, by show E.int j ≤ (((0 : Nat)) : Int); omega, by show (0 : Nat) < 1000; omega⟩
        · exact hT e he
      · by_cases hv1 : E.int j = 1
        · refine h1 E code j0 hE hne ?_ Q hrun
          intro e he
          rcases List.mem_cons.1 he with rfl | he
          · exact .inl ⟨by show (((1 : Nat) : Int)) ≤ E.int j; omega, by show E.int j ≤ (((1 : Nat)) : Int); omega, by show (1 : Nat) < 1000; omega⟩
          · exact hT e he
        · refine h2 E code j0 hE hne ?_ Q hrun
          intro e he
          rcases List.mem_cons.1 he with rfl | he
          · exact .inl ⟨by show (((2 : Nat) : Int)) ≤ E.int j; omega, by show E.int j ≤ (((j % 4096 - 1 : Nat)) : Int); omega, by show j % 4096 - 1 < 1000; omega⟩
          · exact hT e he
    · cases hj
  · cases hj

/-! ### numbers that are variables of sums of products -/
noncomputable section
def addPts (js : List Nat) : Nat → Tab → Tab := List.rec (motive := fun _ => Nat → Tab → Tab) (fun _ tab => tab) (fun j _ ih i tab => (j, Nat.add 1000 i, Nat.pred (Nat.mod j 4096)) :: ih (Nat.succ i) tab) js
def tabPlain (tab : Tab) : Bool := List.rec (motive := fun _ => Bool) true (fun e _ ih => sel (ltb e.1 2199023255552) (sel (ltb e.2.1 1000) ih false) false) tab
def jsOk (js : List Nat) : Bool := List.rec (motive := fun _ => Bool) true (fun j _ ih => sel (okIx j) ih false) js
end
theorem okIx_inv {j : Nat} (h : okIx j = true) : j / 4096 < 1000000 ∧ 1 ≤ j % 4096 ∧ j % 4096 ≤ 1000 := by
  unfold okIx at h
  rw [sel_ltb, sel_ble] at h
  split at h
  · rename_i hp
    split at h
    · rename_i hn1
      exact ⟨hp, hn1, Nat.le_of_ble_eq_true h⟩
    · cases h
  · cases h
theorem tabPlain_inv : ∀ {tab : Tab}, tabPlain tab = true → ∀ e ∈ tab, e.1 < 2199023255552 ∧ e.2.1 < 1000
  | [], _, e, he => by cases he
  | u :: tab, h, e, he => by
    have eq : tabPlain (u :: tab) = sel (ltb u.1 2199023255552) (sel (ltb u.2.1 1000) (tabPlain tab) false) false := rfl
    rw [eq, sel_ltb] at h
    split at h
    · rename_i h1
      rw [sel_ltb] at h
      split at h
      · rename_i h2
        rcases List.mem_cons.1 he with rfl | he
        · exact ⟨h1, h2⟩
        · exact tabPlain_inv h e he
      · cases h
    · cases h
theorem jsOk_inv : ∀ {js : List Nat}, jsOk js = true → ∀ j ∈ js, okIx j = true
  | [], _, j, hj => by cases hj
  | u :: js, h, j, hj => by
    have eq : jsOk (u :: js) = sel (okIx u) (jsOk js) false := rfl
    rw [eq, sel_eq] at h
    split at h
    · rename_i h1
      rcases List.mem_cons.1 hj with rfl | hj
      · exact h1
      · exact jsOk_inv h j hj
    · cases h
@[reducible] noncomputable def ptsEnv (E : Env) (js : List Nat) : Env where
  int := fun k => if 2199023255560 ≤ k ∧ k < 2199023255560 + js.length then E.int (js.getD (k - 2199023255560) 0) else E.int k
  lst := E.lst
  wf := fun k => by
    split
    · exact E.wf _
    · exact E.wf _
  len := fun j hj => by
    have e : lenIx j = 1099511627776 + j := rfl
    rw [if_neg (by rw [e]; omega)]
    exact E.len j hj
  byThree := E.byThree
  notThree := E.notThree
  txt := E.txt
  txtNe := E.txtNe
theorem ptsEnv_low (E : Env) (js : List Nat) {k : Nat} (hk : k < 2199023255552) : (ptsEnv E js).int k = E.int k := by
  show (if 2199023255560 ≤ k ∧ k < 2199023255560 + js.length then E.int (js.getD (k - 2199023255560) 0) else E.int k) = _
  rw [if_neg (by omega)]
theorem ptsEnv_var (E : Env) (js : List Nat) {i : Nat} (hi : i < js.length) : (ptsEnv E js).int (pvIx (8 + i)) = E.int (js.getD i 0) := by
  have e3 : pvIx (8 + i) = 2199023255552 + (8 + i) := rfl
  show (if 2199023255560 ≤ pvIx (8 + i) ∧ pvIx (8 + i) < 2199023255560 + js.length then E.int (js.getD (pvIx (8 + i) - 2199023255560) 0) else E.int (pvIx (8 + i))) = _
  rw [e3, if_pos (by omega), show 2199023255552 + (8 + i) - 2199023255560 = i from by omega]
/-- ██ Numbers that are drawn may be variables of sums of products. -/
theorem Covers.pts {run : Tab → OR} {tab : Tab} (js : List Nat) (hjs : jsOk js = true) (hp : tabPlain tab = true) (h : Covers run (addPts js 8 tab)) : Covers run tab := by
  intro E code j0 hE hne hT Q hrun
  have hok := jsOk_inv hjs
  have hpl := tabPlain_inv hp
  have hE' : @DrawE (ptsEnv E js) code j0 := @DrawE.mk (ptsEnv E js) code j0 hE.l0 hE.l1 hE.byte (fun p n hp h1 h2 => (ptsEnv_low E js (by omega)).trans (hE.int p n hp h1 h2)) (fun p hp => (ptsEnv_low E js (by omega)).trans (hE.num0 p hp)) (fun p hp => (ptsEnv_low E js (by omega)).trans (hE.num1 p hp)) (fun _ _ h => by cases h)
  have key : ∀ (l pre : List Nat), js = pre ++ l → @TabOk (ptsEnv E js) (addPts l (8 + pre.length) tab) := by
    intro l
    induction l with
    | nil =>
      intro pre _ e he
      have he : e ∈ tab := he
      obtain ⟨h1, h2⟩ := hpl e he
      rcases hT e he with h3 | ⟨h3, _⟩
      · left
        rw [ptsEnv_low E js h1]
        exact h3
      · omega
    | cons j l ih =>
      intro pre hjsl e he
      have he : e ∈ (j, Nat.add 1000 (8 + pre.length), Nat.pred (Nat.mod j 4096)) :: addPts l (Nat.succ (8 + pre.length)) tab := he
      rcases List.mem_cons.1 he with rfl | he
      · right
        have hj := hok j (by rw [hjsl]; simp)
        obtain ⟨o1, o2, o3⟩ := okIx_inv hj
        have e1 : Nat.add 1000 (8 + pre.length) = 1000 + (8 + pre.length) := rfl
        have e2 : Nat.pred (Nat.mod j 4096) = j % 4096 - 1 := rfl
        have hjl : j < 2199023255552 := by omega
        have hi := hE.int (j / 4096) (j % 4096) o1 o2 o3
        have hr := pickv_range (c := code.take 2000) (fun x hx => hE.byte x (List.mem_of_mem_take hx)) (by simp; omega) o1 o2 o3
        rw [show j / 4096 * 4096 + j % 4096 = j from by omega] at hi
        rw [← hi] at hr
        simp only [e1, e2]
        have hlen : pre.length < js.length := by rw [hjsl]; simp
        refine ⟨by omega, ?_, by rw [ptsEnv_low E js hjl]; omega, by rw [ptsEnv_low E js hjl]; omega, by omega⟩
        rw [ptsEnv_low E js hjl, show 1000 + (8 + pre.length) - 1000 = 8 + pre.length from by omega, ptsEnv_var E js hlen]
        have : js.getD pre.length 0 = j := by rw [hjsl]; simp [List.getD_eq_getElem?_getD]
        rw [this]
      · exact ih (pre ++ [j]) (by rw [hjsl]; simp) e (by rw [show 8 + (pre ++ [j]).length = Nat.succ (8 + pre.length) from by simp; omega]; exact he)
  exact h (ptsEnv E js) code j0 hE' hne (key js [] rfl) Q (fun E'' hl hd tab' ht hr => hrun E'' (hl.trans rfl) hd tab' ht hr)

/-- A tree of cases: ask on; a number one by one; nought and the others; nought, one and the others. -/
inductive QT where
  | of (k : Nat)
  | part (j : Nat) (f : Nat → QT)
  | two (j : Nat) (a b : QT)
  | three (j : Nat) (a b c : QT)
  | pts (js : List Nat) (t : QT)
noncomputable section
def allB (n : Nat) (f : Nat → Bool) : Bool := Nat.rec (motive := fun _ => Bool) true (fun k ih => sel (f k) ih false) n
def chkQ (run : Tab → OR) (t : QT) : Tab → Bool :=
  QT.rec (motive := fun _ => Tab → Bool) (fun k tab => chkT run k tab)
    (fun j _ ih tab => sel (okIx j) (allB (Nat.mod j 4096) fun v => ih v ((j, v, v) :: tab)) false)
    (fun j _ _ iha ihb tab => sel (okIx j) (sel (iha ((j, 0, 0) :: tab)) (ihb ((j, 1, Nat.pred (Nat.mod j 4096)) :: tab)) false) false)
    (fun j _ _ _ iha ihb ihc tab => sel (okIx j) (sel (iha ((j, 0, 0) :: tab)) (sel (ihb ((j, 1, 1) :: tab)) (ihc ((j, 2, Nat.pred (Nat.mod j 4096)) :: tab)) false) false) false)
    (fun js _ ih tab => sel (jsOk js) (sel (tabPlain tab) (ih (addPts js 8 tab)) false) false) t
end
theorem allB_all {f : Nat → Bool} : ∀ {n : Nat}, allB n f = true → ∀ v, v < n → f v = true
  | 0, _, v, h => by omega
  | n + 1, he, v, h => by
    have e : allB (n + 1) f = sel (f n) (allB n f) false := rfl
    rw [e, sel_eq] at he
    split at he
    · rename_i h1
      by_cases hv : v = n
      · subst hv; exact h1
      · exact allB_all he v (by omega)
    · cases he
theorem sel_and {a b : Bool} (h : sel a b false = true) : a = true ∧ b = true := by
  cases a with
  | true => exact ⟨rfl, h⟩
  | false => cases h
theorem Covers.tree {run : Tab → OR} (t : QT) : ∀ {tab : Tab}, chkQ run t tab = true → Covers run tab := by
  induction t with
  | of k => intro tab h; exact .of k h
  | part j f ih =>
    intro tab h
    have e : chkQ run (.part j f) tab = sel (okIx j) (allB (Nat.mod j 4096) fun v => chkQ run (f v) ((j, v, v) :: tab)) false := rfl
    rw [e] at h
    obtain ⟨h1, h2⟩ := sel_and h
    exact .part j h1 fun v hv => ih v (allB_all h2 v hv)
  | two j a b iha ihb =>
    intro tab h
    have e : chkQ run (.two j a b) tab = sel (okIx j) (sel (chkQ run a ((j, 0, 0) :: tab)) (chkQ run b ((j, 1, Nat.pred (Nat.mod j 4096)) :: tab)) false) false := rfl
    rw [e] at h
    obtain ⟨h1, h2⟩ := sel_and h
    obtain ⟨h2, h3⟩ := sel_and h2
    exact .two j h1 (iha h2) (ihb h3)
  | three j a b c iha ihb ihc =>
    intro tab h
    have e : chkQ run (.three j a b c) tab = sel (okIx j) (sel (chkQ run a ((j, 0, 0) :: tab)) (sel (chkQ run b ((j, 1, 1) :: tab)) (chkQ run c ((j, 2, Nat.pred (Nat.mod j 4096)) :: tab)) false) false) false := rfl
    rw [e] at h
    obtain ⟨h1, h2⟩ := sel_and h
    obtain ⟨h2, h3⟩ := sel_and h2
    obtain ⟨h3, h4⟩ := sel_and h3
    exact .three j h1 (iha h2) (ihb h3) (ihc h4)
  | pts js t ih =>
    intro tab h
    have e : chkQ run (.pts js t) tab = sel (jsOk js) (sel (tabPlain tab) (chkQ run t (addPts js 8 tab)) false) false := rfl
    rw [e] at h
    obtain ⟨h1, h2⟩ := sel_and h
    obtain ⟨h2, h3⟩ := sel_and h2
    exact .pts js h1 h2 (ih h3)
end Go.Eng

/- What is known of calls by what their arguments hold: results that have been found once. -/
namespace Go.Eng
set_option linter.unusedSectionVars false
set_option linter.unusedSimpArgs false
set_option linter.unusedVariables false
open Go Go.RowKit

noncomputable section
/-- a word that stands for one value, wherever it is met -/
def litW (w : Nat) : Bool := sel (ltb w 340282366920938463463374607431768211456) (sel (Nat.beq (tagOf w) 1) (ltb (payOf w) 18446744073709551616) (sel (Nat.beq w 18) true (sel (Nat.beq w 2) true (Nat.beq (tagOf w) 8)))) false
def litV (w : Nat) : Value := if tagOf w = 1 then .int .i64 (sInt (payOf w)) else if w = 18 then .bool true else if w = 2 then .bool false else .func (.func (payOf w)) #[] #[]
/-- what an argument holds: a word; a slice of n elements of e cells; a struct or an array; a closure with places of one cell each -/
inductive Sh where
  | lit (w : Nat)
  | row (e n c : Nat)
  | agg (m c : Nat)
  | clo (f : Nat) (cs : List Nat)

def allLit (m c : Nat) : Bool := Nat.rec (motive := fun _ => Nat → Bool) (fun _ => true) (fun _ ih c => sel (litW (getW c 0)) (ih (Nat.shiftRight c 128)) false) m c
/-- the places i, i + 1 and so on of a closure lead to cells that hold these words -/
def matchC (H : Trie) (c : Nat) (cs : List Nat) : Nat → Bool :=
  List.rec (motive := fun _ => Nat → Bool) (fun _ => true)
    (fun x _ ih i => sel (sel (litW x) (sel (Nat.beq (tagOf (getW c i)) 3) (sel (Nat.beq (pBlk (payOf (getW c i))) 0) false (Nat.beq (rd H (Nat.pred (pBlk (payOf (getW c i)))) (pOff (payOf (getW c i)))) x)) false) false) (ih (Nat.succ i)) false) cs
def matchS (H : Trie) (w : Nat) (s : Sh) : Bool :=
  Sh.rec (motive := fun _ => Bool) (fun u => sel (Nat.beq w u) (litW u) false)
    (fun e n c => sel (sel (Nat.beq (tagOf w) 4) (sel (Nat.beq (sLen (payOf w)) n) (sel (Nat.beq (sEs (payOf w)) e) (sel (Nat.beq n 0) false (sel (Nat.beq (sBlk (payOf w)) 0) false true)) false) false) false)
      (match rdRange H (Nat.pred (sBlk (payOf w))) (sOff (payOf w)) (Nat.mul n e) with | .some c' => sel (Nat.beq c' c) (allLit (Nat.mul n e) c) false | .none => false) false)
    (fun m c => sel (Nat.beq (tagOf w) 6) (match tget H (payOf w) with | some (.box 0 m' c') => sel (Nat.beq m' m) (sel (Nat.beq c' c) (allLit m c) false) false | _ => false) false)
    (fun f cs => sel (Nat.beq (tagOf w) 10) (match tget H (payOf w) with | some (.box 2 m c) => sel (Nat.beq m (lenN cs)) (sel (Nat.beq (getW c 0) f) (matchC H c cs 1) false) false | _ => false) false) s
def matchL (H : Trie) (l : List Sh) : List Nat → Bool :=
  List.rec (motive := fun _ => List Nat → Bool) (fun ws => match ws with | [] => true | _ => false)
    (fun s _ ih ws => match ws with | [] => false | w :: ws => sel (matchS H w s) (ih ws) false) l

abbrev Memo := Nat × List Sh × Nat
/-- what has been found, as what is known beforehand -/
def memoS (l : List Memo) : Sums := fun f args H n =>
  List.rec (motive := fun _ => SR) .no (fun e _ ih => sel (sel (Nat.beq e.1 f) (matchL H e.2.1 args) false) (.yes (.ok e.2.2 H n)) ih) l

/-- the state in which the arguments hold that -/
structure Lay where
  H : Trie
  n : Nat
  ws : List Nat
def layC (cs : List Nat) : Trie → Nat → List Nat → Lay :=
  List.rec (motive := fun _ => Trie → Nat → List Nat → Lay) (fun H n ws => ⟨H, n, ws⟩)
    (fun x _ ih H n ws => ih (hset H n (.cells 1 x 0 0 0 0)) (Nat.succ n) (ws ++ [wP n 0])) cs
def layS (s : Sh) (H : Trie) (n : Nat) (k : Nat → Trie → Nat → Lay) : Lay :=
  Sh.rec (motive := fun _ => Lay) (fun u => k u H n)
    (fun e m c => k (wS n e 0 m 0) (hset H n (.cells (Nat.mul m e) c 0 0 0 0)) (Nat.succ n))
    (fun m c => k (mk 6 n) (hset H n (.box 0 m c)) (Nat.succ n))
    (fun f cs => let y := layC cs H n []
      k (mk 10 y.n) (hset y.H y.n (.box 2 (lenN cs) (listW (f :: y.ws)))) (Nat.succ y.n)) s
def layL (l : List Sh) : Trie → Nat → List Nat → Lay :=
  List.rec (motive := fun _ => Trie → Nat → List Nat → Lay) (fun H n ws => ⟨H, n, ws⟩)
    (fun s _ ih H n ws => layS s H n fun w H' n' => ih H' n' (ws ++ [w])) l
def shOk (l : List Sh) : Bool := List.rec (motive := fun _ => Bool) true (fun s _ ih => Sh.rec (motive := fun _ => Bool) (fun _ => ih) (fun _ _ _ => ih) (fun _ _ => ih) (fun f _ => sel (ltb f 1000000) ih false) s) l
def memoRun (P : Program) (S : Sums) (fuel d f : Nat) (l : List Sh) : OR := let y := layL l .nil 0 []; sel (sel (shOk l) (ltb y.n 1000) false) (funE P (callN P S fuel d) fuel f y.ws y.H y.n) (.bad 0)
def isWord (v : Nat) (r : OR) : Bool := match r with | .ok v' _ _ => sel (Nat.beq v' v) (sel (Nat.beq (tagOf v) 1) (ltb (payOf v) 18446744073709551616) (sel (Nat.beq v 18) true (Nat.beq v 2))) false | .bad _ => false
end

/-! ### what is held, in a world -/
def LitAt (w : World) (a : Addr) (u : Nat) : Prop := litW u = true ∧ ∃ cs ty fz, a.spot = none ∧ w.heap[a.block]? = some (.cells cs ty fz) ∧ cs[a.off]? = some (litV u)
def HoldsS (w : World) (s : Sh) (v : Value) : Prop :=
  match s with
  | .lit u => litW u = true ∧ v = litV u
  | .row e n c => 0 < n ∧ e < 256 ∧ n < 1048576 ∧ ∃ rb d cp cs ty fz, v = .slice (some ⟨rb, d, none⟩) n cp ∧ n ≤ cp ∧ cp < 9223372036854775808 ∧ w.heap[rb]? = some (.cells cs ty fz) ∧ d + cp * e ≤ cs.size ∧
      ∀ i, i < n * e → litW (getW c i) = true ∧ cs[d + i]? = some (litV (getW c i))
  | .agg m c => ∃ vs : Array Value, v = .agg vs ∧ vs.size = m ∧ c < 2 ^ (128 * m) ∧ ∀ i, i < m → litW (getW c i) = true ∧ vs[i]? = some (litV (getW c i))
  | .clo f cs => ∃ vs : Array Value, v = .func (.func f) #[] vs ∧ vs.size = cs.length ∧ ∀ (i x : Nat), cs[i]? = some x → ∃ a : Addr, vs[i]? = some (Value.pointer (some a)) ∧ LitAt w a x
inductive HoldsL (w : World) : List Sh → List Value → Prop
  | nil : HoldsL w [] []
  | cons (s : Sh) (v : Value) (l : List Sh) (vs : List Value) : HoldsS w s v → HoldsL w l vs → HoldsL w (s :: l) (v :: vs)

/-- Called with what holds that, it comes back with that word. -/
structure MemoK (P : Program) (e : Memo) : Prop where
  known : Known P e.1
  lit : tagOf e.2.2 = 1 ∧ payOf e.2.2 < 18446744073709551616 ∨ e.2.2 = 18 ∨ e.2.2 = 2
  calls : ∀ (w : World) (vs : Array Value), HoldsL w e.2.1 vs.toList → Calls P e.1 vs w fun r w' => r = .returned (litV e.2.2) ∧ Below w.heap.size w w'

section
variable [E : Env]
theorem litW_in {u : Nat} (h : litW u = true) : sel (Nat.beq (tagOf u) 1) (ltb (payOf u) 18446744073709551616) (sel (Nat.beq u 18) true (sel (Nat.beq u 2) true (Nat.beq (tagOf u) 8))) = true := by
  unfold litW at h
  rw [sel_ltb] at h
  split at h
  · exact h
  · cases h
theorem litW_lt {u : Nat} (h : litW u = true) : u < 2 ^ 128 := by
  unfold litW at h
  rw [sel_ltb] at h
  split at h
  · assumption
  · cases h
theorem litV_vr {ρ : Rho} {L : Look} {u : Nat} (h : litW u = true) : VR ρ L u (litV u) := by
  have h := litW_in h
  unfold litV
  rw [sel_beq] at h
  split at h
  · rename_i h1
    rw [if_pos h1]
    have hp := (ltb_iff _ _).1 h
    have := VR.int (ρ := ρ) (L := L) (payOf u) hp
    have hw : wI (payOf u) = u := by have := wordOf u; rw [h1] at this; exact this.symm
    rw [hw] at this
    exact this
  · rename_i h1
    rw [if_neg h1]
    rw [sel_beq] at h
    split at h
    · rename_i h2; rw [if_pos h2, h2]; exact .bool true
    · rename_i h2
      rw [if_neg h2]
      rw [sel_beq] at h
      split at h
      · rename_i h3; rw [if_pos h3, h3]; exact .bool false
      · rename_i h3
        rw [if_neg h3]
        have h8 := Nat.eq_of_beq_eq_true h
        have := VR.fn (ρ := ρ) (L := L) (payOf u)
        have hw : mk 8 (payOf u) = u := by have := wordOf u; rw [h8] at this; exact this.symm
        rw [hw] at this
        exact this
theorem litV_of {ρ : Rho} {L : Look} {u : Nat} {v : Value} (h : litW u = true) (hv : VR ρ L u v) : v = litV u := by
  have h := litW_in h
  unfold litV
  rw [sel_beq] at h
  split at h
  · rename_i h1
    rw [if_pos h1]
    obtain ⟨p, _, _, hp, rfl⟩ := hv.int_inv h1
    rw [hp]
  · rename_i h1
    rw [if_neg h1]
    rw [sel_beq] at h
    split at h
    · rename_i h2; rw [if_pos h2]; subst h2; exact hv.true_inv
    · rename_i h2
      rw [if_neg h2]
      rw [sel_beq] at h
      split at h
      · rename_i h3; rw [if_pos h3]; subst h3; exact hv.false_inv
      · rename_i h3
        rw [if_neg h3]
        exact hv.fn_inv (Nat.eq_of_beq_eq_true h)

theorem getW_shift (c i : Nat) : getW (Nat.shiftRight c 128) i = getW c (i + 1) := by
  apply Nat.eq_of_testBit_eq
  intro k
  rw [getW_testBit, getW_testBit]
  have : (Nat.shiftRight c 128).testBit (128 * i + k) = c.testBit (128 + (128 * i + k)) := Nat.testBit_shiftRight ..
  rw [this, show 128 * (i + 1) + k = 128 + (128 * i + k) from by omega]
theorem allLit_iff : ∀ (m c : Nat), allLit m c = true → ∀ i, i < m → litW (getW c i) = true
  | 0, _, _, i, hi => by omega
  | m + 1, c, h, i, hi => by
    have e : allLit (m + 1) c = sel (litW (getW c 0)) (allLit m (Nat.shiftRight c 128)) false := rfl
    rw [e, sel_eq] at h
    split at h
    · rename_i h0
      cases i with
      | zero => exact h0
      | succ i =>
        have := allLit_iff m _ h i (by omega)
        rw [getW_shift] at this; exact this
    · cases h

section
variable {base : Nat} {H : Trie} {n : Nat} {ρ : Rho} {L : Look} {w : World}
theorem rd_block (c : Ctx base H n ρ L w) {b o rb d sz : Nat} (hb : ρ b = some (rb, d, sz)) (h : tagOf (rd H b o) ≠ 15) :
    ∃ cs ty fz v, w.heap[rb]? = some (.cells cs ty fz) ∧ cs[d + o]? = some v ∧ VR ρ L (rd H b o) v := by
  obtain ⟨v, hc, hv⟩ := rd_sound c hb h
  unfold World.cell? at hc
  split at hc
  · rename_i cs ty fz hh
    exact ⟨cs, ty, fz, v, hh, by simpa using hc, hv⟩
  · cases hc
theorem matchC_holds (c : Ctx base H n ρ L w) {ch : Nat} {vs : Array Value} (hv : ∀ i (h : i < vs.size), VR ρ L (getW ch (i + 1)) vs[i]) : ∀ (cs : List Nat) (i : Nat), matchC H ch cs (i + 1) = true → i + cs.length ≤ vs.size →
    ∀ (j x : Nat), cs[j]? = some x → ∃ a : Addr, vs[i + j]? = some (Value.pointer (some a)) ∧ LitAt w a x
  | [], i, h, hl, j, x, hj => by simp at hj
  | y :: cs, i, h, hl, j, x, hj => by
    simp only [List.length_cons] at hl
    have e : matchC H ch (y :: cs) (i + 1) = sel (sel (litW y) (sel (Nat.beq (tagOf (getW ch (i + 1))) 3) (sel (Nat.beq (pBlk (payOf (getW ch (i + 1)))) 0) false (Nat.beq (rd H (Nat.pred (pBlk (payOf (getW ch (i + 1))))) (pOff (payOf (getW ch (i + 1))))) y)) false) false) (matchC H ch cs (i + 1 + 1)) false := rfl
    rw [e, sel_eq] at h
    split at h
    · rename_i h1
      cases j with
      | succ j =>
        have := matchC_holds c hv cs (i + 1) h (by omega) j x (by simpa using hj)
        rwa [show i + 1 + j = i + (j + 1) from by omega] at this
      | zero =>
        simp only [List.getElem?_cons_zero, Option.some.injEq] at hj
        subst hj
        rw [sel_eq] at h1
        split at h1
        · rename_i hl1
          rw [sel_beq] at h1
          split at h1
          · rename_i h3
            rw [sel_beq] at h1
            split at h1
            · cases h1
            · rename_i hnz
              have hrd := Nat.eq_of_beq_eq_true h1
              have hi : i < vs.size := by omega
              rcases (hv i hi).ptr_inv h3 with ⟨h4, _⟩ | ⟨b, off, rb, d, sz, hb, ho, hw, hvv⟩
              · rw [h4] at hnz; exact absurd rfl hnz
              · obtain ⟨_, p2, p3⟩ := p_parts b off ho
                rw [hw, p2, p3, Nat.pred_succ] at hrd
                have hne : tagOf (rd H b off) ≠ 15 := by
                  rw [hrd]
                  intro hb15
                  have := litV_vr (ρ := ρ) (L := L) hl1
                  exact this.notBad hb15
                obtain ⟨cs', ty, fz, v, g1, g2, g3⟩ := rd_block c hb hne
                rw [hrd] at g3
                refine ⟨⟨rb, d + off, none⟩, by rw [Nat.add_zero, Array.getElem?_eq_getElem hi, hvv], hl1, cs', ty, fz, rfl, g1, ?_⟩
                rw [g2, litV_of hl1 g3]
          · cases h1
        · cases h1
    · cases h

theorem matchS_holds (c : Ctx base H n ρ L w) {x : Nat} {v : Value} (hx : VR ρ L x v) : ∀ (s : Sh), matchS H x s = true → HoldsS w s v := by
  intro s h
  cases s with
  | lit u =>
    have e : matchS H x (.lit u) = sel (Nat.beq x u) (litW u) false := rfl
    rw [e, sel_beq] at h
    split at h
    · rename_i hxu; subst hxu; exact ⟨h, litV_of h hx⟩
    · cases h
  | row e m ch =>
    have e0 : matchS H x (.row e m ch) = sel (sel (Nat.beq (tagOf x) 4) (sel (Nat.beq (sLen (payOf x)) m) (sel (Nat.beq (sEs (payOf x)) e) (sel (Nat.beq m 0) false (sel (Nat.beq (sBlk (payOf x)) 0) false true)) false) false) false)
      (match rdRange H (Nat.pred (sBlk (payOf x))) (sOff (payOf x)) (Nat.mul m e) with | .some c' => sel (Nat.beq c' ch) (allLit (Nat.mul m e) ch) false | .none => false) false := rfl
    rw [e0, sel_eq] at h
    split at h
    · rename_i h1
      rw [sel_beq] at h1
      split at h1
      · rename_i h4
        rw [sel_beq] at h1
        split at h1
        · rename_i hlen
          rw [sel_beq] at h1
          split at h1
          · rename_i hes
            rw [sel_beq] at h1
            split at h1
            · cases h1
            · rename_i hm0
              rw [sel_beq] at h1
              split at h1
              · cases h1
              · rename_i hbn
                split at h
                · rename_i c' hrd
                  rw [sel_beq] at h
                  split at h
                  · rename_i hcc
                    subst hcc
                    rcases hx.slice_inv h4 with ⟨rfl, _⟩ | ⟨b, es, off, m', k, rb, d, sz, cp, a, hb, he, ho, hm, hk, hmc, hbig, hk1, hcp, rfl, rfl⟩
                    · exact absurd s_nil.2.2.2.2.2 hbn
                    · obtain ⟨_, q1, q2, q3, q4, q5⟩ := s_parts b es off m' k he ho hm hk
                      rw [q5, q3, Nat.pred_succ] at hrd
                      rw [q1] at hlen
                      rw [q4] at hes
                      subst hlen; subst hes
                      obtain ⟨vs, ro⟩ := rdRange_sound c hb hrd
                      have hcp2 := hcp.resolve_left (by omega)
                      -- the block
                      have hblk : ∃ cs ty fz, w.heap[rb]? = some (.cells cs ty fz) ∧ d + sz ≤ cs.size := by
                        unfold rdRange at hrd
                        split at hrd
                        · rename_i nb cb g keep since mx hget
                          rw [sel_ble] at hrd
                          split at hrd
                          · rw [sel_eq] at hrd
                            split at hrd
                            · rename_i hval
                              have hL := c.agree.2 _ _ hget
                              have hl := validE_iff c.agree hL hval
                              obtain ⟨kk, hk2, hbr⟩ := c.sim.blk b _ hb
                              rw [hL] at hk2; injection hk2 with hk2; subst hk2
                              obtain ⟨cs, ty, fz, g1, g2, _⟩ := hbr hl
                              exact ⟨cs, ty, fz, g1, g2⟩
                            · cases hrd
                          · cases hrd
                        · cases hrd
                      obtain ⟨cs, ty, fz, g1, g2⟩ := hblk
                      refine ⟨by omega, he, hm, rb, d + off, cp, cs, ty, fz, by rw [hcp2.1], hmc, hbig, g1, by have := hcp2.2; omega, fun i hi => ?_⟩
                      have hli := allLit_iff _ _ h i hi
                      refine ⟨hli, ?_⟩
                      have hil : i < vs.length := by rw [ro.len]; exact hi
                      obtain ⟨r1, _⟩ := ro.word i vs[i] (List.getElem?_eq_getElem hil)
                      have r2 := ro.cell i vs[i] (List.getElem?_eq_getElem hil)
                      rw [addr_add, cell_of_heap g1] at r2
                      rw [r2, litV_of hli r1]
                  · cases h
                · cases h
          · cases h1
        · cases h1
      · cases h1
    · cases h
  | agg m ch =>
    have e0 : matchS H x (.agg m ch) = sel (Nat.beq (tagOf x) 6) (match tget H (payOf x) with | some (.box 0 m' c') => sel (Nat.beq m' m) (sel (Nat.beq c' ch) (allLit m ch) false) false | _ => false) false := rfl
    rw [e0, sel_beq] at h
    split at h
    · rename_i h6
      split at h
      · rename_i m' c' hget
        rw [sel_beq] at h
        split at h
        · rename_i hm
          rw [sel_beq] at h
          split at h
          · rename_i hc
            subst hm; subst hc
            obtain ⟨vs, rfl, hcr⟩ := hx.agg_inv h6 (c.agree.2 _ _ hget)
            refine ⟨vs, rfl, hcr.1, hcr.2.1, fun i hi => ?_⟩
            have hli := allLit_iff _ _ h i hi
            obtain ⟨u, a, b, _⟩ := hcr.2.2 i hi
            exact ⟨hli, by rw [a, litV_of hli b]⟩
          · cases h
        · cases h
      · cases h
    · cases h
  | clo f cs =>
    have e0 : matchS H x (.clo f cs) = sel (Nat.beq (tagOf x) 10) (match tget H (payOf x) with | some (.box 2 m c) => sel (Nat.beq m (lenN cs)) (sel (Nat.beq (getW c 0) f) (matchC H c cs 1) false) false | _ => false) false := rfl
    rw [e0, sel_beq] at h
    split at h
    · rename_i h10
      split at h
      · rename_i m ch hget
        rw [sel_beq] at h
        split at h
        · rename_i hm
          rw [sel_beq] at h
          split at h
          · rename_i hf
            obtain ⟨m', c', vs, hL, hsz, hvs, rfl⟩ := hx.clo_inv h10 ⟨_, _, c.agree.2 _ _ hget⟩
            have := c.agree.2 _ _ hget
            rw [hL] at this; injection this with this; injection this with _ e1 e2
            subst e1; subst e2
            rw [lenN_eq] at hm
            refine ⟨vs, by rw [hf], by rw [hsz, hm], fun i x hi => ?_⟩
            have := matchC_holds c hvs cs 0 h (by rw [hsz, hm]; omega) i x hi
            rwa [Nat.zero_add] at this
          · cases h
        · cases h
      · cases h
    · cases h
theorem matchL_holds (c : Ctx base H n ρ L w) : ∀ (l : List Sh) (ws : List Nat) (vs : List Value), AR ρ L ws vs → matchL H l ws = true → HoldsL w l vs
  | [], ws, vs, ha, h => by
    cases ha with
    | nil => exact .nil
    | cons => cases h
  | s :: l, ws, vs, ha, h => by
    cases ha with
    | nil => cases h
    | cons x v xs vs' hx ha' =>
      have e : matchL H (s :: l) (x :: xs) = sel (matchS H x s) (matchL H l xs) false := rfl
      rw [e, sel_eq] at h
      split at h
      · rename_i h1
        exact .cons _ _ _ _ (matchS_holds c hx s h1) (matchL_holds c l xs vs' ha' h)
      · cases h

/-- What was there is there still. -/
theorem Ctx.later {W : World} (c : Ctx base H n ρ L w) (hb : Below w.heap.size w W) : Ctx base H n ρ L W := by
  have hs := c.sim
  refine ⟨⟨fun b r h => ?_, hs.sep, hs.same, hs.mx, hs.rw, hs.ro, fun b r h => Nat.lt_of_lt_of_le (hs.bnd b r h) hb.size, Nat.le_trans hs.bs hb.size, hs.ld, hs.kind, hs.pol, hs.rk, fun k o h => (hb.block _ (Array.getElem?_eq_some_iff.1 (hs.kp k o h)).1).trans (hs.kp k o h)⟩, c.agree, c.fresh⟩
  obtain ⟨k, h1, h2⟩ := hs.blk b r h
  exact ⟨k, h1, fun hl => (h2 hl).mono (Ext.refl _ _) (hb.block _ (hs.bnd b r h))⟩
end
end

theorem memoS_always {P : Program} : ∀ (l : List Memo), (∀ e ∈ l, MemoK P e) → Always P (memoS l) := by
  intro l hl E base H n ρ L w f args vs v H' n' cs c ha h
  induction l with
  | nil => cases h
  | cons e l ih =>
    have e0 : memoS (e :: l) f args H n = sel (sel (Nat.beq e.1 f) (matchL H e.2.1 args) false) (.yes (.ok e.2.2 H n)) (memoS l f args H n) := rfl
    rw [e0, sel_eq] at h
    split at h
    · rename_i h1
      rw [sel_beq] at h1
      split at h1
      · rename_i hf
        injection h with h
        injection h with q1 q2 q3
        subst q1; subst q2; subst q3
        have K := hl e List.mem_cons_self
        have hh := matchL_holds c e.2.1 args vs.toList ha h1
        obtain ⟨r, W, ⟨hr, hb⟩, hcall⟩ := calls_at (K.calls w vs hh) cs
        subst hr
        rw [← hf]
        have hlit : litW e.2.2 = true := by
          unfold litW
          rcases K.lit with ⟨h1, h2⟩ | h1 | h1
          · rw [sel_ltb, if_pos (by have := wordOf e.2.2; rw [h1, mk_eq] at this; omega), h1, sel_beq, if_pos rfl]; exact (ltb_iff _ _).2 h2
          · rw [h1]; rfl
          · rw [h1]; rfl
        have hbase : Below base w W := hb.mono c.sim.bs
        exact ⟨ρ, L, W, _, c.later hb, .refl _ _, hbase, .refl _ _ _ _, Nat.le_refl _, litV_vr hlit, K.known, hcall⟩
      · cases h1
    · exact ih (fun e he => hl e (List.mem_cons_of_mem _ he)) h

section
variable [E : Env]
theorem litW_storable {u : Nat} (h : litW u = true) : storable u = true := by
  have hlt := litW_lt h
  have h := litW_in h
  rw [storable_iff]
  rw [sel_beq] at h
  split at h
  · rename_i h1; exact ⟨by omega, by omega, by omega, hlt⟩
  · rw [sel_beq] at h
    split at h
    · rename_i h2; subst h2; exact ⟨by decide, by decide, by decide, hlt⟩
    · rw [sel_beq] at h
      split at h
      · rename_i h3; subst h3; exact ⟨by decide, by decide, by decide, hlt⟩
      · have h8 := Nat.eq_of_beq_eq_true h
        exact ⟨by omega, by omega, by omega, hlt⟩

variable {ρ : Rho} {L : Look} {w : World}
theorem layC_le : ∀ (cs : List Nat) (H : Trie) (n : Nat) (ws : List Nat), (layC cs H n ws).n = n + cs.length ∧ (layC cs H n ws).ws.length = ws.length + cs.length
  | [], H, n, ws => ⟨rfl, rfl⟩
  | x :: cs, H, n, ws => by
    have e : layC (x :: cs) H n ws = layC cs (hset H n (.cells 1 x 0 0 0 0)) (n + 1) (ws ++ [wP n 0]) := rfl
    rw [e]
    obtain ⟨h1, h2⟩ := layC_le cs (hset H n (.cells 1 x 0 0 0 0)) (n + 1) (ws ++ [wP n 0])
    rw [h1, h2]
    simp; omega
theorem layC_sound : ∀ (cs : List Nat) (H : Trie) (n : Nat) (ws : List Nat) (ρ : Rho) (L : Look) (vs us : List Value), Ctx w.heap.size H n ρ L w → n + cs.length < 16384 → AR ρ L ws us → (∀ x ∈ ws, x < 2 ^ 128) → vs.length = cs.length →
    (∀ (i x : Nat), cs[i]? = some x → ∃ a : Addr, vs[i]? = some (Value.pointer (some a)) ∧ LitAt w a x) →
    ∃ ρ' L', Ctx w.heap.size (layC cs H n ws).H (layC cs H n ws).n ρ' L' w ∧ Ext ρ L ρ' L' ∧ AR ρ' L' (layC cs H n ws).ws (us ++ vs) ∧ ∀ x ∈ (layC cs H n ws).ws, x < 2 ^ 128
  | [], H, n, ws, ρ, L, vs, us, c, hn, ha, hs, hl, h => by
    have : vs = [] := List.eq_nil_of_length_eq_zero (by simpa using hl)
    subst this
    exact ⟨ρ, L, c, .refl _ _, by rw [List.append_nil]; exact ha, hs⟩
  | x :: cs, H, n, ws, ρ, L, vs, us, c, hn, ha, hs, hl, h => by
    simp only [List.length_cons] at hn hl
    obtain ⟨a, h1, hlit, cc, ty, fz, hsp, hh, hc⟩ := h 0 x rfl
    cases vs with
    | nil => simp at hl
    | cons v vs =>
      simp only [List.getElem?_cons_zero, Option.some.injEq] at h1
      subst h1
      have hrb : a.block < w.heap.size := (Array.getElem?_eq_some_iff.1 hh).1
      have hoff : a.off < cc.size := (Array.getElem?_eq_some_iff.1 hc).1
      have c1 := c.arg (nb := 1) (ch := x) (sz := 1) (d := a.off) (by omega) hh hrb (by omega) (Nat.le_refl _) (fun i hi => by
        obtain rfl : i = 0 := by omega
        have e : getW x 0 = x := by rw [getW_eq]; simpa using litW_lt hlit
        rw [e]
        exact ⟨_, by simpa using hc, litV_vr hlit, litW_storable hlit⟩)
      have e1 : Ext ρ L (updR ρ n (a.block, a.off, 1)) (upd L n (.cells 1 x 0 0 0 0)) := .fresh c.fresh _ _
      have hp : VR (updR ρ n (a.block, a.off, 1)) (upd L n (.cells 1 x 0 0 0 0)) (wP n 0) (.pointer (some a)) := by
        have := VR.ptr (ρ := updR ρ n (a.block, a.off, 1)) (L := upd L n (.cells 1 x 0 0 0 0)) n 0 a.block a.off 1 (updR_same _ _ _) (by omega)
        have ea : a = ⟨a.block, a.off + 0, none⟩ := by
          cases a with
          | mk b o s => simp at hsp ⊢; exact hsp
        rw [← ea] at this; exact this
      have app : ∀ {ρ : Rho} {L : Look} {xs ys : List Nat} {us vs : List Value}, AR ρ L xs us → AR ρ L ys vs → AR ρ L (xs ++ ys) (us ++ vs) := by
        intro ρ L xs ys us vs h1 h2
        induction h1 with
        | nil => exact h2
        | cons x v xs vs hv _ ih => exact .cons _ _ _ _ hv ih
      have hw : wP n 0 < 2 ^ 128 := by rw [wP_eq]; omega
      obtain ⟨ρ', L', c', e', ha', hs'⟩ := layC_sound cs (hset H n (.cells 1 x 0 0 0 0)) (n + 1) (ws ++ [wP n 0]) _ _ vs (us ++ [.pointer (some a)]) c1 (by omega) (app (ha.mono e1) (.cons _ _ _ _ hp .nil)) (fun y hy => by
        rcases List.mem_append.1 hy with hy | hy
        · exact hs y hy
        · simp at hy; subst hy; exact hw) (by simpa using hl) (fun i y hi => by
        have := h (i + 1) y (by simpa using hi)
        simpa using this)
      refine ⟨ρ', L', c', e1.trans e', ?_, hs'⟩
      have : us ++ Value.pointer (some a) :: vs = us ++ [Value.pointer (some a)] ++ vs := by simp
      rw [this]; exact ha'

theorem layS_sound (s : Sh) (H : Trie) (n : Nat) (k : Nat → Trie → Nat → Lay) : ∃ x H1 n1, layS s H n k = k x H1 n1 ∧ n ≤ n1 ∧
    ∀ (ρ : Rho) (L : Look) (v : Value), Ctx w.heap.size H n ρ L w → HoldsS w s v → n1 < 16384 → shOk [s] = true → ∃ ρ' L', Ctx w.heap.size H1 n1 ρ' L' w ∧ Ext ρ L ρ' L' ∧ VR ρ' L' x v := by
  cases s with
  | lit u => exact ⟨u, H, n, rfl, Nat.le_refl _, fun ρ L v c hh _ _ => by obtain ⟨h1, rfl⟩ := hh; exact ⟨ρ, L, c, .refl _ _, litV_vr h1⟩⟩
  | row e m ch =>
    refine ⟨wS n e 0 m 0, hset H n (.cells (Nat.mul m e) ch 0 0 0 0), n + 1, rfl, Nat.le_succ _, fun ρ L v c hh hn _ => ?_⟩
    obtain ⟨h0, h1, h2, rb, d, cp, cs, ty, fz, rfl, h3, h4, h5, h6, h7⟩ := hh
    have hrb : rb < w.heap.size := (Array.getElem?_eq_some_iff.1 h5).1
    have hle : m * e ≤ cp * e := Nat.mul_le_mul_right _ h3
    have c1 := c.arg (nb := m * e) (ch := ch) (sz := cp * e) (d := d) (by omega) h5 hrb h6 hle (fun i hi => by
      obtain ⟨a, b⟩ := h7 i hi
      exact ⟨_, b, litV_vr a, litW_storable a⟩)
    exact ⟨_, _, c1, .fresh c.fresh _ _, .slice n e 0 m 0 rb d (cp * e) cp _ (updR_same _ _ _) h1 (by omega) h2 (by omega) h3 h4 (.inl rfl) (.inr ⟨by simp, by omega⟩)⟩
  | agg m ch =>
    refine ⟨mk 6 n, hset H n (.box 0 m ch), n + 1, rfl, Nat.le_succ _, fun ρ L v c hh hn _ => ?_⟩
    obtain ⟨vs, rfl, h1, h2, h3⟩ := hh
    have e : Ext ρ L ρ (upd L n (.box 0 m ch)) := .freshL c.fresh _
    have hc : CellsR ρ L m ch vs := ⟨h1, h2, fun i hi => by
      obtain ⟨a, b⟩ := h3 i hi
      exact ⟨_, b, litV_vr a, litW_storable a⟩⟩
    exact ⟨ρ, _, ⟨c.sim.box c.fresh _ _ _, c.agree.hset (by omega) _, c.fresh.updL _⟩, e, (hc.mono0 e.toExt0).agg (upd_same _ _ _)⟩
  | clo f cs =>
    have hle := layC_le cs H n []
    refine ⟨mk 10 (layC cs H n []).n, hset (layC cs H n []).H (layC cs H n []).n (.box 2 (lenN cs) (listW (f :: (layC cs H n []).ws))), (layC cs H n []).n + 1, rfl, by omega, fun ρ L v c hh hn hok => ?_⟩
    obtain ⟨vs, rfl, h1, h2⟩ := hh
    have hf : f < 1000000 := by
      have e0 : shOk [.clo f cs] = sel (ltb f 1000000) true false := rfl
      rw [e0, sel_ltb] at hok
      split at hok
      · assumption
      · cases hok
    obtain ⟨ρ1, L1, c1, e1, ha, hs⟩ := layC_sound cs H n [] ρ L vs.toList [] c (by omega) .nil (fun x hx => by cases hx) (by simpa using h1) (fun i x hi => by
      obtain ⟨a, b1, b2⟩ := h2 i x hi
      exact ⟨a, by simpa using b1, b2⟩)
    have hn1 : (layC cs H n []).n < 16384 := by omega
    have e2 : Ext ρ1 L1 ρ1 (upd L1 (layC cs H n []).n (.box 2 (lenN cs) (listW (f :: (layC cs H n []).ws)))) := .freshL c1.fresh _
    have hsl : allSlot (f :: (layC cs H n []).ws) = true := allSlot_of' _ fun y hy => by
      rcases List.mem_cons.1 hy with rfl | hy
      · omega
      · exact hs y hy
    refine ⟨ρ1, _, ⟨c1.sim.box c1.fresh _ _ _, c1.agree.hset hn1 _, c1.fresh.updL _⟩, e1.trans e2, ?_⟩
    refine .clo _ _ _ f vs (upd_same _ _ _) (by rw [getW_listW _ hsl]; rfl) (by rw [h1, lenN_eq]) fun i hi => ?_
    rw [getW_listW _ hsl]
    have hi' : i < ([] ++ vs.toList).length := by simpa using hi
    have := (ha.get i hi').mono e2
    simpa using this

theorem shOk_cons (s : Sh) (l : List Sh) : shOk (s :: l) = true → shOk [s] = true ∧ shOk l = true := by
  intro h
  cases s with
  | lit u => exact ⟨rfl, h⟩
  | row e n c => exact ⟨rfl, h⟩
  | agg m c => exact ⟨rfl, h⟩
  | clo f cs =>
    have e0 : shOk (.clo f cs :: l) = sel (ltb f 1000000) (shOk l) false := rfl
    have e1 : shOk [.clo f cs] = sel (ltb f 1000000) true false := rfl
    rw [e0, sel_ltb] at h
    rw [e1, sel_ltb]
    split at h
    · rename_i hf; exact ⟨by rw [if_pos hf], h⟩
    · cases h
theorem layL_sound : ∀ (l : List Sh) (H : Trie) (n : Nat) (ws : List Nat), n ≤ (layL l H n ws).n ∧
    ∀ (ρ : Rho) (L : Look) (vs us : List Value), Ctx w.heap.size H n ρ L w → AR ρ L ws us → HoldsL w l vs → (layL l H n ws).n < 1000 → shOk l = true →
      ∃ ρ' L', Ctx w.heap.size (layL l H n ws).H (layL l H n ws).n ρ' L' w ∧ AR ρ' L' (layL l H n ws).ws (us ++ vs)
  | [], H, n, ws => ⟨Nat.le_refl _, fun ρ L vs us c ha hh _ _ => by cases hh; exact ⟨ρ, L, c, by rw [List.append_nil]; exact ha⟩⟩
  | s :: l, H, n, ws => by
    obtain ⟨x, H1, n1, e, hn, hS⟩ := layS_sound (w := w) s H n (fun w' H' n' => layL l H' n' (ws ++ [w']))
    have e0 : layL (s :: l) H n ws = layL l H1 n1 (ws ++ [x]) := e
    obtain ⟨h1, h2⟩ := layL_sound l H1 n1 (ws ++ [x])
    rw [e0]
    refine ⟨Nat.le_trans hn h1, fun ρ L vs us c ha hh hlt hok => ?_⟩
    cases hh with
    | cons _ v _ vs' hv hl =>
      obtain ⟨ok1, ok2⟩ := shOk_cons s l hok
      obtain ⟨ρ1, L1, c1, e1, hx⟩ := hS ρ L v c hv (by omega) ok1
      have app : ∀ {ρ : Rho} {L : Look} {xs ys : List Nat} {us vs : List Value}, AR ρ L xs us → AR ρ L ys vs → AR ρ L (xs ++ ys) (us ++ vs) := by
        intro ρ L xs ys us vs h1 h2
        induction h1 with
        | nil => exact h2
        | cons x v xs vs hv _ ih => exact .cons _ _ _ _ hv ih
      obtain ⟨ρ', L', c', ha'⟩ := h2 ρ1 L1 vs' (us ++ [v]) c1 (app (ha.mono e1) (.cons _ _ _ _ hx .nil)) hl hlt ok2
      exact ⟨ρ', L', c', by simpa using ha'⟩
end

/-- surroundings that tell nothing -/
@[reducible] noncomputable def noEnv : Env where
  lst := fun j => if j = 1001 then [.int .u8 0] else []
  int := fun j => if j = 1099511627776 + 1001 then 1 else 0
  wf := fun j => by split <;> omega
  len := fun j _ => by
    have : lenIx j = 1099511627776 + j := rfl
    rw [this]
    by_cases h : j = 1001
    · subst h; simp
    · rw [if_neg (by omega), if_neg h]; rfl
  byThree := by simp
  notThree := by simp
  txt := fun _ => ⟨#[0]⟩
  txtNe := fun _ _ => txt0_ok

theorem known_of {P : Program} {call : Nat → List Nat → Trie → Nat → OR} {fuel f v n n' : Nat} {args : List Nat} {H H' : Trie} (h : funE P call fuel f args H n = .ok v H' n') : Known P f := by
  unfold funE at h
  split at h
  · rename_i fn hfn
    split at h
    · rename_i c hb
      rw [sel_beq] at h
      split at h
      · cases h
      · rename_i hne
        refine ⟨fn, hfn, by rw [hb]; rfl, fun hname => hne ?_⟩
        unfold funE.bne'
        rw [if_pos hname]
    · cases h
  · cases h

/-- ██ A result found by a run. -/
theorem memo_of {P : Program} {S : Sums} (hS : Always P S) {fuel d f v : Nat} {l : List Sh} (h : isWord v (memoRun P S fuel d f l) = true) : MemoK P (f, l, v) := by
  letI : Env := noEnv
  unfold memoRun at h
  simp only at h
  cases hg : sel (shOk l) (ltb (layL l .nil 0 []).n 1000) false with
  | false => rw [hg] at h; cases h
  | true =>
    rw [hg, sel_true] at h
    rw [sel_eq] at hg
    split at hg
    · rename_i hok
      have hlt := (ltb_iff _ _).1 hg
      cases hr : funE P (callN P S fuel d) fuel f (layL l .nil 0 []).ws (layL l .nil 0 []).H (layL l .nil 0 []).n with
      | bad q => rw [hr] at h; cases h
      | ok v' H' n' =>
        rw [hr] at h
        have h' : sel (Nat.beq v' v) (sel (Nat.beq (tagOf v) 1) (ltb (payOf v) 18446744073709551616) (sel (Nat.beq v 18) true (Nat.beq v 2))) false = true := h
        rw [sel_beq] at h'
        split at h'
        · rename_i hv
          subst hv
          have lit : ∀ w : World, ∀ vs : Array Value, HoldsL w l vs.toList → ∃ x, litW v' = true ∧ x = litV v' ∧ Calls P f vs w fun e w' => e = .returned x ∧ Below w.heap.size w w' := by
            intro w vs hh
            obtain ⟨_, hL⟩ := layL_sound (w := w) l .nil 0 []
            obtain ⟨ρ', L', c, ha⟩ := hL _ _ vs.toList [] (Ctx.start w) .nil hh hlt hok
            have key : ∀ cs, ∃ ρ' L' w' x, Below w.heap.size w w' ∧ VR ρ' L' v' x ∧ CallsAt P f vs w cs (fun e W => e = .returned x ∧ W = w') := by
              intro cs
              obtain ⟨ρ2, L2, w', x, _, _, hb, _, _, hx, _, hc⟩ := funE_sound (callN_sound P (hS noEnv) fuel d) cs c (by simpa using ha) hr
              exact ⟨ρ2, L2, w', x, hb, hx, hc⟩
            have hlitw : ∃ (ρ : Rho) (L : Look) (x : Value), VR ρ L v' x := by
              obtain ⟨ρ2, L2, w', x, _, hx, _⟩ := key []
              exact ⟨ρ2, L2, x, hx⟩
            have hl : litW v' = true := by
              obtain ⟨ρ2, L2, x, hx⟩ := hlitw
              unfold litW
              rw [sel_beq] at h'
              split at h'
              · rename_i h1
                obtain ⟨p, hp, hw, hpp, _⟩ := hx.int_inv h1
                rw [sel_ltb, if_pos (by rw [hw]; exact wI_slot hp), sel_beq, if_pos h1, hpp]
                exact (ltb_iff _ _).2 hp
              · rw [sel_beq] at h'
                split at h'
                · rename_i h2; subst h2; rfl
                · have := Nat.eq_of_beq_eq_true h'; subst this; rfl
            refine ⟨litV v', hl, rfl, fun cs => ?_⟩
            obtain ⟨ρ2, L2, w', x, hb, hx, hc⟩ := key cs
            have hxl := litV_of hl hx
            subst hxl
            obtain ⟨e, W, fr, ⟨h1, h2⟩, h3⟩ := hc
            subst h2
            exact ⟨e, W, fr, ⟨h1, hb⟩, h3⟩
          refine ⟨known_of hr, ?_, fun w vs hh => ?_⟩
          · rw [sel_beq] at h'
            split at h'
            · rename_i h1
              exact .inl ⟨h1, (ltb_iff _ _).1 h'⟩
            · rw [sel_beq] at h'
              split at h'
              · exact .inr (.inl (by assumption))
              · exact .inr (.inr (Nat.eq_of_beq_eq_true h'))
          · obtain ⟨x, _, rfl, hc⟩ := lit w vs hh
            exact hc
        · cases h'
    · cases hg
end Go.Eng

/- What is known of calls: results in new memory. -/
namespace Go.Eng
set_option linter.unusedSectionVars false
set_option linter.unusedSimpArgs false
set_option linter.unusedVariables false
open Go Go.RowKit

noncomputable section
/-- a result: a word; a new slice of m elements of e cells; a new slice of new slices of ints -/
inductive RS where
  | lit (v : Nat)
  | row (e m c : Nat)
  | rows (l : List (Nat × Nat))

/-- a new row of k cells c, and its group -/
def isRowE (H : Trie) (w e m c : Nat) (k : Nat → Bool) : Bool :=
  sel (sel (Nat.beq (tagOf w) 4) (sel (Nat.beq (sLen (payOf w)) m) (sel (Nat.beq (sEs (payOf w)) e) (sel (Nat.beq (sOff (payOf w)) 0) (sel (Nat.beq m 0) false (sel (Nat.beq (sBlk (payOf w)) 0) false true)) false) false) false) false)
    (match tget H (Nat.pred (sBlk (payOf w))) with
     | some (.cells nb cb g keep since _) => sel (sel (Nat.beq g 0) false (sel (validE H (Nat.pred (sBlk (payOf w))) g keep since) (sel (Nat.ble (Nat.mul m e) nb) (sel (Nat.beq (chunk cb 0 (Nat.mul m e)) c) (allLit (Nat.mul m e) c) false) false) false)) (k g) false
     | _ => false) false
def noneE (l : List Nat) (g : Nat) : Bool := List.rec (motive := fun _ => Bool) true (fun x _ ih => sel (Nat.beq x g) false ih) l
/-- the words of an outer row, one by one; the groups so far -/
def isRowsE (H : Trie) (l : List (Nat × Nat)) : Nat → List Nat → Bool :=
  List.rec (motive := fun _ => Nat → List Nat → Bool) (fun _ _ => true)
    (fun x _ ih c gs => sel (Nat.beq x.1 0)
      (sel (sel (Nat.beq (tagOf (getW c 0)) 4) (sel (Nat.beq (sLen (payOf (getW c 0))) 0) (sel (Nat.beq (sCap (payOf (getW c 0))) 1) (sel (Nat.beq (sBlk (payOf (getW c 0))) 0) false true) false) false) false) (ih (Nat.shiftRight c 128) gs) false)
      (isRowE H (getW c 0) 1 x.1 x.2 fun g => sel (noneE gs g) (ih (Nat.shiftRight c 128) (g :: gs)) false)) l
def isRes (rs : RS) (r : OR) : Bool :=
  match r with
  | .bad _ => false
  | .ok v H _ => RS.rec (motive := fun _ => Bool) (fun u => isWord u (.ok v H 0)) (fun e m c => isRowE H v e m c fun _ => true)
      (fun l => sel (sel (Nat.beq (tagOf v) 4) (sel (Nat.beq (sLen (payOf v)) (lenN l)) (sel (Nat.beq (sEs (payOf v)) 1) (sel (Nat.beq (sOff (payOf v)) 0) (sel (Nat.beq (lenN l) 0) false (sel (Nat.beq (sBlk (payOf v)) 0) false true)) false) false) false) false)
        (match tget H (Nat.pred (sBlk (payOf v))) with
         | some (.cells nb cb g keep since _) => sel (sel (Nat.beq g 0) false (sel (validE H (Nat.pred (sBlk (payOf v))) g keep since) (Nat.ble (lenN l) nb) false)) (isRowsE H l cb [g]) false
         | _ => false) false) rs

/-- the new rows laid, behind one another, and their words -/
def putRows (l : List (Nat × Nat)) : Trie → Nat → List Nat → Lay :=
  List.rec (motive := fun _ => Trie → Nat → List Nat → Lay) (fun H n ws => ⟨H, n, ws⟩)
    (fun x _ ih H n ws => sel (Nat.beq x.1 0) (ih H n (ws ++ [14])) (ih (hset H n (.cells x.1 x.2 (Nat.succ n) n n x.1)) (Nat.succ n) (ws ++ [wS n 1 0 x.1 0]))) l
def putRes (rs : RS) (H : Trie) (n : Nat) : OR :=
  RS.rec (motive := fun _ => OR) (fun v => .ok v H n)
    (fun e m c => sel (sel (ltb n maxBlk) (sel (ltb e 256) (sel (Nat.beq m 0) false (ltb m 1048576)) false) false) (.ok (wS n e 0 m 0) (hset H n (.cells (Nat.mul m e) c (Nat.succ n) n n (Nat.mul m e))) (Nat.succ n)) (.bad 9))
    (fun l => let y := putRows l H n []
      sel (sel (ltb y.n maxBlk) (sel (ltb (lenN l) 1048576) (allE (fun x : Nat × Nat => ltb x.1 1048576) l) false) false) (.ok (wS y.n 1 0 (lenN l) 0) (hset y.H y.n (.cells (lenN l) (listW y.ws) (Nat.succ y.n) y.n y.n (lenN l))) (Nat.succ y.n)) (.bad 9)) rs

abbrev Memo2 := Nat × List Sh × RS
def memo2S (l : List Memo2) : Sums := fun f args H n =>
  List.rec (motive := fun _ => SR) .no (fun e _ ih => sel (sel (Nat.beq e.1 f) (matchL H e.2.1 args) false) (.yes (putRes e.2.2 H n)) ih) l
end

/-! ### what comes back -/
/-- a new row, from block s on -/
def NewRow (s : Nat) (W : World) (rb d cp e m c : Nat) : Prop :=
  s ≤ rb ∧ m ≤ cp ∧ cp < 9223372036854775808 ∧ ∃ cs ty, W.heap[rb]? = some (.cells cs ty (0, 0)) ∧ d + cp * e ≤ cs.size ∧ c < 2 ^ (128 * (m * e)) ∧ ∀ i, i < m * e → litW (getW c i) = true ∧ cs[d + i]? = some (litV (getW c i))
/-- the elements of an outer row: new rows, or slices without room -/
inductive NewRows (s : Nat) (W : World) : List (Nat × Nat) → List Value → List Nat → Prop
  | nil : NewRows s W [] [] []
  | none (c : Nat) (a : Addr) (l : List (Nat × Nat)) (vs : List Value) (bs : List Nat) : NewRows s W l vs bs → NewRows s W ((0, c) :: l) (.slice (some a) 0 0 :: vs) bs
  | row (m c rb d cp : Nat) (l : List (Nat × Nat)) (vs : List Value) (bs : List Nat) : m ≠ 0 → NewRow s W rb d cp 1 m c → rb ∉ bs → NewRows s W l vs bs → NewRows s W ((m, c) :: l) (.slice (some ⟨rb, d, none⟩) m cp :: vs) (rb :: bs)
def HoldsR (s : Nat) (W : World) (rs : RS) (x : Value) : Prop :=
  match rs with
  | .lit v => litW v = true ∧ x = litV v
  | .row e m c => ∃ rb d cp, x = .slice (some ⟨rb, d, none⟩) m cp ∧ NewRow s W rb d cp e m c
  | .rows l => ∃ rb d cp cs ty vs bs, x = .slice (some ⟨rb, d, none⟩) l.length cp ∧ s ≤ rb ∧ l.length ≤ cp ∧ cp < 9223372036854775808 ∧ W.heap[rb]? = some (.cells cs ty (0, 0)) ∧ d + cp ≤ cs.size ∧
      NewRows s W l vs bs ∧ rb ∉ bs ∧ vs.length = l.length ∧ ∀ i, i < l.length → cs[d + i]? = vs[i]?

structure Memo2K (P : Program) (e : Memo2) : Prop where
  known : Known P e.1
  calls : ∀ (w : World) (vs : Array Value), HoldsL w e.2.1 vs.toList → Calls P e.1 vs w fun r w' => ∃ x, r = .returned x ∧ HoldsR w.heap.size w' e.2.2 x ∧ Below w.heap.size w w'

section
variable [E : Env]
section
variable {base n : Nat} {H : Trie} {ρ : Rho} {L : Look} {w : World}
/-- A block that lies in the world already is told of. -/
theorem Ctx.adopt (c : Ctx base H n ρ L w) (hn : n < 16384) {rb d sz len ch : Nat} {cs : Array Value} {ty : TypeId} (hh : w.heap[rb]? = some (.cells cs ty (0, 0))) (hb : base ≤ rb) (hkn : E.kept rb = none) (hnew : ∀ b r, ρ b = some r → r.1 ≠ rb) (hsz : d + sz ≤ cs.size) (hlen : len ≤ sz)
    (hc : ∀ j, j < len → ∃ v, cs[d + j]? = some v ∧ VR ρ L (getW ch j) v ∧ storable (getW ch j) = true) :
    Ctx base (hset H n (.cells len ch (n + 1) n n len)) (n + 1) (updR ρ n (rb, d, sz)) (upd L n (.cells len ch (n + 1) n n len)) w ∧ Ext ρ L (updR ρ n (rb, d, sz)) (upd L n (.cells len ch (n + 1) n n len)) := by
  have hf := c.fresh
  have hs := c.sim
  have e : Ext ρ L (updR ρ n (rb, d, sz)) (upd L n (.cells len ch (n + 1) n n len)) := .fresh hf _ _
  have hrb : rb < w.heap.size := (Array.getElem?_eq_some_iff.1 hh).1
  have hk : OwnK n (.cells len ch (n + 1) n n len) := ⟨rfl, rfl, rfl, Nat.le_refl _⟩
  have old : ∀ b r, updR ρ n (rb, d, sz) b = some r → b ≠ n → ρ b = some r := fun b r h hne => by rw [updR_ne _ _ hne] at h; exact h
  have gold : ∀ b, b ≠ n → grp (upd L n (.cells len ch (n + 1) n n len)) b = grp L b := fun b hb => grp_upd_ne hb
  have ldne : ∀ b r, ρ b = some r → grp L b = 0 ∨ grp L b - 1 ≠ n := fun b r h => by
    by_cases h0 : grp L b = 0
    · exact .inl h0
    · obtain ⟨⟨q, hq⟩, _⟩ := hs.ld b r h h0
      have := hf.lt hq
      exact .inr (by omega)
  have lold : ∀ b r, ρ b = some r → b ≠ n → (live (upd L n (.cells len ch (n + 1) n n len)) b ↔ live L b) := fun b r h hne => live_upd_ne hne (ldne b r h)
  have iold : ∀ b r, ρ b = some r → grp L b ≠ 0 → info (upd L n (.cells len ch (n + 1) n n len)) (grp L b - 1) = info L (grp L b - 1) := fun b r h h0 => info_upd_ne ((ldne b r h).resolve_left h0)
  have gn : grp (upd L n (.cells len ch (n + 1) n n len)) n = n + 1 := hk.grp L
  refine ⟨⟨⟨?_, ?_, ?_, ?_, ?_, ?_, ?_, hs.bs, ?_, ?_, fun j p q s d' lo hi hL h64 => (by
    by_cases hne : j = n
    · subst hne; rw [upd_same] at hL; cases hL
    · rw [upd_ne _ _ hne] at hL; exact hs.pol j p q s d' lo hi hL h64), fun b r h hg => (by
    by_cases hne : b = n
    · subst hne; rw [updR_same] at h; injection h with h; subst h; exact hkn
    · rw [gold b hne] at hg; exact hs.rk b r (old b r h hne) hg), hs.kp⟩, c.agree.hset hn _, hf.upd _ _⟩, e⟩
  · intro b r h
    by_cases hne : b = n
    · subst hne
      rw [updR_same] at h; injection h with h; subst h
      refine ⟨_, upd_same _ _ _, fun _ => ⟨cs, ty, (0, 0), hh, hsz, hlen, fun _ => rfl, fun i hi => ?_⟩⟩
      obtain ⟨v, a, b, d⟩ := hc i hi
      exact ⟨v, a, b.mono e, d⟩
    · have h' := old b r h hne
      obtain ⟨kk, h1, h2⟩ := hs.blk b r h'
      exact ⟨kk, by rw [upd_ne _ _ hne]; exact h1, fun hl => (h2 ((lold b r h' hne).1 hl)).mono e rfl⟩
  · intro b b' r r' h h' hl hl' hg hg' hgg
    by_cases hne : b = n
    · by_cases hne' : b' = n
      · subst hne; subst hne'; exact absurd rfl hgg
      · subst hne
        rw [updR_same] at h; injection h with h; subst h
        exact (hnew b' r' (old b' r' h' hne')).symm
    · by_cases hne' : b' = n
      · subst hne'
        rw [updR_same] at h'; injection h' with h'; subst h'
        exact hnew b r (old b r h hne)
      · have k1 := old b r h hne
        have k2 := old b' r' h' hne'
        rw [gold b hne] at hg hgg
        rw [gold b' hne'] at hg' hgg
        exact hs.sep b b' r r' k1 k2 ((lold b r k1 hne).1 hl) ((lold b' r' k2 hne').1 hl') hg hg' hgg
  · intro b b' r r' h h' hl hl' hg hgg hrr
    by_cases hne : b = n
    · by_cases hne' : b' = n
      · subst hne; subst hne'; rw [h] at h'; injection h' with h'; rw [h']
      · subst hne
        rw [updR_same] at h; injection h with h; subst h
        exact absurd hrr.symm (hnew b' r' (old b' r' h' hne'))
    · by_cases hne' : b' = n
      · subst hne'
        rw [updR_same] at h'; injection h' with h'; subst h'
        exact absurd hrr (hnew b r (old b r h hne))
      · have k1 := old b r h hne
        have k2 := old b' r' h' hne'
        rw [gold b hne] at hg hgg
        rw [gold b' hne'] at hgg
        exact hs.same b b' r r' k1 k2 ((lold b r k1 hne).1 hl) ((lold b' r' k2 hne').1 hl') hg hgg hrr
  · intro b r m c' g kk s mm h hl hL hg
    by_cases hne : b = n
    · subst hne
      rw [upd_same] at hL; injection hL with hL; injection hL with q1 q2 q3 q4 q5 q6
      subst q3
      simp only [Nat.add_sub_cancel, info, upd_same]
      omega
    · have h' := old b r h hne
      rw [upd_ne _ _ hne] at hL
      have hg0 : grp L b = g := grp_of hL
      have := iold b r h' (by rw [hg0]; exact hg)
      rw [hg0] at this
      rw [this]
      exact hs.mx b r m c' g kk s mm h' ((lold b r h' hne).1 hl) hL hg
  · intro b r h hg
    by_cases hne : b = n
    · subst hne; rw [updR_same] at h; injection h with h; subst h; exact hb
    · rw [gold b hne] at hg; exact hs.rw b r (old b r h hne) hg
  · intro b r h hg
    by_cases hne : b = n
    · subst hne; rw [gn] at hg; omega
    · rw [gold b hne] at hg; exact hs.ro b r (old b r h hne) hg
  · intro b r h
    by_cases hne : b = n
    · subst hne; rw [updR_same] at h; injection h with h; subst h; exact hrb
    · exact hs.bnd b r (old b r h hne)
  · intro b r h hg
    by_cases hne : b = n
    · subst hne; rw [gn]; exact ⟨⟨_, updR_same _ _ _⟩, gn⟩
    · have h' := old b r h hne
      rw [gold b hne] at hg ⊢
      obtain ⟨⟨q, hq⟩, h2⟩ := hs.ld b r h' hg
      exact ⟨⟨q, e.place _ _ hq⟩, by rw [gold _ ((ldne b r h').resolve_left hg)]; exact h2⟩
  · intro b m c' g kk s mm hL hg
    by_cases hne : b = n
    · subst hne
      rw [upd_same] at hL; injection hL with hL; injection hL with q1 q2 q3
      exact ⟨len, ch, b, b, len, by rw [← q3]; exact upd_same _ _ _⟩
    · rw [upd_ne _ _ hne] at hL
      obtain ⟨a1, a2, a3, a4, a5, a6⟩ := hs.kind b m c' g kk s mm hL hg
      exact ⟨a1, a2, a3, a4, a5, by rw [upd_ne _ _ (by have := hf.ltL a6; omega)]; exact a6⟩

theorem isRowE_inv (c : Ctx base H n ρ L w) {x : Nat} {v : Value} (hx : VR ρ L x v) {e m ch : Nat} {k : Nat → Bool} (h : isRowE H x e m ch k = true) :
    ∃ b rb d sz cp g, v = .slice (some ⟨rb, d, none⟩) m cp ∧ NewRow base w rb d cp e m ch ∧ k g = true ∧ live L b ∧ grp L b = g ∧ g ≠ 0 ∧ ρ b = some (rb, d, sz) ∧ m ≠ 0 := by
  unfold isRowE at h
  rw [sel_eq] at h
  split at h
  · rename_i h1
    rw [sel_beq] at h1
    split at h1
    · rename_i h4
      rw [sel_beq] at h1
      split at h1
      · rename_i hlen
        rw [sel_beq] at h1
        split at h1
        · rename_i hes
          rw [sel_beq] at h1
          split at h1
          · rename_i hof0
            rw [sel_beq] at h1
            split at h1
            · cases h1
            · rename_i hm0
              rw [sel_beq] at h1
              split at h1
              · cases h1
              · rename_i hbn
                rcases hx.slice_inv h4 with ⟨rfl, _⟩ | ⟨b, es, off, m', kk, rb, d, sz, cp, a, hb, he, ho, hm, hk, hmc, hbig, hk1, hcp, rfl, rfl⟩
                · exact absurd s_nil.2.2.2.2.2 hbn
                · obtain ⟨_, q1, q2, q3, q4, q5⟩ := s_parts b es off m' kk he ho hm hk
                  rw [q1] at hlen; rw [q4] at hes; rw [q3] at hof0
                  subst hlen; subst hes; subst hof0
                  rw [q5, Nat.pred_succ] at h
                  split at h
                  · rename_i nb cb g keep since mx hget
                    rw [sel_eq] at h
                    split at h
                    · rename_i hc
                      rw [sel_beq] at hc
                      split at hc
                      · cases hc
                      · rename_i hg0
                        rw [sel_eq] at hc
                        split at hc
                        · rename_i hval
                          rw [sel_ble] at hc
                          split at hc
                          · rename_i hle
                            rw [sel_beq] at hc
                            split at hc
                            · rename_i hcc
                              have hL := c.agree.2 _ _ hget
                              have hl := validE_iff c.agree hL hval
                              obtain ⟨k2, hk2, hbr⟩ := c.sim.blk b _ hb
                              rw [hL] at hk2; injection hk2 with hk2; subst hk2
                              obtain ⟨cs, ty, fz, g1, g2, g3, g4, g5⟩ := hbr hl
                              obtain rfl := g4 hg0
                              have hgrp : grp L b = g := grp_of hL
                              have hcp2 := hcp.resolve_left (by omega)
                              have hbase : base ≤ rb := c.sim.rw b _ hb (by rw [hgrp]; exact hg0)
                              simp only at g2 g3 g5
                              have hle' : m' * es ≤ nb := hle
                              refine ⟨b, rb, d, sz, cp, g, by rw [hcp2.1]; rfl, ⟨hbase, hmc, hbig, cs, ty, g1, by have := hcp2.2; omega, by rw [← hcc]; exact chunk_lt _ _ _, fun i hi => ?_⟩, h, hl, hgrp, hg0, hb, hm0⟩
                              have hli := allLit_iff _ _ hc i hi
                              refine ⟨hli, ?_⟩
                              obtain ⟨u, u1, u2, _⟩ := g5 i (by omega)
                              rw [← hcc, getW_chunk _ _ _ _ (show i < Nat.mul m' es from hi), Nat.zero_add] at hli ⊢
                              rw [u1, litV_of hli u2]
                            · cases hc
                          · cases hc
                        · cases hc
                    · cases h
                  · cases h
          · cases h1
        · cases h1
      · cases h1
    · cases h1
  · cases h

theorem noneE_inv : ∀ (l : List Nat) (g : Nat), noneE l g = true → g ∉ l
  | [], _, _ => by simp
  | x :: l, g, h => by
    have e : noneE (x :: l) g = sel (Nat.beq x g) false (noneE l g) := rfl
    rw [e, sel_beq] at h
    split at h
    · cases h
    · rename_i hne
      have := noneE_inv l g h
      simp only [List.mem_cons, not_or]
      exact ⟨fun hh => hne hh.symm, this⟩

/-- The elements of an outer row. The groups that were met stand for blocks of the world. -/
theorem isRowsE_inv (c : Ctx base H n ρ L w) : ∀ (l : List (Nat × Nat)) (ch : Nat) (gs : List Nat) (vs : List Value) (rs : List Nat), vs.length = l.length → (∀ i (h : i < vs.length), VR ρ L (getW ch i) vs[i]) →
    isRowsE H l ch gs = true → (∀ g ∈ gs, ∃ b r, live L b ∧ grp L b = g ∧ g ≠ 0 ∧ ρ b = some r ∧ r.1 ∈ rs) → (∀ r ∈ rs, ∃ g ∈ gs, ∃ b q, live L b ∧ grp L b = g ∧ g ≠ 0 ∧ ρ b = some q ∧ q.1 = r) →
    ∃ bs, NewRows base w l vs bs ∧ ∀ r ∈ bs, r ∉ rs
  | [], ch, gs, vs, rs, hl, hv, h, hg, hr => by
    have : vs = [] := List.eq_nil_of_length_eq_zero (by simpa using hl)
    subst this
    exact ⟨[], .nil, by simp⟩
  | x :: l, ch, gs, [], rs, hl, hv, h, hg, hr => by simp at hl
  | x :: l, ch, gs, v :: vs, rs, hl, hv, h, hg, hr => by
    have e : isRowsE H (x :: l) ch gs = sel (Nat.beq x.1 0)
      (sel (sel (Nat.beq (tagOf (getW ch 0)) 4) (sel (Nat.beq (sLen (payOf (getW ch 0))) 0) (sel (Nat.beq (sCap (payOf (getW ch 0))) 1) (sel (Nat.beq (sBlk (payOf (getW ch 0))) 0) false true) false) false) false) (isRowsE H l (Nat.shiftRight ch 128) gs) false)
      (isRowE H (getW ch 0) 1 x.1 x.2 fun g => sel (noneE gs g) (isRowsE H l (Nat.shiftRight ch 128) (g :: gs)) false) := rfl
    have hv0 : VR ρ L (getW ch 0) v := hv 0 (by simp)
    have hvt : ∀ i (h : i < vs.length), VR ρ L (getW (Nat.shiftRight ch 128) i) vs[i] := fun i hi => by
      rw [getW_shift]
      have := hv (i + 1) (by simpa using hi)
      simpa using this
    rw [e, sel_beq] at h
    split at h
    · rename_i hx0
      rw [sel_eq] at h
      split at h
      · rename_i h1
        rw [sel_beq] at h1
        split at h1
        · rename_i h4
          rw [sel_beq] at h1
          split at h1
          · rename_i hlen
            rw [sel_beq] at h1
            split at h1
            · rename_i hcap
              rw [sel_beq] at h1
              split at h1
              · cases h1
              · rename_i hbn
                obtain ⟨bs, hb1, hb2⟩ := isRowsE_inv c l (Nat.shiftRight ch 128) gs vs rs (by simpa using hl) hvt h hg hr
                rcases hv0.slice_inv h4 with ⟨h5, _⟩ | ⟨b, es, off, m', kk, rb, d, sz, cp, a, hb, he, ho, hm, hk, hmc, hbig, hk1, hcp, h5, rfl⟩
                · rw [h5] at hbn; exact absurd s_nil.2.2.2.2.2 hbn
                · obtain ⟨_, q1, q2, q3, q4, q5⟩ := s_parts b es off m' kk he ho hm hk
                  rw [h5, q1] at hlen
                  rw [h5, q2] at hcap
                  have hcp0 : cp = 0 := by omega
                  subst hlen; subst hcp0
                  obtain ⟨x1, x2⟩ := x
                  simp only at hx0
                  subst hx0
                  exact ⟨bs, .none x2 a l vs bs hb1, hb2⟩
            · cases h1
          · cases h1
        · cases h1
      · cases h
    · rename_i hx0
      obtain ⟨b, rb, d, sz, cp, g, rfl, hnr, hk, hlive, hgrp, hg0, hρ, hm0⟩ := isRowE_inv c hv0 h
      rw [sel_eq] at hk
      split at hk
      · rename_i hn
        have hng := noneE_inv gs g hn
        have hrs : rb ∉ rs := by
          intro hmem
          obtain ⟨g', hg', b', q, hl', hgr', hg0', hρ', hq⟩ := hr rb hmem
          have hne : grp L b ≠ grp L b' := by rw [hgrp, hgr']; intro hh; exact hng (hh ▸ hg')
          exact c.sim.sep b b' _ q hρ hρ' hlive hl' (by rw [hgrp]; exact hg0) (by rw [hgr']; exact hg0') hne hq.symm
        obtain ⟨bs, hb1, hb2⟩ := isRowsE_inv c l (Nat.shiftRight ch 128) (g :: gs) vs (rb :: rs) (by simpa using hl) hvt hk (fun g' hg' => by
          rcases List.mem_cons.1 hg' with rfl | hg'
          · exact ⟨b, _, hlive, hgrp, hg0, hρ, by simp⟩
          · obtain ⟨b', r, a1, a2, a3, a4, a5⟩ := hg g' hg'
            exact ⟨b', r, a1, a2, a3, a4, by simp [a5]⟩) (fun r hrm => by
          rcases List.mem_cons.1 hrm with rfl | hrm
          · exact ⟨g, by simp, b, _, hlive, hgrp, hg0, hρ, rfl⟩
          · obtain ⟨g', a0, a1⟩ := hr r hrm
            exact ⟨g', by simp [a0], a1⟩)
        obtain ⟨x1, x2⟩ := x
        exact ⟨rb :: bs, .row x1 x2 rb d cp l vs bs hx0 hnr (fun hh => hb2 rb hh (by simp)) hb1, fun r hrm => by
          rcases List.mem_cons.1 hrm with rfl | hrm
          · exact hrs
          · exact fun hh => hb2 r hrm (by simp [hh])⟩
      · cases hk

/-- The state behind a result. -/
theorem adopt_row (c : Ctx base H n ρ L w) (hn : n < 16384) {s rb d cp e m ch : Nat} (hs : Low base s) (h : NewRow s w rb d cp e m ch) (he : e < 256) (hm : m < 1048576) (hnew : ∀ b r, ρ b = some r → r.1 ≠ rb) (h0 : m = 0 → cp ≠ 0) :
    ∃ ρ' L', Ctx base (hset H n (.cells (Nat.mul m e) ch (n + 1) n n (Nat.mul m e))) (n + 1) ρ' L' w ∧ Ext ρ L ρ' L' ∧ VR ρ' L' (wS n e 0 m 0) (.slice (some ⟨rb, d, none⟩) m cp) ∧ (∀ b r, ρ' b = some r → ρ b = some r ∨ r.1 = rb) ∧ Loc H n ρ L ρ' L' := by
  obtain ⟨h1, h2, h3, cs, ty, h4, h5, h6, h7⟩ := h
  have hle : m * e ≤ cp * e := Nat.mul_le_mul_right _ h2
  obtain ⟨c1, e1⟩ := c.adopt (sz := cp * e) (len := Nat.mul m e) (ch := ch) hn h4 (Nat.le_trans hs.1 h1) (hs.2 _ h1) hnew h5 hle (fun j hj => by
    obtain ⟨a, b⟩ := h7 j hj
    exact ⟨_, b, litV_vr a, litW_storable a⟩)
  refine ⟨_, _, c1, e1, .slice n e 0 m 0 rb d (cp * e) cp _ (updR_same _ _ _) he (by omega) hm (by omega) h2 h3 (.inl rfl) (.inr ⟨by simp, by omega⟩), fun b r hr => ?_, .fresh _ _⟩
  by_cases hbn : b = n
  · subst hbn; rw [updR_same] at hr; injection hr with hr; subst hr; exact .inr rfl
  · rw [updR_ne _ _ hbn] at hr; exact .inl hr

theorem putRows_le : ∀ (l : List (Nat × Nat)) (H : Trie) (n : Nat) (ws : List Nat), n ≤ (putRows l H n ws).n
  | [], H, n, ws => Nat.le_refl _
  | x :: l, H, n, ws => by
    have e : putRows (x :: l) H n ws = sel (Nat.beq x.1 0) (putRows l H n (ws ++ [14])) (putRows l (hset H n (.cells x.1 x.2 (Nat.succ n) n n x.1)) (Nat.succ n) (ws ++ [wS n 1 0 x.1 0])) := rfl
    rw [e, sel_beq]
    split
    · exact putRows_le l H n _
    · exact Nat.le_trans (Nat.le_succ n) (putRows_le l _ _ _)
theorem AR.app {ρ : Rho} {L : Look} {xs ys : List Nat} {us vs : List Value} (h1 : AR ρ L xs us) (h2 : AR ρ L ys vs) : AR ρ L (xs ++ ys) (us ++ vs) := by
  induction h1 with
  | nil => exact h2
  | cons x v xs vs hv _ ih => exact .cons _ _ _ _ hv ih
theorem putRows_sound {s : Nat} : ∀ (l : List (Nat × Nat)) (vs : List Value) (bs : List Nat) (H : Trie) (n : Nat) (ws : List Nat) (us : List Value) (ρ : Rho) (L : Look), Ctx base H n ρ L w → Low base s → NewRows s w l vs bs → (putRows l H n ws).n < 16384 →
    (∀ x ∈ l, x.1 < 1048576) → (∀ b r, ρ b = some r → r.1 ∉ bs) → AR ρ L ws us → (∀ x ∈ ws, storable x = true) →
    ∃ ρ' L', Ctx base (putRows l H n ws).H (putRows l H n ws).n ρ' L' w ∧ Ext ρ L ρ' L' ∧ AR ρ' L' (putRows l H n ws).ws (us ++ vs) ∧ (∀ x ∈ (putRows l H n ws).ws, storable x = true) ∧ (∀ b r, ρ' b = some r → ρ b = some r ∨ r.1 ∈ bs) ∧ Loc H n ρ L ρ' L'
  | [], vs, bs, H, n, ws, us, ρ, L, c, hs, hnr, hlt, hl, hbs, ha, hst => by
    cases hnr
    exact ⟨ρ, L, c, .refl _ _, by rw [List.append_nil]; exact ha, hst, fun b r h => .inl h, .refl _ _ _ _⟩
  | x :: l, vs, bs, H, n, ws, us, ρ, L, c, hs, hnr, hlt, hl, hbs, ha, hst => by
    have e : putRows (x :: l) H n ws = sel (Nat.beq x.1 0) (putRows l H n (ws ++ [14])) (putRows l (hset H n (.cells x.1 x.2 (Nat.succ n) n n x.1)) (Nat.succ n) (ws ++ [wS n 1 0 x.1 0])) := rfl
    cases hnr with
    | none ch a _ vs' _ h1 =>
      rw [e, sel_beq, if_pos rfl] at hlt ⊢
      obtain ⟨ρ', L', c', e', ha', hst', hb', hloc⟩ := putRows_sound l vs' bs H n (ws ++ [14]) (us ++ [.slice (some a) 0 0]) ρ L c hs h1 hlt (fun y hy => hl y (List.mem_cons_of_mem _ hy)) hbs (ha.app (.cons _ _ _ _ (.sl0 a) .nil)) (fun y hy => by
        rcases List.mem_append.1 hy with hy | hy
        · exact hst y hy
        · simp at hy; subst hy; decide)
      exact ⟨ρ', L', c', e', by simpa using ha', hst', hb', hloc⟩
    | row m ch rb d cp _ vs' bs' hm0 h1 h2 h3 =>
      rw [e, sel_beq, if_neg hm0] at hlt ⊢
      have hle := putRows_le l (hset H n (.cells m ch (Nat.succ n) n n m)) (Nat.succ n) (ws ++ [wS n 1 0 m 0])
      have hmlt : m < 1048576 := hl _ List.mem_cons_self
      obtain ⟨ρ1, L1, c1, e1, v1, hb1, hloc1⟩ := adopt_row c (by simp only at hlt hle; omega) hs h1 (by omega) hmlt (fun b r hr => fun hh => hbs b r hr (by simp [hh])) (fun h => absurd h hm0)
      rw [show Nat.mul m 1 = m from Nat.mul_one m] at c1
      obtain ⟨ρ', L', c', e', ha', hst', hb', hloc⟩ := putRows_sound l vs' bs' (hset H n (.cells m ch (Nat.succ n) n n m)) (Nat.succ n) (ws ++ [wS n 1 0 m 0]) (us ++ [.slice (some ⟨rb, d, none⟩) m cp]) ρ1 L1 c1 hs h3 hlt (fun y hy => hl y (List.mem_cons_of_mem _ hy)) (fun b r hr => by
        rcases hb1 b r hr with hr | hr
        · exact fun hh => hbs b r hr (by simp [hh])
        · rw [hr]; exact h2) ((ha.mono e1).app (.cons _ _ _ _ v1 .nil)) (fun y hy => by
        rcases List.mem_append.1 hy with hy | hy
        · exact hst y hy
        · simp at hy; subst hy
          rw [storable_iff, tag_wS]
          have hnl : n < 16384 := by simp only at hlt hle; omega
          exact ⟨by decide, by decide, by decide, by rw [wS_eq]; omega⟩)
      refine ⟨ρ', L', c', e1.trans e', by simpa using ha', hst', fun b r hr => ?_, hloc1.trans (Nat.le_succ _) hloc⟩
      rcases hb' b r hr with hr | hr
      · rcases hb1 b r hr with hr | hr
        · exact .inl hr
        · exact .inr (by simp [hr])
      · exact .inr (by simp [hr])

theorem storable_lt {x : Nat} (h : storable x = true) : x < 2 ^ 128 := ((storable_iff _).1 h).2.2.2
theorem NewRows.len {s : Nat} {W : World} {l : List (Nat × Nat)} {vs : List Value} {bs : List Nat} (h : NewRows s W l vs bs) : vs.length = l.length := by
  induction h with
  | nil => rfl
  | none _ _ _ _ _ _ ih => simp [ih]
  | row _ _ _ _ _ _ _ _ _ _ _ _ ih => simp [ih]
theorem NewRows.low {s : Nat} {W : World} {l : List (Nat × Nat)} {vs : List Value} {bs : List Nat} (h : NewRows s W l vs bs) : ∀ b ∈ bs, s ≤ b := by
  induction h with
  | nil => intro b hb; cases hb
  | none _ _ _ _ _ _ ih => exact ih
  | row _ _ _ _ _ _ _ _ _ h2 _ _ ih =>
    intro b hb
    rcases List.mem_cons.1 hb with rfl | hb
    · exact h2.1
    · exact ih b hb
theorem putRes_sound (c : Ctx base H n ρ L w) {s : Nat} (hs : Low base s) (hnew : ∀ b r, ρ b = some r → r.1 < s) {rs : RS} {x : Value} {v n' : Nat} {H' : Trie} (hx : HoldsR s w rs x) (h : putRes rs H n = .ok v H' n') :
    ∃ ρ' L', Ctx base H' n' ρ' L' w ∧ Ext ρ L ρ' L' ∧ Loc H n ρ L ρ' L' ∧ n ≤ n' ∧ VR ρ' L' v x := by
  cases rs with
  | lit u =>
    have e : putRes (.lit u) H n = .ok u H n := rfl
    rw [e] at h; injection h with h1 h2 h3
    subst h1; subst h2; subst h3
    obtain ⟨hl, rfl⟩ := hx
    exact ⟨ρ, L, c, .refl _ _, .refl _ _ _ _, Nat.le_refl _, litV_vr hl⟩
  | row e m ch =>
    have e0 : putRes (.row e m ch) H n = sel (sel (ltb n maxBlk) (sel (ltb e 256) (sel (Nat.beq m 0) false (ltb m 1048576)) false) false) (.ok (wS n e 0 m 0) (hset H n (.cells (Nat.mul m e) ch (Nat.succ n) n n (Nat.mul m e))) (Nat.succ n)) (.bad 9) := rfl
    rw [e0, sel_eq] at h
    split at h
    · rename_i hg
      rw [sel_ltb] at hg
      split at hg
      · rename_i hn
        rw [sel_ltb] at hg
        split at hg
        · rename_i he
          rw [sel_beq] at hg
          split at hg
          · cases hg
          · rename_i hm0
            have hm := (ltb_iff _ _).1 hg
            injection h with h1 h2 h3
            subst h1; subst h2; subst h3
            obtain ⟨rb, d, cp, rfl, hr⟩ := hx
            obtain ⟨ρ', L', c', e', v', _, hloc⟩ := adopt_row c hn hs hr he hm (fun b r hbr => by have := hnew b r hbr; have := hr.1; omega) (fun h => absurd h hm0)
            exact ⟨ρ', L', c', e', hloc, Nat.le_succ _, v'⟩
        · cases hg
      · cases hg
    · cases h
  | rows l =>
    have e0 : putRes (.rows l) H n = sel (sel (ltb (putRows l H n []).n maxBlk) (sel (ltb (lenN l) 1048576) (allE (fun x : Nat × Nat => ltb x.1 1048576) l) false) false) (.ok (wS (putRows l H n []).n 1 0 (lenN l) 0) (hset (putRows l H n []).H (putRows l H n []).n (.cells (lenN l) (listW (putRows l H n []).ws) (Nat.succ (putRows l H n []).n) (putRows l H n []).n (putRows l H n []).n (lenN l))) (Nat.succ (putRows l H n []).n)) (.bad 9) := rfl
    rw [e0, sel_eq] at h
    split at h
    · rename_i hg
      rw [sel_ltb] at hg
      split at hg
      · rename_i hn
        rw [sel_ltb] at hg
        split at hg
        · rename_i hll
          rw [allE_iff] at hg
          injection h with h1 h2 h3
          subst h1; subst h2; subst h3
          rw [lenN_eq] at hll ⊢
          obtain ⟨rb, d, cp, cs, ty, vs, bs, rfl, q1, q2, q3, q4, q5, q6, q7, q8, q9⟩ := hx
          have hbs := q6.low
          obtain ⟨ρ1, L1, c1, e1, ha1, hst1, hb1, hloc1⟩ := putRows_sound l vs bs H n [] [] ρ L c hs q6 hn (fun x hx => (ltb_iff _ _).1 (hg x hx)) (fun b r hbr => fun hh => by have := hnew b r hbr; have := hbs _ hh; omega) .nil (fun x hx => by cases hx)
          have hsl : allSlot (putRows l H n []).ws = true := allSlot_of' _ fun y hy => storable_lt (hst1 y hy)
          have hwl : (putRows l H n []).ws.length = l.length := by
            have := ha1.length
            simp only [List.nil_append] at this
            omega
          obtain ⟨c2, e2⟩ := c1.adopt (sz := cp) (d := d) (len := l.length) (ch := listW (putRows l H n []).ws) hn q4 (Nat.le_trans hs.1 q1) (hs.2 _ q1) (fun b r hbr => by
            rcases hb1 b r hbr with hbr | hbr
            · have := hnew b r hbr; omega
            · exact fun hh => q7 (hh ▸ hbr)) q5 q2 (fun j hj => by
            have hjv : j < ([] ++ vs).length := by simp; omega
            have hvr := ha1.get j hjv
            have hjw : j < (putRows l H n []).ws.length := by omega
            refine ⟨vs[j]'(by omega), by rw [q9 j hj, List.getElem?_eq_getElem (by omega)], ?_, ?_⟩
            · rw [getW_listW _ hsl]; simpa using hvr
            · rw [getW_listW _ hsl, List.getD_eq_getElem?_getD, List.getElem?_eq_getElem hjw]
              exact hst1 _ (List.getElem_mem hjw))
          have hle := putRows_le l H n []
          refine ⟨_, _, c2, e1.trans e2, Loc.trans (H1 := H) hloc1 hle (.fresh _ _), by omega, ?_⟩
          exact .slice _ 1 0 l.length 0 rb d cp cp _ (updR_same _ _ _) (by omega) (by omega) hll (by omega) q2 q3 (.inl rfl) (.inr ⟨by simp, by omega⟩)
        · cases hg
      · cases hg
    · cases h
end
end

theorem memo2S_always {P : Program} : ∀ (l : List Memo2), (∀ e ∈ l, Memo2K P e) → Always P (memo2S l) := by
  intro l hl E base H n ρ L w f args vs v H' n' cs c ha h
  induction l with
  | nil => cases h
  | cons e l ih =>
    have e0 : memo2S (e :: l) f args H n = sel (sel (Nat.beq e.1 f) (matchL H e.2.1 args) false) (.yes (putRes e.2.2 H n)) (memo2S l f args H n) := rfl
    rw [e0, sel_eq] at h
    split at h
    · rename_i h1
      rw [sel_beq] at h1
      split at h1
      · rename_i hf
        injection h with h
        have K := hl e List.mem_cons_self
        have hh := matchL_holds c e.2.1 args vs.toList ha h1
        obtain ⟨r, W, ⟨x, hr, hx, hb⟩, hcall⟩ := calls_at (K.calls w vs hh) cs
        subst hr
        rw [← hf]
        obtain ⟨ρ', L', c', e', hloc, hn, hv⟩ := putRes_sound (c.later hb) c.sim.low c.sim.bnd hx h
        exact ⟨ρ', L', W, x, c', e', hb.mono c.sim.bs, hloc, hn, hv, K.known, hcall⟩
      · cases h1
    · exact ih (fun e he => hl e (List.mem_cons_of_mem _ he)) h

theorem litW_word {v : Nat} {r : OR} {H : Trie} {n : Nat} (h : isWord v (.ok v H n) = true) : tagOf v = 1 ∧ payOf v < 18446744073709551616 ∨ v = 18 ∨ v = 2 := by
  have h' : sel (Nat.beq v v) (sel (Nat.beq (tagOf v) 1) (ltb (payOf v) 18446744073709551616) (sel (Nat.beq v 18) true (Nat.beq v 2))) false = true := h
  rw [sel_beq, if_pos rfl, sel_beq] at h'
  split at h'
  · rename_i h1; exact .inl ⟨h1, (ltb_iff _ _).1 h'⟩
  · rw [sel_beq] at h'
    split at h'
    · exact .inr (.inl (by assumption))
    · exact .inr (.inr (Nat.eq_of_beq_eq_true h'))
/-- ██ A result found by a run. -/
theorem memo2_of {P : Program} {S : Sums} (hS : Always P S) {fuel d f : Nat} {l : List Sh} {rs : RS} (h : isRes rs (memoRun P S fuel d f l) = true) : Memo2K P (f, l, rs) := by
  letI : Env := noEnv
  unfold memoRun at h
  simp only at h
  cases hg : sel (shOk l) (ltb (layL l .nil 0 []).n 1000) false with
  | false => rw [hg] at h; cases h
  | true =>
    rw [hg, sel_true] at h
    rw [sel_eq] at hg
    split at hg
    · rename_i hok
      have hlt := (ltb_iff _ _).1 hg
      cases hr : funE P (callN P S fuel d) fuel f (layL l .nil 0 []).ws (layL l .nil 0 []).H (layL l .nil 0 []).n with
      | bad q => rw [hr] at h; cases h
      | ok v' H' n' =>
        rw [hr] at h
        refine ⟨known_of hr, fun w vs hh cs => ?_⟩
        obtain ⟨_, hL⟩ := layL_sound (w := w) l .nil 0 []
        obtain ⟨ρ', L', c, ha⟩ := hL _ _ vs.toList [] (Ctx.start w) .nil hh hlt hok
        obtain ⟨ρ2, L2, w', x, c2, _, hb, _, _, hx, _, hc⟩ := funE_sound (callN_sound P (hS noEnv) fuel d) cs c (by simpa using ha) hr
        obtain ⟨e, W, fr, ⟨h1, h2⟩, h3⟩ := hc
        subst h2
        refine ⟨e, W, fr, ⟨x, h1, ?_, hb⟩, h3⟩
        cases rs with
        | lit u =>
          have h' : isWord u (.ok v' H' 0) = true := h
          have huv : v' = u := by
            have h2 : sel (Nat.beq v' u) (sel (Nat.beq (tagOf u) 1) (ltb (payOf u) 18446744073709551616) (sel (Nat.beq u 18) true (Nat.beq u 2))) false = true := h'
            rw [sel_beq] at h2
            split at h2
            · assumption
            · cases h2
          subst huv
          have hl : litW v' = true := by
            unfold litW
            rcases litW_word (r := .bad 0) h' with ⟨a, b⟩ | a | a
            · rw [sel_ltb, if_pos (by have := wordOf v'; rw [a, mk_eq] at this; omega), a, sel_beq, if_pos rfl]; exact (ltb_iff _ _).2 b
            · rw [a]; rfl
            · rw [a]; rfl
          exact ⟨hl, litV_of hl hx⟩
        | row e m ch =>
          have h' : isRowE H' v' e m ch (fun _ => true) = true := h
          obtain ⟨b, rb, d, sz, cp, g, rfl, hnr, _, _, _, _, _, _⟩ := isRowE_inv c2 hx h'
          exact ⟨rb, d, cp, rfl, hnr⟩
        | rows l =>
          have h' : sel (sel (Nat.beq (tagOf v') 4) (sel (Nat.beq (sLen (payOf v')) (lenN l)) (sel (Nat.beq (sEs (payOf v')) 1) (sel (Nat.beq (sOff (payOf v')) 0) (sel (Nat.beq (lenN l) 0) false (sel (Nat.beq (sBlk (payOf v')) 0) false true)) false) false) false) false)
            (match tget H' (Nat.pred (sBlk (payOf v'))) with
             | some (.cells nb cb g keep since _) => sel (sel (Nat.beq g 0) false (sel (validE H' (Nat.pred (sBlk (payOf v'))) g keep since) (Nat.ble (lenN l) nb) false)) (isRowsE H' l cb [g]) false
             | _ => false) false = true := h
          rw [sel_eq] at h'
          split at h'
          · rename_i g0
            rw [sel_beq] at g0
            split at g0
            · rename_i h4
              rw [sel_beq] at g0
              split at g0
              · rename_i hlen
                rw [sel_beq] at g0
                split at g0
                · rename_i hes
                  rw [sel_beq] at g0
                  split at g0
                  · rename_i hof0
                    rw [sel_beq] at g0
                    split at g0
                    · cases g0
                    · rename_i hm0
                      rw [sel_beq] at g0
                      split at g0
                      · cases g0
                      · rename_i hbn
                        rcases hx.slice_inv h4 with ⟨rfl, _⟩ | ⟨b, es, off, m', kk, rb, dd, sz, cp, a, hb', he, ho, hm, hk, hmc, hbig, hk1, hcp, rfl, rfl⟩
                        · exact absurd s_nil.2.2.2.2.2 hbn
                        · obtain ⟨_, q1, q2, q3, q4, q5⟩ := s_parts b es off m' kk he ho hm hk
                          rw [q1, lenN_eq] at hlen; rw [q4] at hes; rw [q3] at hof0; rw [lenN_eq] at hm0
                          subst hlen; subst hes; subst hof0
                          rw [q5, Nat.pred_succ, lenN_eq] at h'
                          split at h'
                          · rename_i nb cb g keep since mx hget
                            rw [sel_eq] at h'
                            split at h'
                            · rename_i hc2
                              rw [sel_beq] at hc2
                              split at hc2
                              · cases hc2
                              · rename_i hg0
                                rw [sel_eq] at hc2
                                split at hc2
                                · rename_i hval
                                  have hle := Nat.le_of_ble_eq_true hc2
                                  have hL2 := c2.agree.2 _ _ hget
                                  have hlv := validE_iff c2.agree hL2 hval
                                  obtain ⟨k2, hk2, hbr⟩ := c2.sim.blk b _ hb'
                                  rw [hL2] at hk2; injection hk2 with hk2; subst hk2
                                  obtain ⟨cs', ty, fz, g1, g2, g3, g4, g5⟩ := hbr hlv
                                  obtain rfl := g4 hg0
                                  have hgrp : grp L2 b = g := grp_of hL2
                                  have hcp2 := hcp.resolve_left (by omega)
                                  have hbase : w.heap.size ≤ rb := c2.sim.rw b _ hb' (by rw [hgrp]; exact hg0)
                                  simp only at g2 g3 g5
                                  -- the elements
                                  have hvals : ∀ i, i < l.length → ∃ u, cs'[dd + i]? = some u ∧ VR ρ2 L2 (getW cb i) u := fun i hi => by
                                    obtain ⟨u, u1, u2, _⟩ := g5 i (by omega)
                                    exact ⟨u, u1, u2⟩
                                  have hvl : ((List.range l.length).map fun i => (cs'[dd + i]?).getD Go.undef).length = l.length := by simp
                                  obtain ⟨bs, hb1, hb2⟩ := isRowsE_inv c2 l cb [g] ((List.range l.length).map fun i => (cs'[dd + i]?).getD Go.undef) [rb] hvl (fun i hi => by
                                    have hi' : i < l.length := by simpa using hi
                                    obtain ⟨u, u1, u2⟩ := hvals i hi'
                                    simp only [List.getElem_map, List.getElem_range, u1, Option.getD_some]
                                    exact u2) h' (fun g' hg' => by
                                    simp only [List.mem_cons, List.not_mem_nil, or_false] at hg'
                                    subst hg'
                                    exact ⟨b, _, hlv, hgrp, hg0, hb', by simp⟩) (fun r hr => by
                                    simp only [List.mem_cons, List.not_mem_nil, or_false] at hr
                                    subst hr
                                    exact ⟨g, by simp, b, _, hlv, hgrp, hg0, hb', rfl⟩)
                                  refine ⟨rb, dd, cp, cs', ty, _, bs, by rw [hcp2.1]; rfl, hbase, hmc, hbig, g1, by have := hcp2.2; omega, hb1, fun hh => hb2 rb hh (by simp), hvl, fun i hi => ?_⟩
                                  obtain ⟨u, u1, _⟩ := hvals i hi
                                  rw [List.getElem?_map, List.getElem?_range hi, u1]
                                  simp [u1]
                                · cases hc2
                            · cases h'
                          · cases h'
                  · cases g0
                · cases g0
              · cases g0
            · cases g0
          · cases h'
    · cases hg
end Go.Eng

/- Laws on a code: trees of cases for whatever is asked of a run. -/
namespace Go.Eng
set_option linter.unusedSectionVars false
set_option linter.unusedSimpArgs false
set_option linter.unusedVariables false
open Go Go.RowKit
noncomputable section
/-- all answers to all questions -/
def chkP (p : OR → Bool) (run : Tab → OR) (k : Nat) : Tab → Bool :=
  Nat.rec (motive := fun _ => Tab → Bool) (fun _ => false)
    (fun _ ih tab => match run tab with
      | .ok v H n => p (.ok v H n)
      | .bad q => sel (ltb q 1099511627776) false
        (let j := Nat.pred (Nat.div q 1099511627776)
         let c := Nat.sub (Nat.mod q 1099511627776) 549755813888
         let both (lo hi : Nat) : Bool := sel (ltb lo 1000) (sel (ih ((j, lo, Nat.pred c) :: tab)) (ih ((j, c, hi) :: tab)) false) false
         sel (sel (Nat.ble 1 c) (Nat.ble c 1000) false) (tabGet tab j both (sel (okIx j) (both 0 (Nat.pred (Nat.mod j 4096))) false)) false)) k
end
theorem chkP_sound [E : Env] {p : OR → Bool} {code : List Int} {j0 : Nat} (hE : DrawE code j0) (hne : 1 ≤ code.length) {run : Tab → OR} {Q : Prop} (hrun : ∀ tab, TabOk tab → p (run tab) = true → Q) : ∀ (k : Nat) (tab : Tab), TabOk tab → chkP p run k tab = true → Q
  | 0, _, _, h => by cases h
  | k + 1, tab, hT, h => by
    have e : chkP p run (k + 1) tab = match run tab with
      | .ok v H n => p (.ok v H n)
      | .bad q => sel (ltb q 1099511627776) false
         (sel (sel (Nat.ble 1 (Nat.sub (Nat.mod q 1099511627776) 549755813888)) (Nat.ble (Nat.sub (Nat.mod q 1099511627776) 549755813888) 1000) false) (tabGet tab (Nat.pred (Nat.div q 1099511627776))
           (fun lo hi => sel (ltb lo 1000) (sel (chkP p run k ((Nat.pred (Nat.div q 1099511627776), lo, Nat.pred (Nat.sub (Nat.mod q 1099511627776) 549755813888)) :: tab)) (chkP p run k ((Nat.pred (Nat.div q 1099511627776), Nat.sub (Nat.mod q 1099511627776) 549755813888, hi) :: tab)) false) false)
           (sel (okIx (Nat.pred (Nat.div q 1099511627776))) (sel (ltb 0 1000) (sel (chkP p run k ((Nat.pred (Nat.div q 1099511627776), 0, Nat.pred (Nat.sub (Nat.mod q 1099511627776) 549755813888)) :: tab)) (chkP p run k ((Nat.pred (Nat.div q 1099511627776), Nat.sub (Nat.mod q 1099511627776) 549755813888, Nat.pred (Nat.mod (Nat.pred (Nat.div q 1099511627776)) 4096)) :: tab)) false) false) false)) false) := rfl
    rw [e] at h
    cases hr : run tab with
    | ok v H n =>
      rw [hr] at h
      exact hrun tab hT (by rw [hr]; exact h)
    | bad q =>
      rw [hr] at h
      dsimp only at h
      rw [sel_ltb] at h
      split at h
      · cases h
      · generalize Nat.pred (Nat.div q 1099511627776) = j at h
        generalize Nat.sub (Nat.mod q 1099511627776) 549755813888 = c at h
        cases hcc : sel (Nat.ble 1 c) (Nat.ble c 1000) false with
        | false => rw [hcc] at h; cases h
        | true =>
          rw [hcc, sel_true] at h
          rw [sel_ble] at hcc
          have hc2 : 1 ≤ c ∧ c ≤ 1000 := by
            split at hcc
            · exact ⟨by assumption, Nat.le_of_ble_eq_true hcc⟩
            · cases hcc
          have part : ∀ lo hi : Nat, (lo : Int) ≤ E.int j → E.int j ≤ hi → hi < 1000 → sel (ltb lo 1000) (sel (chkP p run k ((j, lo, Nat.pred c) :: tab)) (chkP p run k ((j, c, hi) :: tab)) false) false = true → Q := by
            intro lo hi h1 h2 h3 h
            rw [sel_ltb, if_pos (by omega)] at h
            have hp : Nat.pred c = c - 1 := rfl
            have hboth : chkP p run k ((j, lo, Nat.pred c) :: tab) = true ∧ chkP p run k ((j, c, hi) :: tab) = true := by
              cases hx : chkP p run k ((j, lo, Nat.pred c) :: tab) with
              | true => rw [hx] at h; exact ⟨rfl, h⟩
              | false => rw [hx] at h; cases h
            by_cases hlt : E.int j < c
            · refine chkP_sound hE hne hrun k _ ?_ hboth.1
              intro e he
              rcases List.mem_cons.1 he with rfl | he
              · exact .inl ⟨h1, by show E.int j ≤ ((Nat.pred c : Nat) : Int); rw [hp]; omega, by
                  show Nat.pred c < 1000
                  rw [hp]
                  omega⟩
              · exact hT e he
            · refine chkP_sound hE hne hrun k _ ?_ hboth.2
              intro e he
              rcases List.mem_cons.1 he with rfl | he
              · exact .inl ⟨by show (c : Int) ≤ E.int j; omega, h2, h3⟩
              · exact hT e he
          rcases tabGet_inv (j := j) tab hT with h0 | ⟨lo, hi, h0, h1⟩
          · rw [h0, sel_eq] at h
            split at h
            · rename_i hok
              unfold okIx at hok
              rw [sel_ltb, sel_ble] at hok
              split at hok
              · rename_i hp
                split at hok
                · rename_i hn1
                  have hn2 := Nat.le_of_ble_eq_true hok
                  have d1 : Nat.div j 4096 = j / 4096 := rfl
                  have d2 : Nat.mod j 4096 = j % 4096 := rfl
                  rw [d1] at hp
                  rw [d2] at hn1 hn2
                  have hi := hE.int (j / 4096) (j % 4096) hp hn1 hn2
                  have hr := pickv_range (c := code.take 2000) (fun x hx => hE.byte x (List.mem_of_mem_take hx)) (by simp; omega) hp hn1 hn2
                  rw [show j / 4096 * 4096 + j % 4096 = j from by omega] at hi
                  rw [← hi] at hr
                  have d3 : Nat.pred (Nat.mod j 4096) = j % 4096 - 1 := rfl
                  exact part 0 _ (by omega) (by rw [d3]; omega) (by rw [d3]; omega) h
                · cases hok
              · cases hok
            · cases h
          · rw [h0] at h
            rcases h1 with ⟨h1, h2, h3⟩ | ⟨h1, _⟩
            · exact part lo hi h1 h2 h3 h
            · simp only at h1
              rw [sel_ltb, if_neg (by omega)] at h
              cases h
/-- Whatever is drawn, one of the runs is it. -/
def CoversP (p : OR → Bool) (run : Tab → OR) (tab : Tab) : Prop :=
  ∀ (E : Env) (code : List Int) (j0 : Nat), @DrawE E code j0 → 1 ≤ code.length → @TabOk E tab → ∀ Q : Prop, (∀ E' : Env, E'.lst = E.lst → @DrawE E' code j0 → ∀ tab, @TabOk E' tab → p (run tab) = true → Q) → Q
theorem CoversP.of {p : OR → Bool} {run : Tab → OR} {tab : Tab} (k : Nat) (h : chkP p run k tab = true) : CoversP p run tab := fun E code j0 hE hne hT Q hrun => @chkP_sound E p code j0 hE hne run Q (hrun E rfl hE) k tab hT h
theorem CoversP.part {p : OR → Bool} {run : Tab → OR} {tab : Tab} (j : Nat) (hj : okIx j = true) (h : ∀ v, v < j % 4096 → CoversP p run ((j, v, v) :: tab)) : CoversP p run tab := by
  intro E code j0 hE hne hT Q hrun
  unfold okIx at hj
  rw [sel_ltb, sel_ble] at hj
  split at hj
  · rename_i hp
    split at hj
    · rename_i hn1
      have hn2 := Nat.le_of_ble_eq_true hj
      have d1 : Nat.div j 4096 = j / 4096 := rfl
      have d2 : Nat.mod j 4096 = j % 4096 := rfl
      rw [d1] at hp
      rw [d2] at hn1 hn2
      have hi := hE.int (j / 4096) (j % 4096) hp hn1 hn2
      have hr := pickv_range (c := code.take 2000) (fun x hx => hE.byte x (List.mem_of_mem_take hx)) (by simp; omega) hp hn1 hn2
      rw [show j / 4096 * 4096 + j % 4096 = j from by omega] at hi
      rw [← hi] at hr
      have hv : ((E.int j).toNat : Int) = E.int j := by omega
      refine h (E.int j).toNat (by omega) E code j0 hE hne ?_ Q hrun
      intro e he
      rcases List.mem_cons.1 he with rfl | he
      · exact .inl ⟨by show (((E.int j).toNat : Nat) : Int) ≤ E.int j; omega, by show E.int j ≤ (((E.int j).toNat : Nat) : Int); omega, by show (E.int j).toNat < 1000; omega⟩
      · exact hT e he
    · cases hj
  · cases hj
/-- parts of a range: nought, one (if told), and all others -/
theorem CoversP.two {p : OR → Bool} {run : Tab → OR} {tab : Tab} (j : Nat) (hj : okIx j = true) (h0 : CoversP p run ((j, 0, 0) :: tab)) (h1 : CoversP p run ((j, 1, j % 4096 - 1) :: tab)) : CoversP p run tab := by
  intro E code j0 hE hne hT Q hrun
  unfold okIx at hj
  rw [sel_ltb, sel_ble] at hj
  split at hj
  · rename_i hp
    split at hj
    · rename_i hn1
      have hn2 := Nat.le_of_ble_eq_true hj
      have d1 : Nat.div j 4096 = j / 4096 := rfl
      have d2 : Nat.mod j 4096 = j % 4096 := rfl
      rw [d1] at hp
      rw [d2] at hn1 hn2
      have hi := hE.int (j / 4096) (j % 4096) hp hn1 hn2
      have hr := pickv_range (c := code.take 2000) (fun x hx => hE.byte x (List.mem_of_mem_take hx)) (by simp; omega) hp hn1 hn2
      rw [show j / 4096 * 4096 + j % 4096 = j from by omega] at hi
      rw [← hi] at hr
      by_cases hv : E.int j = 0
      · refine h0 E code j0 hE hne ?_ Q hrun
        intro e he
        rcases List.mem_cons.1 he with rfl | he
        · exact .inl ⟨by show (((0 : Nat) : Int)) ≤ E.int j; omega, by show E.int j ≤ (((0 : Nat)) : Int); omega, by show (0 : Nat) < 1000; omega⟩
        · exact hT e he
      · refine h1 E code j0 hE hne ?_ Q hrun
        intro e he
        rcases List.mem_cons.1 he with rfl | he
        · exact .inl ⟨by show (((1 : Nat) : Int)) ≤ E.int j; omega, by show E.int j ≤ (((j % 4096 - 1 : Nat)) : Int); omega, by show j % 4096 - 1 < 1000; omega⟩
        · exact hT e he
    · cases hj
  · cases hj
theorem CoversP.three {p : OR → Bool} {run : Tab → OR} {tab : Tab} (j : Nat) (hj : okIx j = true) (h0 : CoversP p run ((j, 0, 0) :: tab)) (h1 : CoversP p run ((j, 1, 1) :: tab)) (h2 : CoversP p run ((j, 2, j % 4096 - 1) :: tab)) : CoversP p run tab := by
  intro E code j0 hE hne hT Q hrun
  unfold okIx at hj
  rw [sel_ltb, sel_ble] at hj
  split at hj
  · rename_i hp
    split at hj
    · rename_i hn1
      have hn2 := Nat.le_of_ble_eq_true hj
      have d1 : Nat.div j 4096 = j / 4096 := rfl
      have d2 : Nat.mod j 4096 = j % 4096 := rfl
      rw [d1] at hp
      rw [d2] at hn1 hn2
      have hi := hE.int (j / 4096) (j % 4096) hp hn1 hn2
      have hr := pickv_range (c := code.take 2000) (fun x hx => hE.byte x (List.mem_of_mem_take hx)) (by simp; omega) hp hn1 hn2
      rw [show j / 4096 * 4096 + j % 4096 = j from by omega] at hi
      rw [← hi] at hr
      by_cases hv : E.int j = 0
      · refine h0 E code j0 hE hne ?_ Q hrun
        intro e he
        rcases List.mem_cons.1 he with rfl | he
        · exact .inl ⟨by show (((0 : Nat) : Int)) ≤ E.int j; omega, by show E.int j ≤ (((0 : Nat)) : Int); omega, by show (0 : Nat) < 1000; omega⟩
        · exact hT e he
      · by_cases hv1 : E.int j = 1
        · refine h1 E code j0 hE hne ?_ Q hrun
          intro e he
          rcases List.mem_cons.1 he with rfl | he
          · exact .inl ⟨by show (((1 : Nat) : Int)) ≤ E.int j; omega, by show E.int j ≤ (((1 : Nat)) : Int); omega, by show (1 : Nat) < 1000; omega⟩
          · exact hT e he
        · refine h2 E code j0 hE hne ?_ Q hrun
          intro e he
          rcases List.mem_cons.1 he with rfl | he
          · exact .inl ⟨by show (((2 : Nat) : Int)) ≤ E.int j; omega, by show E.int j ≤ (((j % 4096 - 1 : Nat)) : Int); omega, by show j % 4096 - 1 < 1000; omega⟩
          · exact hT e he
    · cases hj
  · cases hj

/-- ██ Numbers that are drawn may be variables of sums of products. -/
theorem CoversP.pts {p : OR → Bool} {run : Tab → OR} {tab : Tab} (js : List Nat) (hjs : jsOk js = true) (hp : tabPlain tab = true) (h : CoversP p run (addPts js 8 tab)) : CoversP p run tab := by
  intro E code j0 hE hne hT Q hrun
  have hok := jsOk_inv hjs
  have hpl := tabPlain_inv hp
  have hE' : @DrawE (ptsEnv E js) code j0 := @DrawE.mk (ptsEnv E js) code j0 hE.l0 hE.l1 hE.byte (fun p n hp h1 h2 => (ptsEnv_low E js (by omega)).trans (hE.int p n hp h1 h2)) (fun p hp => (ptsEnv_low E js (by omega)).trans (hE.num0 p hp)) (fun p hp => (ptsEnv_low E js (by omega)).trans (hE.num1 p hp)) (fun _ _ h => by cases h)
  have key : ∀ (l pre : List Nat), js = pre ++ l → @TabOk (ptsEnv E js) (addPts l (8 + pre.length) tab) := by
    intro l
    induction l with
    | nil =>
      intro pre _ e he
      have he : e ∈ tab := he
      obtain ⟨h1, h2⟩ := hpl e he
      rcases hT e he with h3 | ⟨h3, _⟩
      · left
        rw [ptsEnv_low E js h1]
        exact h3
      · omega
    | cons j l ih =>
      intro pre hjsl e he
      have he : e ∈ (j, Nat.add 1000 (8 + pre.length), Nat.pred (Nat.mod j 4096)) :: addPts l (Nat.succ (8 + pre.length)) tab := he
      rcases List.mem_cons.1 he with rfl | he
      · right
        have hj := hok j (by rw [hjsl]; simp)
        obtain ⟨o1, o2, o3⟩ := okIx_inv hj
        have e1 : Nat.add 1000 (8 + pre.length) = 1000 + (8 + pre.length) := rfl
        have e2 : Nat.pred (Nat.mod j 4096) = j % 4096 - 1 := rfl
        have hjl : j < 2199023255552 := by omega
        have hi := hE.int (j / 4096) (j % 4096) o1 o2 o3
        have hr := pickv_range (c := code.take 2000) (fun x hx => hE.byte x (List.mem_of_mem_take hx)) (by simp; omega) o1 o2 o3
        rw [show j / 4096 * 4096 + j % 4096 = j from by omega] at hi
        rw [← hi] at hr
        simp only [e1, e2]
        have hlen : pre.length < js.length := by rw [hjsl]; simp
        refine ⟨by omega, ?_, by rw [ptsEnv_low E js hjl]; omega, by rw [ptsEnv_low E js hjl]; omega, by omega⟩
        rw [ptsEnv_low E js hjl, show 1000 + (8 + pre.length) - 1000 = 8 + pre.length from by omega, ptsEnv_var E js hlen]
        have : js.getD pre.length 0 = j := by rw [hjsl]; simp [List.getD_eq_getElem?_getD]
        rw [this]
      · exact ih (pre ++ [j]) (by rw [hjsl]; simp) e (by rw [show 8 + (pre ++ [j]).length = Nat.succ (8 + pre.length) from by simp; omega]; exact he)
  exact h (ptsEnv E js) code j0 hE' hne (key js [] rfl) Q (fun E'' hl hd tab' ht hr => hrun E'' (hl.trans rfl) hd tab' ht hr)

noncomputable section
def chkR (p : OR → Bool) (run : Tab → OR) (t : QT) : Tab → Bool :=
  QT.rec (motive := fun _ => Tab → Bool) (fun k tab => chkP p run k tab)
    (fun j _ ih tab => sel (okIx j) (allB (Nat.mod j 4096) fun v => ih v ((j, v, v) :: tab)) false)
    (fun j _ _ iha ihb tab => sel (okIx j) (sel (iha ((j, 0, 0) :: tab)) (ihb ((j, 1, Nat.pred (Nat.mod j 4096)) :: tab)) false) false)
    (fun j _ _ _ iha ihb ihc tab => sel (okIx j) (sel (iha ((j, 0, 0) :: tab)) (sel (ihb ((j, 1, 1) :: tab)) (ihc ((j, 2, Nat.pred (Nat.mod j 4096)) :: tab)) false) false) false)
    (fun js _ ih tab => sel (jsOk js) (sel (tabPlain tab) (ih (addPts js 8 tab)) false) false) t
end
theorem CoversP.tree {p : OR → Bool} {run : Tab → OR} (t : QT) : ∀ {tab : Tab}, chkR p run t tab = true → CoversP p run tab := by
  induction t with
  | of k => intro tab h; exact .of k h
  | part j f ih =>
    intro tab h
    have e : chkR p run (.part j f) tab = sel (okIx j) (allB (Nat.mod j 4096) fun v => chkR p run (f v) ((j, v, v) :: tab)) false := rfl
    rw [e] at h
    obtain ⟨h1, h2⟩ := sel_and h
    exact .part j h1 fun v hv => ih v (allB_all h2 v hv)
  | two j a b iha ihb =>
    intro tab h
    have e : chkR p run (.two j a b) tab = sel (okIx j) (sel (chkR p run a ((j, 0, 0) :: tab)) (chkR p run b ((j, 1, Nat.pred (Nat.mod j 4096)) :: tab)) false) false := rfl
    rw [e] at h
    obtain ⟨h1, h2⟩ := sel_and h
    obtain ⟨h2, h3⟩ := sel_and h2
    exact .two j h1 (iha h2) (ihb h3)
  | three j a b c iha ihb ihc =>
    intro tab h
    have e : chkR p run (.three j a b c) tab = sel (okIx j) (sel (chkR p run a ((j, 0, 0) :: tab)) (sel (chkR p run b ((j, 1, 1) :: tab)) (chkR p run c ((j, 2, Nat.pred (Nat.mod j 4096)) :: tab)) false) false) false := rfl
    rw [e] at h
    obtain ⟨h1, h2⟩ := sel_and h
    obtain ⟨h2, h3⟩ := sel_and h2
    obtain ⟨h3, h4⟩ := sel_and h3
    exact .three j h1 (iha h2) (ihb h3) (ihc h4)
  | pts js t ih =>
    intro tab h
    have e : chkR p run (.pts js t) tab = sel (jsOk js) (sel (tabPlain tab) (chkR p run t (addPts js 8 tab)) false) false := rfl
    rw [e] at h
    obtain ⟨h1, h2⟩ := sel_and h
    obtain ⟨h2, h3⟩ := sel_and h2
    exact .pts js h1 h2 (ih h3)
end Go.Eng

/- Laws on a code: what is drawn, told by itself. -/
namespace Go.Eng
set_option linter.unusedSectionVars false
set_option linter.unusedSimpArgs false
set_option linter.unusedVariables false
open Go Go.RowKit

noncomputable section
/-- a part of what is drawn: a word (a number or a text that is known, a variable of sums of products); a new row of such words; a slice without elements -/
inductive DI where
  | cell (t : Nat)
  | row (ts : List Nat)
  | emp
  /-- a struct of two words and a new row of words -/
  | sum (w d : Nat) (ts : List Nat)

def pvOf (t : Nat) : Nat := Nat.sub (vIx (payOf t)) 2199023255552
def asgGet (asg : List (Nat × Nat)) (i : Nat) : Nat := List.rec (motive := fun _ => Nat) 15 (fun e _ ih => sel (Nat.beq e.1 i) e.2 ih) asg
def withinK (lo hi : Nat) : Nat → Nat → Nat → Nat → Nat → Nat → OR := fun _ _ s _ l h => sel (Nat.ble (Nat.add lo 9223371487098961920) l) (sel (Nat.ble h (Nat.add hi 9223371487098961920)) (sel (ltb s 4611686018427387904) (.ok 18 .nil 0) (.bad 0)) (.bad 0)) (.bad 0)
def isOk (r : OR) : Bool := match r with | .ok _ _ _ => true | .bad _ => false
def withinP (H : Trie) (c lo hi : Nat) : Bool := isOk (pget H c (withinK lo hi))
/-- a variable between bounds, or a sum of products that is known to lie between them -/
def within (H : Trie) (c lo hi : Nat) : Bool :=
  sel (Nat.beq (tagOf c) 12) (sel (Nat.beq (vLo (payOf c)) 0) false (sel (Nat.beq (vHi (payOf c)) 0) false (sel (Nat.ble lo (vLo (payOf c))) (Nat.ble (vHi (payOf c)) hi) false))) (withinP H c lo hi)
def isVar (t : Nat) : Bool := sel (Nat.beq (tagOf t) 12) (sel (Nat.ble 2199023255552 (vIx (payOf t))) (sel (pvOk (pvOf t)) (sel (Nat.beq (vLo (payOf t)) 0) false (sel (Nat.beq (vHi (payOf t)) 0) false true)) false) false) false
def cellOk (H : Trie) (asg : List (Nat × Nat)) (t c : Nat) : Bool :=
  sel (isVar t) (sel (Nat.beq (asgGet asg (pvOf t)) c) (within H c (vLo (payOf t)) (vHi (payOf t))) false)
    (sel (sel (litW t) true (isStr t)) (Nat.beq c t) false)
def cellsOk (H : Trie) (asg : List (Nat × Nat)) (ts : List Nat) : Nat → Bool := List.rec (motive := fun _ => Nat → Bool) (fun _ => true) (fun t _ ih c => sel (cellOk H asg t (getW c 0)) (ih (Nat.shiftRight c 128)) false) ts
def drowE (H : Trie) (asg : List (Nat × Nat)) (w : Nat) (ts : List Nat) (k : Nat → Bool) : Bool :=
  sel (sel (Nat.beq (tagOf w) 4) (sel (Nat.beq (sLen (payOf w)) (lenN ts)) (sel (Nat.beq (sEs (payOf w)) 1) (sel (Nat.beq (sOff (payOf w)) 0) (sel (Nat.beq (lenN ts) 0) false (sel (Nat.beq (sBlk (payOf w)) 0) false true)) false) false) false) false)
    (match tget H (Nat.pred (sBlk (payOf w))) with
     | some (.cells nb cb g keep since _) => sel (sel (Nat.beq g 0) false (sel (validE H (Nat.pred (sBlk (payOf w))) g keep since) (sel (Nat.ble (lenN ts) nb) (cellsOk H asg ts cb) false) false)) (k g) false
     | _ => false) false
def empE (w : Nat) : Bool := sel (Nat.beq w 14) true (sel (Nat.beq (tagOf w) 4) (sel (Nat.beq (sLen (payOf w)) 0) (sel (Nat.beq (sCap (payOf w)) 1) (sel (Nat.beq (sBlk (payOf w)) 0) false true) false) false) false)
def itemsOk (H : Trie) (asg : List (Nat × Nat)) (l : List DI) : Nat → List Nat → Bool :=
  List.rec (motive := fun _ => Nat → List Nat → Bool) (fun _ _ => true)
    (fun x _ ih c gs => DI.rec (motive := fun _ => Bool) (fun t => sel (cellOk H asg t (getW c 0)) (ih (Nat.shiftRight c 128) gs) false)
      (fun ts => drowE H asg (getW c 0) ts fun g => sel (noneE gs g) (ih (Nat.shiftRight c 128) (g :: gs)) false)
      (sel (empE (getW c 0)) (ih (Nat.shiftRight c 128) gs) false)
      (fun w d ts => sel (Nat.beq (tagOf (getW c 0)) 6) (match tget H (payOf (getW c 0)) with
        | some (.box 0 m c') => sel (sel (Nat.beq m 3) (sel (cellOk H asg w (getW c' 0)) (cellOk H asg d (getW c' 1)) false) false) (drowE H asg (getW c' 2) ts fun g => sel (noneE gs g) (ih (Nat.shiftRight c 128) (g :: gs)) false) false
        | _ => false) false) x) l
def asgCells (ts : List Nat) : Nat → List (Nat × Nat) → List (Nat × Nat) := List.rec (motive := fun _ => Nat → List (Nat × Nat) → List (Nat × Nat)) (fun _ a => a) (fun t _ ih c a => ih (Nat.shiftRight c 128) (sel (isVar t) ((pvOf t, getW c 0) :: a) a)) ts
def asgItems (H : Trie) (l : List DI) : Nat → List (Nat × Nat) → List (Nat × Nat) :=
  List.rec (motive := fun _ => Nat → List (Nat × Nat) → List (Nat × Nat)) (fun _ a => a)
    (fun x _ ih c a => ih (Nat.shiftRight c 128) (DI.rec (motive := fun _ => List (Nat × Nat)) (fun t => sel (isVar t) ((pvOf t, getW c 0) :: a) a)
      (fun ts => match tget H (Nat.pred (sBlk (payOf (getW c 0)))) with | some (.cells _ cb _ _ _ _) => asgCells ts cb a | _ => a) a
      (fun w d ts => match tget H (payOf (getW c 0)) with
        | some (.box 0 m c') => (match tget H (Nat.pred (sBlk (payOf (getW c' 2)))) with | some (.cells _ cb _ _ _ _) => asgCells ts cb a | _ => a)
        | _ => a) x)) l
/-- the cells of what is drawn: of a tuple, or itself -/
def drewC (one : Bool) (l : List DI) (v : Nat) (H : Trie) (k : Nat → Bool) : Bool :=
  sel one (sel (ltb v 340282366920938463463374607431768211456) (sel (Nat.beq (lenN l) 1) (k v) false) false)
    (sel (Nat.beq (tagOf v) 6) (match tget H (payOf v) with | some (.box 1 m c) => sel (Nat.beq m (lenN l)) (k c) false | _ => false) false)
def isDrew (one : Bool) (l : List DI) (r : OR) : Bool := match r with | .bad _ => false | .ok v H _ => drewC one l v H fun c => itemsOk H (asgItems H l c []) l c []

/-- what is drawn, laid down -/
def putItems (l : List DI) : Trie → Nat → List Nat → Lay :=
  List.rec (motive := fun _ => Trie → Nat → List Nat → Lay) (fun H n ws => ⟨H, n, ws⟩)
    (fun x _ ih H n ws => DI.rec (motive := fun _ => Lay) (fun t => ih H n (ws ++ [t]))
      (fun ts => ih (hset H n (.cells (lenN ts) (listW ts) (Nat.succ n) n n (lenN ts))) (Nat.succ n) (ws ++ [wS n 1 0 (lenN ts) 0]))
      (ih H n (ws ++ [14]))
      (fun w d ts => ih (hset (hset H n (.cells (lenN ts) (listW ts) (Nat.succ n) n n (lenN ts))) (Nat.succ n) (.box 0 3 (listW [w, d, wS n 1 0 (lenN ts) 0]))) (Nat.succ (Nat.succ n)) (ws ++ [mk 6 (Nat.succ n)])) x) l
def okDI (l : List DI) : Bool := List.rec (motive := fun _ => Bool) true (fun x _ ih => DI.rec (motive := fun _ => Bool) (fun _ => ih) (fun ts => sel (ltb (lenN ts) 1048576) ih false) ih (fun _ _ ts => sel (ltb (lenN ts) 1048576) ih false) x) l
def headW (l : List Nat) : Nat := List.rec (motive := fun _ => Nat) 15 (fun x _ _ => x) l
def finD (one : Bool) (m : Nat) (y : Lay) : OR := sel one (.ok (headW y.ws) y.H y.n) (newBox y.H y.n 1 m (listW y.ws) (mk 6 y.n))
def drewS (fd : Nat) (one : Bool) (l : List DI) (j0 : Nat) : Sums := fun f args H n =>
  sel (Nat.beq f fd) (match args with
    | [s] => gd (Nat.beq (tagOf s) 11) (gd (Nat.beq (oIx (payOf s)) j0) (gd (isCode j0 H (oBlk (payOf s))) (gd (Nat.ble 1 (oLo (payOf s))) (gd (Nat.ble (oHi (payOf s)) 1048576) (gd (sel (Nat.beq (oHi (payOf s)) 0) false true) (gd (ltb (putItems l H n []).n 16000) (gd (okDI l)
        (.yes (finD one (lenN l) (putItems l H n []))))))))))
    | _ => .no) .no
end

/-! ### what a word tells, wherever it lies -/
theorem pget_form {H H' : Trie} {x v n' : Nat} {k0 : Nat → Nat → Nat → Nat → Nat → Nat → OR} (h : pget H x k0 = .ok v H' n') : ∃ p q s d lo hi, ∀ k, pget H x k = k p q s d lo hi := by
  cases h1 : Nat.beq (tagOf x) 1 with
  | true =>
    cases h2 : ltb (payOf x) 9223372036854775808 with
    | true => exact ⟨_, _, _, _, _, _, fun k => by unfold pget; rw [h1, sel_true, h2, sel_true]⟩
    | false => exact ⟨_, _, _, _, _, _, fun k => by unfold pget; rw [h1, sel_true, h2, sel_false]⟩
  | false =>
    cases h3 : Nat.beq (tagOf x) 12 with
    | true =>
      cases h4 : sel (Nat.ble 2199023255552 (vIx (payOf x))) (pvOk (Nat.sub (vIx (payOf x)) 2199023255552)) false with
      | true =>
        cases h7 : knownV (payOf x) with
        | true => exact ⟨_, _, _, _, _, _, fun k => by unfold pget; rw [h1, sel_false, h3, sel_true, h4, sel_true, h7, sel_true]⟩
        | false => exact ⟨_, _, _, _, _, _, fun k => by unfold pget; rw [h1, sel_false, h3, sel_true, h4, sel_true, h7, sel_false]⟩
      | false => exfalso; unfold pget at h; rw [h1, sel_false, h3, sel_true, h4] at h; cases h
    | false =>
      cases h5 : sel (Nat.beq (tagOf x) 7) (Nat.beq (xKind (payOf x)) 0) false with
      | true =>
        cases h6 : tget H (xNum (payOf x)) with
        | none => exfalso; unfold pget at h; rw [h1, sel_false, h3, sel_false, h5, sel_true, h6] at h; cases h
        | some b =>
          cases b with
          | poly p q s d lo hi => exact ⟨p, q, s, d, lo, hi, fun k => by unfold pget; rw [h1, sel_false, h3, sel_false, h5, sel_true, h6]⟩
          | _ => exfalso; unfold pget at h; rw [h1, sel_false, h3, sel_false, h5, sel_true, h6] at h; cases h
      | false => exfalso; unfold pget at h; rw [h1, sel_false, h3, sel_false, h5] at h; cases h

/-- the int of a word -/
def IsV (E : Env) (H : Trie) (c : Nat) (z : Int) : Prop := ∃ p q s d lo hi, (∀ k, pget H c k = k p q s d lo hi) ∧ @PolyZ E p q s d lo hi z
noncomputable def valW (E : Env) (H : Trie) (c : Nat) : Int := open Classical in if tagOf c = 12 then E.int (vIx (payOf c)) else if h : ∃ z, IsV E H c z then Classical.choose h else 0
theorem IsV.range {E : Env} {H : Trie} {c : Nat} {z : Int} (h : IsV E H c z) : -9223372036854775808 ≤ z ∧ z < 9223372036854775808 := by
  obtain ⟨p, q, s, d, lo, hi, _, h1, h2, h3, h4, _⟩ := h
  omega
theorem valW_range (E : Env) (H : Trie) (c : Nat) : -9223372036854775808 ≤ valW E H c ∧ valW E H c < 9223372036854775808 := by
  unfold valW
  split
  · exact E.wf _
  · split
    · rename_i h; exact (Classical.choose_spec h).range
    · omega
theorem pget_same {H : Trie} {c p q s d lo hi p' q' s' d' lo' hi' : Nat} (h : ∀ k : Nat → Nat → Nat → Nat → Nat → Nat → OR, pget H c k = k p q s d lo hi) (h' : ∀ k : Nat → Nat → Nat → Nat → Nat → Nat → OR, pget H c k = k p' q' s' d' lo' hi') : p = p' ∧ q = q' ∧ s = s' ∧ d = d' ∧ lo = lo' ∧ hi = hi' := by
  have key : ∀ f : Nat → Nat → Nat → Nat → Nat → Nat → Nat, f p q s d lo hi = f p' q' s' d' lo' hi' := fun f => by
    have a := (h (fun a b c d e g => .bad (f a b c d e g))).symm.trans (h' _)
    injection a
  exact ⟨key fun a _ _ _ _ _ => a, key fun _ a _ _ _ _ => a, key fun _ _ a _ _ _ => a, key fun _ _ _ a _ _ => a, key fun _ _ _ _ a _ => a, key fun _ _ _ _ _ a => a⟩
theorem valW_eq {E : Env} {H : Trie} {c : Nat} {z : Int} (h : IsV E H c z) {lo hi : Nat} (h12 : tagOf c ≠ 12) (hw : withinP H c lo hi = true) : valW E H c = z ∧ (lo : Int) - 549755813888 ≤ z ∧ z ≤ (hi : Int) - 549755813888 := by
  obtain ⟨p, q, s, d, l, u, hf, Z⟩ := h
  unfold withinP at hw
  rw [hf] at hw
  unfold withinK at hw
  rw [sel_ble] at hw
  split at hw
  · rename_i b1
    rw [sel_ble] at hw
    split at hw
    · rename_i b2
      rw [sel_ltb] at hw
      split at hw
      · rename_i b3
        have a1 : Nat.add lo 9223371487098961920 = lo + 9223371487098961920 := rfl
        have a2 : Nat.add hi 9223371487098961920 = hi + 9223371487098961920 := rfl
        rw [a1] at b1
        rw [a2] at b2
        have hz1 := Z.low
        have hz2 := Z.high
        refine ⟨?_, by omega, by omega⟩
        unfold valW
        rw [if_neg h12, dif_pos ⟨z, p, q, s, d, l, u, hf, Z⟩]
        obtain ⟨p', q', s', d', l', u', hf', Z'⟩ := Classical.choose_spec (⟨z, p, q, s, d, l, u, hf, Z⟩ : ∃ z, IsV E H c z)
        obtain ⟨e1, e2, e3, e4, e5, e6⟩ := pget_same hf hf'
        subst e1; subst e2; subst e3; subst e4; subst e5; subst e6
        generalize Classical.choose (⟨z, p, q, s, d, l, u, hf, Z⟩ : ∃ z, IsV E H c z) = z' at Z' ⊢
        obtain ⟨g1, g2, g3, g4, r, R, g5⟩ := Z
        obtain ⟨f1, f2, f3, f4, r', R', f5⟩ := Z'
        have := PolyR.same R R' (by omega) (by omega)
        omega
      · cases hw
    · cases hw
  · cases hw

/-- the surroundings in which the variables are these ints -/
@[reducible] noncomputable def pvEnv (E : Env) (x : Nat → Int) (hx : ∀ i, -9223372036854775808 ≤ x i ∧ x i < 9223372036854775808) : Env where
  int := fun k => if 2199023255552 ≤ k then x (k - 2199023255552) else E.int k
  lst := E.lst
  wf := fun k => by
    split
    · exact hx _
    · exact E.wf _
  len := fun j hj => by
    have e : lenIx j = 1099511627776 + j := rfl
    rw [if_neg (by rw [e]; omega)]
    exact E.len j hj
  byThree := E.byThree
  notThree := E.notThree
  txt := E.txt
  txtNe := E.txtNe
theorem pvEnv_var (E : Env) (x : Nat → Int) (hx) (i : Nat) : (pvEnv E x hx).int (pvIx i) = x i := by
  have e3 : pvIx i = 2199023255552 + i := rfl
  show (if 2199023255552 ≤ pvIx i then x (pvIx i - 2199023255552) else E.int (pvIx i)) = _
  rw [e3, if_pos (by omega), show 2199023255552 + i - 2199023255552 = i from by omega]

/-- what a word of a drawn part stands for -/
def HoldsT (E : Env) (t : Nat) (v : Value) : Prop := @VR E (fun _ => none) (fun _ => none) t v ∧ storable t = true
theorem HoldsT.vr {E : Env} {t : Nat} {v : Value} (h : HoldsT E t v) (ρ : Rho) (L : Look) : @VR E ρ L t v :=
  @VR.mono0 E (fun _ => none) ρ (fun _ => none) L ⟨fun _ _ h => (by cases h), fun _ _ _ _ h => (by cases h), fun _ _ _ _ _ _ _ h => (by cases h), fun _ h => (by rcases h with h | h <;> cases h)⟩ t v h.1

theorem isVar_inv {t : Nat} (h : isVar t = true) : tagOf t = 12 ∧ 2199023255552 ≤ vIx (payOf t) ∧ pvOf t < 40 ∧ vLo (payOf t) ≠ 0 ∧ vHi (payOf t) ≠ 0 ∧ t = wV (pvIx (pvOf t)) (vLo (payOf t)) (vHi (payOf t)) ∧ vLo (payOf t) < 1099511627776 ∧ vHi (payOf t) < 1099511627776 := by
  unfold isVar at h
  rw [sel_beq] at h
  split at h
  · rename_i h1
    rw [sel_ble] at h
    split at h
    · rename_i h2
      rw [sel_eq] at h
      split at h
      · rename_i h3
        have h3 : pvOf t < 40 := by
          unfold pvOk at h3
          rw [sel_ltb, sel_ble] at h3
          split at h3
          · omega
          · split at h3
            · exact (ltb_iff _ _).1 h3
            · cases h3
        rw [sel_beq] at h
        split at h
        · cases h
        · rename_i h4
          rw [sel_beq] at h
          split at h
          · cases h
          · rename_i h5
            have e1 : payOf t = t / 16 := rfl
            have e2 : tagOf t = t % 16 := rfl
            have e3 : vHi (payOf t) = payOf t % 1099511627776 := rfl
            have e4 : vLo (payOf t) = payOf t / 1099511627776 % 1099511627776 := rfl
            have e5 : vIx (payOf t) = payOf t / 1208925819614629174706176 := rfl
            have e6 : pvOf t = vIx (payOf t) - 2199023255552 := rfl
            refine ⟨h1, h2, h3, h4, h5, ?_, by rw [e4]; omega, by rw [e3]; omega⟩
            show t = 16 * (1099511627776 * (1099511627776 * (2199023255552 + pvOf t) + vLo (payOf t)) + vHi (payOf t)) + 12
            rw [e6, e3, e4]
            rw [e5] at h2 ⊢
            generalize payOf t = p at *
            omega
      · cases h
    · cases h
  · cases h

section
variable {base n : Nat} {H : Trie} {ρ : Rho} {L : Look} {w : World}
theorem cell_holds {E : Env} (c : @Ctx E base H n ρ L w) {asg : List (Nat × Nat)} (hx) {t cw : Nat} {v : Value} (hv : @VR E ρ L cw v) (hlt : cw < 2 ^ 128) (h : cellOk H asg t cw = true) :
    HoldsT (pvEnv E (fun i => valW E H (asgGet asg i)) hx) t v := by
  unfold cellOk at h
  rw [sel_eq] at h
  split at h
  · rename_i hvar
    obtain ⟨h1, h2, h3, h4, h5, h6, h7, h8⟩ := isVar_inv hvar
    rw [sel_beq] at h
    split at h
    · rename_i ha
      have key : ∃ z, v = .int .i64 z ∧ valW E H cw = z ∧ (vLo (payOf t) : Int) - 549755813888 ≤ z ∧ z ≤ (vHi (payOf t) : Int) - 549755813888 := by
        unfold within at h
        rw [sel_beq] at h
        split at h
        · rename_i h12
          rw [sel_beq] at h
          split at h
          · cases h
          · rename_i n1
            rw [sel_beq] at h
            split at h
            · cases h
            · rename_i n2
              rw [sel_ble] at h
              split at h
              · rename_i m1
                have m2 := Nat.le_of_ble_eq_true h
                obtain ⟨j, lo, hi, q1, q2, q3, q4, e1, e2⟩ := hv.var_inv h12
                obtain ⟨y1, y2, y3⟩ := v_parts j lo hi q1 q2
                rw [e1, y2] at n1 m1
                rw [e1, y1] at n2 m2
                refine ⟨_, e2, ?_, ?_, ?_⟩
                · unfold valW
                  rw [if_pos h12, e1, y3]
                · rcases q3 with q | q <;> omega
                · rcases q4 with q | q <;> omega
              · cases h
        · rename_i h12
          have h12 : tagOf cw ≠ 12 := h12
          obtain ⟨p, q, s, d, lo, hi, hf⟩ : ∃ p q s d lo hi, ∀ k, pget H cw k = k p q s d lo hi := by
            cases hp : pget H cw (withinK (vLo (payOf t)) (vHi (payOf t))) with
            | bad q => unfold withinP at h; rw [hp] at h; cases h
            | ok a b c => exact pget_form hp
          obtain ⟨p', q', s', d', lo', hi', z, rfl, Z, hk⟩ := @pget_sound E base H n _ ρ L w c cw v hv (fun a b c d e g => open Classical in if a = p ∧ b = q ∧ c = s ∧ d = d ∧ e = lo ∧ g = hi then .ok 18 .nil 0 else .bad 0) _ _ (by rw [hf, if_pos ⟨rfl, rfl, rfl, rfl, rfl, rfl⟩])
          have hz : IsV E H cw z := by
            obtain ⟨p2, q2, s2, d2, lo2, hi2, z2, e2, Z2, hk2⟩ := @pget_sound E base H n _ ρ L w c cw _ hv (fun a b c d' e g => open Classical in if a = p ∧ b = q ∧ c = s ∧ d' = d ∧ e = lo ∧ g = hi then .ok 18 .nil 0 else .bad 0) _ _ (by rw [hf, if_pos ⟨rfl, rfl, rfl, rfl, rfl, rfl⟩])
            injection e2 with _ e2
            subst e2
            split at hk2
            · rename_i he
              obtain ⟨rfl, rfl, rfl, rfl, rfl, rfl⟩ := he
              exact ⟨_, _, _, _, _, _, hf, Z2⟩
            · cases hk2
          obtain ⟨v1, v2, v3⟩ := valW_eq hz h12 h
          exact ⟨_, rfl, v1, v2, v3⟩
      obtain ⟨z, rfl, v1, v2, v3⟩ := key
      have hint : (pvEnv E (fun i => valW E H (asgGet asg i)) hx).int (pvIx (pvOf t)) = z := by rw [pvEnv_var, ha, v1]
      refine ⟨?_, ?_⟩
      · rw [h6, ← hint]
        exact @VR.var (pvEnv E (fun i => valW E H (asgGet asg i)) hx) _ _ _ _ _ h7 h8 (.inr (by rw [hint]; exact v2)) (.inr (by rw [hint]; exact v3))
      · rw [storable_iff, h1]
        refine ⟨by decide, by decide, by decide, ?_⟩
        rw [h6]
        show 16 * (1099511627776 * (1099511627776 * (2199023255552 + pvOf t) + vLo (payOf t)) + vHi (payOf t)) + 12 < _
        omega
    · cases h
  · rw [sel_eq] at h
    split at h
    · rename_i hl
      have := Nat.eq_of_beq_eq_true h
      subst this
      rw [sel_eq] at hl
      split at hl
      · rename_i hlw
        rw [@litV_of E ρ L cw v hlw hv]
        exact ⟨@litV_vr (pvEnv E (fun i => valW E H (asgGet asg i)) hx) _ _ _ hlw, litW_storable hlw⟩
      · obtain ⟨s, rfl, rfl⟩ := @VR.str_inv E ρ L cw v hv hl
        refine ⟨@VR.str (pvEnv E (fun i => valW E H (asgGet asg i)) hx) _ _ s, ?_⟩
        rw [storable_iff]
        have : tagOf (strW s) = 7 := tag_mk7 _
        rw [this]
        exact ⟨by decide, by decide, by decide, hlt⟩
    · cases h
end

/-! ### what comes back -/
/-- a new row -/
def DRow (E : Env) (s : Nat) (W : World) (rb d cp : Nat) (ts : List Nat) : Prop :=
  s ≤ rb ∧ ts.length ≤ cp ∧ cp < 9223372036854775808 ∧ ∃ cs ty, W.heap[rb]? = some (.cells cs ty (0, 0)) ∧ d + cp ≤ cs.size ∧ ∀ i, i < ts.length → ∃ u, cs[d + i]? = some u ∧ HoldsT E (ts.getD i 0) u
inductive NewItems (E : Env) (s : Nat) (W : World) : List DI → List Value → List Nat → Prop
  | nil : NewItems E s W [] [] []
  | cell (t : Nat) (v : Value) (l : List DI) (vs : List Value) (bs : List Nat) : HoldsT E t v → NewItems E s W l vs bs → NewItems E s W (.cell t :: l) (v :: vs) bs
  | emp (a : Addr) (l : List DI) (vs : List Value) (bs : List Nat) : NewItems E s W l vs bs → NewItems E s W (.emp :: l) (.slice (some a) 0 0 :: vs) bs
  | row (ts : List Nat) (rb d cp : Nat) (l : List DI) (vs : List Value) (bs : List Nat) : ts.length ≠ 0 → DRow E s W rb d cp ts → rb ∉ bs → NewItems E s W l vs bs → NewItems E s W (.row ts :: l) (.slice (some ⟨rb, d, none⟩) ts.length cp :: vs) (rb :: bs)
  | sum (t1 t2 : Nat) (v1 v2 : Value) (ts : List Nat) (rb d cp : Nat) (l : List DI) (vs : List Value) (bs : List Nat) : HoldsT E t1 v1 → HoldsT E t2 v2 → ts.length ≠ 0 → DRow E s W rb d cp ts → rb ∉ bs → NewItems E s W l vs bs → NewItems E s W (.sum t1 t2 ts :: l) (.agg #[v1, v2, .slice (some ⟨rb, d, none⟩) ts.length cp] :: vs) (rb :: bs)
theorem NewItems.len {E : Env} {s : Nat} {W : World} {l : List DI} {vs : List Value} {bs : List Nat} (h : NewItems E s W l vs bs) : vs.length = l.length := by
  induction h with
  | nil => rfl
  | cell _ _ _ _ _ _ _ ih => simp [ih]
  | emp _ _ _ _ _ ih => simp [ih]
  | row _ _ _ _ _ _ _ _ _ _ _ ih => simp [ih]
  | sum _ _ _ _ _ _ _ _ _ _ _ _ _ _ _ _ _ ih => simp [ih]
theorem NewItems.low {E : Env} {s : Nat} {W : World} {l : List DI} {vs : List Value} {bs : List Nat} (h : NewItems E s W l vs bs) : ∀ b ∈ bs, s ≤ b := by
  induction h with
  | nil => intro b hb; cases hb
  | cell _ _ _ _ _ _ _ ih => exact ih
  | emp _ _ _ _ _ ih => exact ih
  | row _ _ _ _ _ _ _ _ h2 _ _ ih =>
    intro b hb
    rcases List.mem_cons.1 hb with rfl | hb
    · exact h2.1
    · exact ih b hb
  | sum _ _ _ _ _ _ _ _ _ _ _ _ _ _ h2 _ _ ih =>
    intro b hb
    rcases List.mem_cons.1 hb with rfl | hb
    · exact h2.1
    · exact ih b hb

section
variable {base n : Nat} {H : Trie} {ρ : Rho} {L : Look} {w : World}
theorem cellsOk_inv {H : Trie} {asg : List (Nat × Nat)} : ∀ (ts : List Nat) (c : Nat), cellsOk H asg ts c = true → ∀ i, i < ts.length → cellOk H asg (ts.getD i 0) (getW c i) = true
  | [], c, _, i, h => by simp at h
  | t :: ts, c, h, i, hi => by
    have e : cellsOk H asg (t :: ts) c = sel (cellOk H asg t (getW c 0)) (cellsOk H asg ts (Nat.shiftRight c 128)) false := rfl
    rw [e] at h
    obtain ⟨h1, h2⟩ := sel_and h
    cases i with
    | zero => exact h1
    | succ i =>
      have h3 := cellsOk_inv ts (Nat.shiftRight c 128) h2 i (by simpa using hi)
      rw [@getW_shift noEnv] at h3
      exact h3
theorem drowE_inv {E : Env} (c : @Ctx E base H n ρ L w) {asg : List (Nat × Nat)} (hx) {x : Nat} {v : Value} (hv : @VR E ρ L x v) {ts : List Nat} {k : Nat → Bool} (h : drowE H asg x ts k = true) :
    ∃ b rb d sz cp g, v = .slice (some ⟨rb, d, none⟩) ts.length cp ∧ DRow (pvEnv E (fun i => valW E H (asgGet asg i)) hx) base w rb d cp ts ∧ k g = true ∧ live L b ∧ grp L b = g ∧ g ≠ 0 ∧ ρ b = some (rb, d, sz) ∧ ts.length ≠ 0 := by
  unfold drowE at h
  rw [sel_eq] at h
  split at h
  · rename_i h1
    rw [lenN_eq] at h1 h
    rw [sel_beq] at h1
    split at h1
    · rename_i h4
      rw [sel_beq] at h1
      split at h1
      · rename_i hlen
        rw [sel_beq] at h1
        split at h1
        · rename_i hes
          rw [sel_beq] at h1
          split at h1
          · rename_i hof0
            rw [sel_beq] at h1
            split at h1
            · cases h1
            · rename_i hm0
              rw [sel_beq] at h1
              split at h1
              · cases h1
              · rename_i hbn
                rcases @VR.slice_inv E ρ L x v hv h4 with ⟨rfl, _⟩ | ⟨b, es, off, m', kk, rb, d, sz, cp, a, hb, he, ho, hm, hk, hmc, hbig, hk1, hcp, rfl, rfl⟩
                · exact absurd s_nil.2.2.2.2.2 hbn
                · obtain ⟨_, q1, q2, q3, q4, q5⟩ := s_parts b es off m' kk he ho hm hk
                  rw [q1] at hlen; rw [q4] at hes; rw [q3] at hof0
                  subst hlen; subst hes; subst hof0
                  rw [q5, Nat.pred_succ] at h
                  split at h
                  · rename_i nb cb g keep since mx hget
                    rw [sel_eq] at h
                    split at h
                    · rename_i hc
                      rw [sel_beq] at hc
                      split at hc
                      · cases hc
                      · rename_i hg0
                        rw [sel_eq] at hc
                        split at hc
                        · rename_i hval
                          rw [sel_ble] at hc
                          split at hc
                          · rename_i hle
                            have hL := @Ctx.agree E base H n ρ L w c |>.2 _ _ hget
                            have hl := validE_iff (@Ctx.agree E base H n ρ L w c) hL hval
                            obtain ⟨k2, hk2, hbr⟩ := (@Ctx.sim E base H n ρ L w c).blk b _ hb
                            rw [hL] at hk2; injection hk2 with hk2; subst hk2
                            obtain ⟨cs, ty, fz, g1, g2, g3, g4, g5⟩ := hbr hl
                            obtain rfl := g4 hg0
                            have hgrp : grp L b = g := grp_of hL
                            have hcp2 := hcp.resolve_left (by omega)
                            have hbase : base ≤ rb := (@Ctx.sim E base H n ρ L w c).rw b _ hb (by rw [hgrp]; exact hg0)
                            simp only at g2 g3 g5
                            refine ⟨b, rb, d, sz, cp, g, by rw [hcp2.1]; rfl, ⟨hbase, hmc, hbig, cs, ty, g1, by have := hcp2.2; omega, fun i hi => ?_⟩, h, hl, hgrp, hg0, hb, hm0⟩
                            obtain ⟨u, u1, u2, u3⟩ := g5 i (by omega)
                            exact ⟨u, u1, cell_holds c hx u2 (getW_lt _ _) (cellsOk_inv ts cb hc i hi)⟩
                          · cases hc
                        · cases hc
                    · cases h
                  · cases h
          · cases h1
        · cases h1
      · cases h1
    · cases h1
  · cases h
theorem empE_inv {E : Env} {x : Nat} {v : Value} (hv : @VR E ρ L x v) (h : empE x = true) : ∃ a, v = .slice (some a) 0 0 := by
  unfold empE at h
  rw [sel_beq] at h
  split at h
  · rename_i h14
    subst h14
    exact @VR.sl0_inv E ρ L v 14 hv rfl
  · rw [sel_beq] at h
    split at h
    · rename_i h4
      rw [sel_beq] at h
      split at h
      · rename_i hlen
        rw [sel_beq] at h
        split at h
        · rename_i hcap
          rw [sel_beq] at h
          split at h
          · cases h
          · rename_i hbn
            rcases @VR.slice_inv E ρ L x v hv h4 with ⟨h5, _⟩ | ⟨b, es, off, m', kk, rb, d, sz, cp, a, hb, he, ho, hm, hk, hmc, hbig, hk1, hcp, h5, rfl⟩
            · rw [h5] at hbn; exact absurd s_nil.2.2.2.2.2 hbn
            · obtain ⟨_, q1, q2, q3, q4, q5⟩ := s_parts b es off m' kk he ho hm hk
              rw [h5, q1] at hlen
              rw [h5, q2] at hcap
              have hcp0 : cp = 0 := by omega
              subst hlen; subst hcp0
              exact ⟨a, rfl⟩
        · cases h
      · cases h
    · cases h

theorem itemsOk_inv {E : Env} (c : @Ctx E base H n ρ L w) {asg : List (Nat × Nat)} (hx) : ∀ (l : List DI) (ch : Nat) (gs : List Nat) (vs : List Value) (rs : List Nat), vs.length = l.length → (∀ i (h : i < vs.length), @VR E ρ L (getW ch i) vs[i]) →
    itemsOk H asg l ch gs = true → (∀ g ∈ gs, ∃ b r, live L b ∧ grp L b = g ∧ g ≠ 0 ∧ ρ b = some r ∧ r.1 ∈ rs) → (∀ r ∈ rs, ∃ g ∈ gs, ∃ b q, live L b ∧ grp L b = g ∧ g ≠ 0 ∧ ρ b = some q ∧ q.1 = r) →
    ∃ bs, NewItems (pvEnv E (fun i => valW E H (asgGet asg i)) hx) base w l vs bs ∧ ∀ r ∈ bs, r ∉ rs
  | [], ch, gs, vs, rs, hl, hv, h, hg, hr => by
    have : vs = [] := List.eq_nil_of_length_eq_zero (by simpa using hl)
    subst this
    exact ⟨[], .nil, by simp⟩
  | x :: l, ch, gs, [], rs, hl, hv, h, hg, hr => by simp at hl
  | x :: l, ch, gs, v :: vs, rs, hl, hv, h, hg, hr => by
    have hv0 : @VR E ρ L (getW ch 0) v := hv 0 (by simp)
    have hvt : ∀ i (h : i < vs.length), @VR E ρ L (getW (Nat.shiftRight ch 128) i) vs[i] := fun i hi => by
      letI : Env := E
      rw [getW_shift]
      have := hv (i + 1) (by simpa using hi)
      simpa using this
    cases x with
    | cell t =>
      have e : itemsOk H asg (.cell t :: l) ch gs = sel (cellOk H asg t (getW ch 0)) (itemsOk H asg l (Nat.shiftRight ch 128) gs) false := rfl
      rw [e] at h
      obtain ⟨h1, h2⟩ := sel_and h
      obtain ⟨bs, hb1, hb2⟩ := itemsOk_inv c hx l (Nat.shiftRight ch 128) gs vs rs (by simpa using hl) hvt h2 hg hr
      exact ⟨bs, .cell t v l vs bs (cell_holds c hx hv0 (getW_lt _ _) h1) hb1, hb2⟩
    | emp =>
      have e : itemsOk H asg (.emp :: l) ch gs = sel (empE (getW ch 0)) (itemsOk H asg l (Nat.shiftRight ch 128) gs) false := rfl
      rw [e] at h
      obtain ⟨h1, h2⟩ := sel_and h
      obtain ⟨bs, hb1, hb2⟩ := itemsOk_inv c hx l (Nat.shiftRight ch 128) gs vs rs (by simpa using hl) hvt h2 hg hr
      obtain ⟨a, rfl⟩ := empE_inv hv0 h1
      exact ⟨bs, .emp a l vs bs hb1, hb2⟩
    | row ts =>
      have e : itemsOk H asg (.row ts :: l) ch gs = drowE H asg (getW ch 0) ts (fun g => sel (noneE gs g) (itemsOk H asg l (Nat.shiftRight ch 128) (g :: gs)) false) := rfl
      rw [e] at h
      obtain ⟨b, rb, d, sz, cp, g, rfl, hnr, hk, hlive, hgrp, hg0, hρ, hm0⟩ := drowE_inv c hx hv0 h
      obtain ⟨hn, hk⟩ := sel_and hk
      have hng := noneE_inv gs g hn
      have hrs : rb ∉ rs := by
        intro hmem
        obtain ⟨g', hg', b', q, hl', hgr', hg0', hρ', hq⟩ := hr rb hmem
        have hne : grp L b ≠ grp L b' := by rw [hgrp, hgr']; intro hh; exact hng (hh ▸ hg')
        exact (@Ctx.sim E base H n ρ L w c).sep b b' _ q hρ hρ' hlive hl' (by rw [hgrp]; exact hg0) (by rw [hgr']; exact hg0') hne hq.symm
      obtain ⟨bs, hb1, hb2⟩ := itemsOk_inv c hx l (Nat.shiftRight ch 128) (g :: gs) vs (rb :: rs) (by simpa using hl) hvt hk (fun g' hg' => by
        rcases List.mem_cons.1 hg' with rfl | hg'
        · exact ⟨b, _, hlive, hgrp, hg0, hρ, by simp⟩
        · obtain ⟨b', r, a1, a2, a3, a4, a5⟩ := hg g' hg'
          exact ⟨b', r, a1, a2, a3, a4, by simp [a5]⟩) (fun r hrm => by
        rcases List.mem_cons.1 hrm with rfl | hrm
        · exact ⟨g, by simp, b, _, hlive, hgrp, hg0, hρ, rfl⟩
        · obtain ⟨g', a0, a1⟩ := hr r hrm
          exact ⟨g', by simp [a0], a1⟩)
      exact ⟨rb :: bs, .row ts rb d cp l vs bs hm0 hnr (fun hh => hb2 rb hh (by simp)) hb1, fun r hrm => by
        rcases List.mem_cons.1 hrm with rfl | hrm
        · exact hrs
        · exact fun hh => hb2 r hrm (by simp [hh])⟩
    | sum t1 t2 ts =>
      have e : itemsOk H asg (.sum t1 t2 ts :: l) ch gs = sel (Nat.beq (tagOf (getW ch 0)) 6) (match tget H (payOf (getW ch 0)) with
        | some (.box 0 m c') => sel (sel (Nat.beq m 3) (sel (cellOk H asg t1 (getW c' 0)) (cellOk H asg t2 (getW c' 1)) false) false) (drowE H asg (getW c' 2) ts fun g => sel (noneE gs g) (itemsOk H asg l (Nat.shiftRight ch 128) (g :: gs)) false) false
        | _ => false) false := rfl
      rw [e, sel_beq] at h
      split at h
      rotate_left
      · cases h
      rename_i h6
      obtain ⟨id, kd, m, cc, vs0, hw, hp, hL, hk0, hs0, hcells⟩ := @VR.box_inv E ρ L _ v hv0 h6
      split at h
      rotate_left
      · cases h
      rename_i m' c' hget
      have hL2 := (@Ctx.agree E base H n ρ L w c).2 _ _ hget
      rw [hp, hL] at hL2
      injection hL2 with hL2
      injection hL2 with q1 q2 q3
      subst q1; subst q2; subst q3
      obtain ⟨h1, hrow⟩ := sel_and h
      rw [sel_beq] at h1
      split at h1
      rotate_left
      · cases h1
      rename_i hm3
      subst hm3
      obtain ⟨ht1, ht2⟩ := sel_and h1
      have hv : v = .agg vs0 := by
        rcases hk0 with ⟨_, hk0⟩ | ⟨hk0, _⟩
        · exact hk0
        · omega
      subst hv
      obtain ⟨x1, x2, x3, rfl⟩ : ∃ x1 x2 x3, vs0 = #[x1, x2, x3] := by
        rcases vs0 with ⟨l0⟩
        match l0, hs0 with
        | [a, b, d], _ => exact ⟨a, b, d, rfl⟩
      have hc0 := hcells 0 (by simp)
      have hc1 := hcells 1 (by simp)
      have hc2 := hcells 2 (by simp)
      have hT1 := cell_holds c hx hc0 (getW_lt _ _) ht1
      have hT2 := cell_holds c hx hc1 (getW_lt _ _) ht2
      obtain ⟨b, rb, d, sz, cp, g, hx3, hnr, hk, hlive, hgrp, hg0, hρ, hm0⟩ := drowE_inv c hx hc2 hrow
      have hx3' : x3 = .slice (some ⟨rb, d, none⟩) ts.length cp := hx3
      subst hx3'
      obtain ⟨hn, hk⟩ := sel_and hk
      have hng := noneE_inv gs g hn
      have hrs : rb ∉ rs := by
        intro hmem
        obtain ⟨g', hg', b', q, hl', hgr', hg0', hρ', hq⟩ := hr rb hmem
        have hne : grp L b ≠ grp L b' := by rw [hgrp, hgr']; intro hh; exact hng (hh ▸ hg')
        exact (@Ctx.sim E base H n ρ L w c).sep b b' _ q hρ hρ' hlive hl' (by rw [hgrp]; exact hg0) (by rw [hgr']; exact hg0') hne hq.symm
      obtain ⟨bs, hb1, hb2⟩ := itemsOk_inv c hx l (Nat.shiftRight ch 128) (g :: gs) vs (rb :: rs) (by simpa using hl) hvt hk (fun g' hg' => by
        rcases List.mem_cons.1 hg' with rfl | hg'
        · exact ⟨b, _, hlive, hgrp, hg0, hρ, by simp⟩
        · obtain ⟨b', r, a1, a2, a3, a4, a5⟩ := hg g' hg'
          exact ⟨b', r, a1, a2, a3, a4, by simp [a5]⟩) (fun r hrm => by
        rcases List.mem_cons.1 hrm with rfl | hrm
        · exact ⟨g, by simp, b, _, hlive, hgrp, hg0, hρ, rfl⟩
        · obtain ⟨g', a0, a1⟩ := hr r hrm
          exact ⟨g', by simp [a0], a1⟩)
      exact ⟨rb :: bs, .sum t1 t2 x1 x2 ts rb d cp l vs bs hT1 hT2 hm0 hnr (fun hh => hb2 rb hh (by simp)) hb1, fun r hrm => by
        rcases List.mem_cons.1 hrm with rfl | hrm
        · exact hrs
        · exact fun hh => hb2 r hrm (by simp [hh])⟩
end

/-- what is known of a function that draws -/
structure DrawnK (E : Env) (P : Program) (fd : Nat) (one : Bool) (l : List DI) (j0 : Nat) : Prop where
  known : Known P fd
  calls : ∀ (w : World) (rb d sz c : Nat) (cs : Array Value) (ty : TypeId) (fz : Nat × Nat), w.heap[rb]? = some (.cells cs ty fz) → d + sz ≤ cs.size → (E.lst j0).length ≤ c → c ≤ sz → c < 9223372036854775808 →
    (∀ i, i < (E.lst j0).length → cs[d + i]? = (E.lst j0)[i]?) → 1 ≤ (E.lst j0).length → (E.lst j0).length ≤ 1048576 →
    Calls P fd #[.slice (some ⟨rb, d, none⟩) (E.lst j0).length c] w fun e w' => ∃ x vs bs, e = .returned x ∧ NewItems E w.heap.size w' l vs bs ∧ (one = true → vs = [x]) ∧ (one = false → x = .tuple vs.toArray) ∧ Below w.heap.size w w'

noncomputable def dRun (P : Program) (S0 : Sums) (fo fp fuel d fd : Nat) (j0 : Nat) (tab : Tab) : OR := funE P (callN P (orS (drawS fo fp tab j0) S0) fuel d) fuel fd [wO 0 j0 1 1048576] (hset .nil 0 (.opq j0 1)) 1
/-- ██ What a run draws is known. -/
theorem drawn_of {E : Env} {P : Program} {S0 : Sums} (hS0 : @SumS E P S0) {fo fp tS : Nat} (K : DrawK P fo fp tS) {code : List Int} {j0 : Nat} (hj0 : j0 < 1048576) (hE : @DrawE E code j0) {tab : Tab} (hT : @TabOk E tab) {one : Bool} {l : List DI} {fuel d fd : Nat}
    (h : isDrew one l (dRun P S0 fo fp fuel d fd j0 tab) = true) : ∃ x hx, DrawnK (pvEnv E x hx) P fd one l j0 := by
  cases hr : dRun P S0 fo fp fuel d fd j0 tab with
  | bad q => rw [hr] at h; cases h
  | ok v' H' n' =>
    rw [hr] at h
    -- the cells of what is drawn
    obtain ⟨ch, hch, hdrew⟩ : ∃ ch, itemsOk H' (asgItems H' l ch []) l ch [] = true ∧ (one = true ∧ ch = v' ∧ v' < 2 ^ 128 ∧ l.length = 1 ∨ one = false ∧ tagOf v' = 6 ∧ tget H' (payOf v') = some (.box 1 l.length ch)) := by
      have h : drewC one l v' H' (fun c => itemsOk H' (asgItems H' l c []) l c []) = true := h
      unfold drewC at h
      cases one with
      | true =>
        rw [sel_true, sel_ltb] at h
        split at h
        · rename_i hlt
          rw [sel_beq, lenN_eq] at h
          split at h
          · rename_i h1
            exact ⟨v', h, .inl ⟨rfl, rfl, hlt, h1⟩⟩
          · cases h
        · cases h
      | false =>
        rw [sel_false, sel_beq] at h
        split at h
        · rename_i h6
          split at h
          · rename_i m c hget
            rw [sel_beq, lenN_eq] at h
            split at h
            · rename_i hm
              subst hm
              exact ⟨c, h, .inr ⟨rfl, h6, hget⟩⟩
            · cases h
          · cases h
        · cases h
    refine ⟨fun i => valW E H' (asgGet (asgItems H' l ch []) i), fun i => valW_range E H' _, ?_⟩
    unfold dRun at hr
    refine ⟨known_of hr, ?_⟩
    intro w rb dd sz c cs ty fz hh hsz hlc hcs hbig hcell h1 h2 ccs
    letI : Env := E
    have hrb : rb < w.heap.size := (Array.getElem?_eq_some_iff.1 hh).1
    have hlst : (pvEnv E (fun i => valW E H' (asgGet (asgItems H' l ch []) i)) (fun i => valW_range E H' _)).lst j0 = E.lst j0 := rfl
    rw [hlst] at hlc hcell h1 h2
    have c0 := (Ctx.start w (fun k o h => absurd h (hE.kn k o))).opq (j := j0) (sz := sz) (d := dd) (by omega) hh hrb hsz (by omega) hcell
    have word := VR.opq (ρ := updR (fun _ => none) 0 (rb, dd, sz)) (L := upd (fun _ => none) 0 (.opq j0 1)) 0 j0 1 1048576 rb dd sz c (updR_same _ _ _) hj0 (by omega) (by omega) h1 (.inr h2) hlc hcs hbig
    obtain ⟨ρ2, L2, w', x, c2, _, hb, _, _, hx, _, hc⟩ := funE_sound (callN_sound P (orS_sound (drawS_sound K hE hT) hS0) fuel d) ccs c0 (vs := #[.slice (some ⟨rb, dd, none⟩) (E.lst j0).length c]) (.cons _ _ _ _ word .nil) hr
    obtain ⟨e, W, fr, ⟨he, hW⟩, h3⟩ := hc
    subst hW
    refine ⟨e, W, fr, ?_, h3⟩
    rcases hdrew with ⟨rfl, rfl, hlt, hl1⟩ | ⟨rfl, h6, hget⟩
    · have e0 : getW ch 0 = ch := by rw [getW_eq]; simpa using hlt
      obtain ⟨bs, hb1, _⟩ := itemsOk_inv c2 (fun i => valW_range E H' _) l ch [] [x] [] (by simp [hl1]) (fun i hi => by
        have : i = 0 := by simpa using hi
        subst this
        rw [e0]; exact hx) hch (fun g hg => by cases hg) (fun r hr => by cases hr)
      exact ⟨x, [x], bs, he, hb1, fun _ => rfl, fun hh => (by cases hh), hb⟩
    · obtain ⟨id, kd, m, cc, vs, hw, hp, hL, hk, hs, hcells⟩ := hx.box_inv h6
      have hL2 := c2.agree.2 _ _ hget
      rw [hp, hL] at hL2
      injection hL2 with hL2
      injection hL2 with q1 q2 q3
      subst q1; subst q2; subst q3
      have hxt : x = .tuple vs := by
        rcases hk with ⟨hk, _⟩ | ⟨_, hk⟩
        · omega
        · exact hk
      obtain ⟨bs, hb1, _⟩ := itemsOk_inv c2 (fun i => valW_range E H' _) l cc [] vs.toList [] (by simpa using hs) (fun i hi => by
        have := hcells i (by simpa using hi)
        simpa using this) hch (fun g hg => by cases hg) (fun r hr => by cases hr)
      exact ⟨x, vs.toList, bs, he, hb1, fun hh => (by cases hh), fun _ => by rw [hxt], hb⟩
end Go.Eng

/- Laws on a code: what is drawn is known, and the law is run on it. -/
namespace Go.Eng
set_option linter.unusedSectionVars false
set_option linter.unusedSimpArgs false
set_option linter.unusedVariables false
open Go Go.RowKit

section
variable [E : Env]
section
variable {base n : Nat} {H : Trie} {ρ : Rho} {L : Look} {w : World}
theorem listW_row {ts : List Nat} (h : ∀ i, i < ts.length → storable (ts.getD i 0) = true) : allSlot ts = true := allSlot_of _ fun x hx => by
  obtain ⟨i, hi, rfl⟩ := List.mem_iff_getElem.1 hx
  have := h i hi
  rw [List.getD_eq_getElem?_getD, List.getElem?_eq_getElem hi] at this
  exact ((storable_iff _).1 this).2.2.2
theorem adopt_drow (c : Ctx base H n ρ L w) (hn : n < 16384) {s rb d cp : Nat} {ts : List Nat} (hs : Low base s) (h : DRow E s w rb d cp ts) (h0 : ts.length ≠ 0) (hm : ts.length < 1048576) (hnew : ∀ b r, ρ b = some r → r.1 ≠ rb) :
    ∃ ρ' L', Ctx base (hset H n (.cells (lenN ts) (listW ts) (n + 1) n n (lenN ts))) (n + 1) ρ' L' w ∧ Ext ρ L ρ' L' ∧ VR ρ' L' (wS n 1 0 (lenN ts) 0) (.slice (some ⟨rb, d, none⟩) ts.length cp) ∧ (∀ b r, ρ' b = some r → ρ b = some r ∨ r.1 = rb) ∧ Loc H n ρ L ρ' L' := by
  obtain ⟨h1, h2, h3, cs, ty, h4, h5, h6⟩ := h
  rw [lenN_eq]
  have hsl : allSlot ts = true := listW_row fun i hi => by obtain ⟨u, _, q⟩ := h6 i hi; exact q.2
  obtain ⟨c1, e1⟩ := c.adopt (sz := cp) (len := ts.length) (ch := listW ts) hn h4 (Nat.le_trans hs.1 h1) (hs.2 _ h1) hnew h5 h2 (fun j hj => by
    obtain ⟨u, a, b⟩ := h6 j hj
    rw [getW_listW _ hsl]
    exact ⟨u, a, b.vr ρ L, b.2⟩)
  refine ⟨_, _, c1, e1, .slice n 1 0 ts.length 0 rb d cp cp _ (updR_same _ _ _) (by omega) (by omega) hm (by omega) h2 h3 (.inl rfl) (.inr ⟨by simp, by omega⟩), fun b r hr => ?_, .fresh _ _⟩
  by_cases hbn : b = n
  · subst hbn; rw [updR_same] at hr; injection hr with hr; subst hr; exact .inr rfl
  · rw [updR_ne _ _ hbn] at hr; exact .inl hr
theorem putItems_le : ∀ (l : List DI) (H : Trie) (n : Nat) (ws : List Nat), n ≤ (putItems l H n ws).n
  | [], H, n, ws => Nat.le_refl _
  | .cell t :: l, H, n, ws => putItems_le l H n (ws ++ [t])
  | .emp :: l, H, n, ws => putItems_le l H n (ws ++ [14])
  | .row ts :: l, H, n, ws => Nat.le_trans (Nat.le_succ n) (putItems_le l _ _ _)
  | .sum _ _ ts :: l, H, n, ws => Nat.le_trans (Nat.le_trans (Nat.le_succ n) (Nat.le_succ _)) (putItems_le l _ _ _)
theorem putItems_sound {s : Nat} : ∀ (l : List DI) (vs : List Value) (bs : List Nat) (H : Trie) (n : Nat) (ws : List Nat) (us : List Value) (ρ : Rho) (L : Look), Ctx base H n ρ L w → Low base s → NewItems E s w l vs bs → (putItems l H n ws).n < 16384 →
    okDI l = true → (∀ b r, ρ b = some r → r.1 ∉ bs) → AR ρ L ws us → (∀ x ∈ ws, x < 2 ^ 128) →
    ∃ ρ' L', Ctx base (putItems l H n ws).H (putItems l H n ws).n ρ' L' w ∧ Ext ρ L ρ' L' ∧ AR ρ' L' (putItems l H n ws).ws (us ++ vs) ∧ (∀ x ∈ (putItems l H n ws).ws, x < 2 ^ 128) ∧ Loc H n ρ L ρ' L'
  | [], vs, bs, H, n, ws, us, ρ, L, c, hs, hnr, hlt, hl, hbs, ha, hst => by
    cases hnr
    exact ⟨ρ, L, c, .refl _ _, by rw [List.append_nil]; exact ha, hst, .refl _ _ _ _⟩
  | x :: l, vs, bs, H, n, ws, us, ρ, L, c, hs, hnr, hlt, hl, hbs, ha, hst => by
    cases hnr with
    | cell t v _ vs' _ h0 h1 =>
      have hl' : okDI l = true := hl
      obtain ⟨ρ', L', c', e', ha', hst', hloc⟩ := putItems_sound l vs' bs H n (ws ++ [t]) (us ++ [v]) ρ L c hs h1 hlt hl' hbs (ha.app (.cons _ _ _ _ (h0.vr ρ L) .nil)) (fun y hy => by
        rcases List.mem_append.1 hy with hy | hy
        · exact hst y hy
        · simp at hy; subst hy; exact storable_lt h0.2)
      have ha2 : AR ρ' L' (putItems l H n (ws ++ [t])).ws (us ++ v :: vs') := by simpa using ha'
      exact ⟨ρ', L', c', e', ha2, hst', hloc⟩
    | emp a _ vs' _ h1 =>
      have hl' : okDI l = true := hl
      obtain ⟨ρ', L', c', e', ha', hst', hloc⟩ := putItems_sound l vs' bs H n (ws ++ [14]) (us ++ [.slice (some a) 0 0]) ρ L c hs h1 hlt hl' hbs (ha.app (.cons _ _ _ _ (.sl0 a) .nil)) (fun y hy => by
        rcases List.mem_append.1 hy with hy | hy
        · exact hst y hy
        · simp at hy; subst hy; omega)
      have ha2 : AR ρ' L' (putItems l H n (ws ++ [14])).ws (us ++ Value.slice (some a) 0 0 :: vs') := by simpa using ha'
      exact ⟨ρ', L', c', e', ha2, hst', hloc⟩
    | row ts rb d cp _ vs' bs' hm0 h1 h2 h3 =>
      have e : putItems (.row ts :: l) H n ws = putItems l (hset H n (.cells (lenN ts) (listW ts) (Nat.succ n) n n (lenN ts))) (Nat.succ n) (ws ++ [wS n 1 0 (lenN ts) 0]) := rfl
      have hl' : sel (ltb (lenN ts) 1048576) (okDI l) false = true := hl
      obtain ⟨q1, hl'⟩ := sel_and hl'
      have q1 := (ltb_iff _ _).1 q1
      rw [lenN_eq] at q1
      rw [e] at hlt ⊢
      have hle := putItems_le l (hset H n (.cells (lenN ts) (listW ts) (Nat.succ n) n n (lenN ts))) (Nat.succ n) (ws ++ [wS n 1 0 (lenN ts) 0])
      have hnl : n < 16384 := by omega
      obtain ⟨ρ1, L1, c1, e1, v1, hb1, hloc1⟩ := adopt_drow c hnl hs h1 hm0 q1 (fun b r hr => fun hh => hbs b r hr (by simp [hh]))
      obtain ⟨ρ', L', c', e', ha', hst', hloc⟩ := putItems_sound l vs' bs' (hset H n (.cells (lenN ts) (listW ts) (Nat.succ n) n n (lenN ts))) (Nat.succ n) (ws ++ [wS n 1 0 (lenN ts) 0]) (us ++ [.slice (some ⟨rb, d, none⟩) ts.length cp]) ρ1 L1 c1 hs h3 hlt hl' (fun b r hr => by
        rcases hb1 b r hr with hr | hr
        · exact fun hh => hbs b r hr (by simp [hh])
        · rw [hr]; exact h2) ((ha.mono e1).app (.cons _ _ _ _ v1 .nil)) (fun y hy => by
        rcases List.mem_append.1 hy with hy | hy
        · exact hst y hy
        · simp at hy; subst hy
          rw [lenN_eq, wS_eq]; omega)
      exact ⟨ρ', L', c', e1.trans e', by simpa using ha', hst', hloc1.trans (Nat.le_succ _) hloc⟩
    | sum t1 t2 x1 x2 ts rb d cp _ vs' bs' g1 g2 hm0 h1 h2 h3 =>
      have e : putItems (.sum t1 t2 ts :: l) H n ws = putItems l (hset (hset H n (.cells (lenN ts) (listW ts) (Nat.succ n) n n (lenN ts))) (Nat.succ n) (.box 0 3 (listW [t1, t2, wS n 1 0 (lenN ts) 0]))) (Nat.succ (Nat.succ n)) (ws ++ [mk 6 (Nat.succ n)]) := rfl
      have hl' : sel (ltb (lenN ts) 1048576) (okDI l) false = true := hl
      obtain ⟨q1, hl'⟩ := sel_and hl'
      have q1 := (ltb_iff _ _).1 q1
      rw [lenN_eq] at q1
      rw [e] at hlt ⊢
      have hle := putItems_le l (hset (hset H n (.cells (lenN ts) (listW ts) (Nat.succ n) n n (lenN ts))) (Nat.succ n) (.box 0 3 (listW [t1, t2, wS n 1 0 (lenN ts) 0]))) (Nat.succ (Nat.succ n)) (ws ++ [mk 6 (Nat.succ n)])
      have e2 : Nat.succ n = n + 1 := rfl
      have e3 : Nat.succ (Nat.succ n) = n + 2 := rfl
      have hnl : n + 1 < 16384 := by omega
      obtain ⟨ρ1, L1, c1, e1, v1, hb1, hloc1⟩ := adopt_drow c (by omega) hs h1 hm0 q1 (fun b r hr => fun hh => hbs b r hr (by simp [hh]))
      have hwS : wS n 1 0 (lenN ts) 0 < 2 ^ 128 := by rw [lenN_eq, wS_eq]; omega
      have hst3 : storable (wS n 1 0 (lenN ts) 0) = true := by
        rw [storable_iff, tag_wS]
        exact ⟨by decide, by decide, by decide, hwS⟩
      have hall : allSlot [t1, t2, wS n 1 0 (lenN ts) 0] = true := allSlot_of _ fun y hy => by
        simp only [List.mem_cons, List.not_mem_nil, or_false] at hy
        rcases hy with rfl | rfl | rfl
        · exact storable_lt g1.2
        · exact storable_lt g2.2
        · exact hwS
      have hlen3 : ∀ a b d : Nat, [a, b, d].length = 3 := fun _ _ _ => rfl
      have hlw := listW_lt _ hall
      rw [hlen3] at hlw
      have ex : Ext ρ1 L1 ρ1 (upd L1 (n + 1) (.box 0 3 (listW [t1, t2, wS n 1 0 (lenN ts) 0]))) := .freshL c1.fresh _
      have c2 : Ctx base (hset (hset H n (.cells (lenN ts) (listW ts) (Nat.succ n) n n (lenN ts))) (Nat.succ n) (.box 0 3 (listW [t1, t2, wS n 1 0 (lenN ts) 0]))) (Nat.succ (Nat.succ n)) ρ1 (upd L1 (n + 1) (.box 0 3 (listW [t1, t2, wS n 1 0 (lenN ts) 0]))) w :=
        ⟨c1.sim.box c1.fresh _ _ _, c1.agree.hset hnl _, c1.fresh.updL _⟩
      have hagg : VR ρ1 (upd L1 (n + 1) (.box 0 3 (listW [t1, t2, wS n 1 0 (lenN ts) 0]))) (mk 6 (Nat.succ n)) (.agg #[x1, x2, .slice (some ⟨rb, d, none⟩) ts.length cp]) := by
        refine .agg (n + 1) 3 _ _ (upd_same _ _ _) rfl (fun i hi => ?_) hlw (fun i hi => ?_)
        · rw [getW_listW _ hall]
          have hi3 : i = 0 ∨ i = 1 ∨ i = 2 := by simp at hi; omega
          rcases hi3 with rfl | rfl | rfl
          · exact g1.vr _ _
          · exact g2.vr _ _
          · exact v1.mono ex
        · rw [getW_listW _ hall]
          have hi3 : i = 0 ∨ i = 1 ∨ i = 2 := by omega
          rcases hi3 with rfl | rfl | rfl
          · exact g1.2
          · exact g2.2
          · exact hst3
      obtain ⟨ρ', L', c', e', ha', hst', hloc⟩ := putItems_sound l vs' bs' (hset (hset H n (.cells (lenN ts) (listW ts) (Nat.succ n) n n (lenN ts))) (Nat.succ n) (.box 0 3 (listW [t1, t2, wS n 1 0 (lenN ts) 0]))) (Nat.succ (Nat.succ n)) (ws ++ [mk 6 (Nat.succ n)]) (us ++ [.agg #[x1, x2, .slice (some ⟨rb, d, none⟩) ts.length cp]]) ρ1 _ c2 hs h3 hlt hl' (fun b r hr => by
        rcases hb1 b r hr with hr | hr
        · exact fun hh => hbs b r hr (by simp [hh])
        · rw [hr]; exact h2) (((ha.mono e1).mono ex).app (.cons _ _ _ _ hagg .nil)) (fun y hy => by
        rcases List.mem_append.1 hy with hy | hy
        · exact hst y hy
        · simp at hy; subst hy
          rw [mk_eq]; omega)
      exact ⟨ρ', L', c', (e1.trans ex).trans e', by simpa using ha', hst', Loc.trans (H1 := H) (Loc.trans (H1 := H) hloc1 (Nat.le_succ _) (.freshL _)) (Nat.le_trans (Nat.le_succ _) (Nat.le_succ _)) hloc.any⟩

end

theorem drewS_sound {P : Program} {fd : Nat} {one : Bool} {l : List DI} {j0 : Nat} (K : DrawnK E P fd one l j0) : SumS P (drewS fd one l j0) := by
  intro base H n ρ L w f args vs v H' n' cs c ha h
  unfold drewS at h
  rw [sel_beq] at h
  generalize hvs : vs.toList = l0 at ha
  split at h
  · rename_i hf
    subst hf
    split at h
    · rename_i s
      rcases ha with _ | ⟨_, v1, _, vs1, hr1, ha1⟩
      cases ha1
      have hvv : vs = #[v1] := by cases vs; simp_all
      subst hvv
      obtain ⟨g1, k1⟩ := gd_inv h
      obtain ⟨g2, k2⟩ := gd_inv k1
      obtain ⟨g3, k3⟩ := gd_inv k2
      obtain ⟨g4, k4⟩ := gd_inv k3
      obtain ⟨g5, k5⟩ := gd_inv k4
      obtain ⟨g6, k6⟩ := gd_inv k5
      obtain ⟨g7, k7⟩ := gd_inv k6
      obtain ⟨g8, k8⟩ := gd_inv k7
      injection k8 with hfin
      clear h k1 k2 k3 k4 k5 k6 k7
      have g1 := Nat.eq_of_beq_eq_true g1
      have g2 := Nat.eq_of_beq_eq_true g2
      have g4 := Nat.le_of_ble_eq_true g4
      have g5 := Nat.le_of_ble_eq_true g5
      have g7 := (ltb_iff _ _).1 g7
      obtain ⟨b, j, lo, hi, rb, d, sz, cap, hb, hj, hlo, hhi, h5, h6, h7, h8, h9, rfl, rfl⟩ := hr1.opq_inv g1
      obtain ⟨p1, p2, p3, p4⟩ := o_parts b j lo hi hj hlo hhi
      rw [p3] at g2
      have g2 := g2.symm
      subst g2
      rw [p4] at g3
      rw [p2] at g4
      rw [p1] at g5 g6
      rw [sel_beq] at g6
      have hhi0 : hi ≠ 0 := by intro h0; rw [if_pos h0] at g6; cases g6
      have g3 := isCode_inv g3
      have hL := c.agree.2 _ _ g3
      have hgr : grp L b = 0 := by simp [grp, hL]
      obtain ⟨k, hk, hbr⟩ := c.sim.blk b _ hb
      rw [hL] at hk; injection hk with hk; subst hk
      obtain ⟨cs0, ty, fz, q1, q2, q3, q4, q5⟩ := hbr (.inl hgr)
      obtain ⟨e, W, ⟨x, vs', bs, he, hni, ho1, ho0, hbel⟩, hcall⟩ := calls_at (K.calls w rb d sz cap cs0 ty fz q1 q2 h7 h8 h9 q5 (by omega) (by omega)) cs
      subst he
      have c' := c.later hbel
      have hlow := hni.low
      obtain ⟨ρ', L', c2, e2, ha2, hst2, hloc2⟩ := putItems_sound (s := w.heap.size) l vs' bs H n [] [] ρ L c' c.sim.low hni (by omega) g8 (fun b r hbr => fun hh => by have := c.sim.bnd b r hbr; have := hlow _ hh; omega) .nil (fun x hx => by cases hx)
      have hle := putItems_le l H n []
      simp only [List.nil_append] at ha2
      unfold finD at hfin
      cases one with
      | true =>
        rw [sel_true] at hfin
        injection hfin with a1 a2 a3
        subst a1; subst a2; subst a3
        have hv := ho1 rfl
        subst hv
        generalize (putItems l H n []).ws = ws at ha2 ⊢
        rcases ha2 with _ | ⟨u, _, _, _, hu, hn0⟩
        cases hn0
        exact ⟨ρ', L', W, x, c2, e2, hbel.mono c.sim.bs, hloc2, hle, hu, K.known, hcall⟩
      | false =>
        rw [sel_false] at hfin
        obtain ⟨b1, b2, b3, b4⟩ := newBox_inv hfin
        subst b2; subst b3; subst b4
        have hv := ho0 rfl
        subst hv
        have hsl : allSlot (putItems l H n []).ws = true := allSlot_of _ fun y hy => hst2 y hy
        have e3 : Ext ρ' L' ρ' (upd L' (putItems l H n []).n (.box 1 (lenN l) (listW (putItems l H n []).ws))) := .freshL c2.fresh _
        refine ⟨ρ', _, W, _, ⟨c2.sim.box c2.fresh _ _ _, c2.agree.hset b1 _, c2.fresh.updL _⟩, e2.trans e3, hbel.mono c.sim.bs, Loc.trans (H1 := (putItems l H n []).H) hloc2 hle (.freshL _), by omega, ?_, K.known, hcall⟩
        refine .tup _ (lenN l) _ _ (upd_same _ _ _) (by rw [lenN_eq]; simpa using hni.len) fun i hi => ?_
        have hi' : i < vs'.length := by simpa using hi
        have hvr := ha2.get i hi'
        have hwl : (putItems l H n []).ws.length = vs'.length := ha2.length.symm
        rw [getW_listW _ hsl]
        have := hvr.mono e3
        simpa using this
    · cases h
  · cases h
end

/-- A law on a code, run on what is drawn. -/
noncomputable def drewRun (P : Program) (S0 : Sums) (fd : Nat) (one : Bool) (j0 : Nat) (l : List DI) (fuel d f : Nat) : OR := funE P (callN P (orS (drewS fd one l j0) S0) fuel d) fuel f [wO 0 j0 1 1048576] (hset .nil 0 (.opq j0 1)) 1
noncomputable def anyDrew (one : Bool) (ls : List (List DI)) (r : OR) : Bool := List.rec (motive := fun _ => Bool) false (fun l _ ih => sel (isDrew one l r) true ih) ls
theorem anyDrew_inv {one : Bool} {r : OR} : ∀ {ls : List (List DI)}, anyDrew one ls r = true → ∃ l ∈ ls, isDrew one l r = true
  | [], h => by cases h
  | l :: ls, h => by
    have e : anyDrew one (l :: ls) r = sel (isDrew one l r) true (anyDrew one ls r) := rfl
    rw [e, sel_eq] at h
    split at h
    · rename_i h1; exact ⟨l, List.mem_cons_self, h1⟩
    · obtain ⟨m, hm, h2⟩ := anyDrew_inv h
      exact ⟨m, List.mem_cons_of_mem _ hm, h2⟩

/-- Whatever is drawn, something holds of it. -/
def CoversG (G : OR → Prop) (run : Tab → OR) (tab : Tab) : Prop :=
  ∀ (E : Env) (code : List Int) (j0 : Nat), @DrawE E code j0 → 1 ≤ code.length → @TabOk E tab → ∀ Q : Prop, (∀ E' : Env, E'.lst = E.lst → @DrawE E' code j0 → ∀ tab, @TabOk E' tab → G (run tab) → Q) → Q
theorem CoversG.of {G : OR → Prop} {p : OR → Bool} {run : Tab → OR} {tab : Tab} (h : CoversP p run tab) (hG : ∀ r, p r = true → G r) : CoversG G run tab :=
  fun E code j0 hE hne hT Q hrun => h E code j0 hE hne hT Q fun E' hl hE' tab' hT' hp => hrun E' hl hE' tab' hT' (hG _ hp)
theorem CoversG.part {G : OR → Prop} {run : Tab → OR} {tab : Tab} (j : Nat) (hj : okIx j = true) (h : ∀ v, v < j % 4096 → CoversG G run ((j, v, v) :: tab)) : CoversG G run tab := by
  intro E code j0 hE hne hT Q hrun
  obtain ⟨hp, hn1, hn2⟩ := okIx_inv hj
  have hi := hE.int (j / 4096) (j % 4096) hp hn1 hn2
  have hr := pickv_range (c := code.take 2000) (fun x hx => hE.byte x (List.mem_of_mem_take hx)) (by simp; omega) hp hn1 hn2
  rw [show j / 4096 * 4096 + j % 4096 = j from by omega] at hi
  rw [← hi] at hr
  have hv : ((E.int j).toNat : Int) = E.int j := by omega
  refine h (E.int j).toNat (by omega) E code j0 hE hne ?_ Q hrun
  intro e he
  rcases List.mem_cons.1 he with rfl | he
  · exact .inl ⟨by show (((E.int j).toNat : Nat) : Int) ≤ E.int j; omega, by show E.int j ≤ (((E.int j).toNat : Nat) : Int); omega, by show (E.int j).toNat < 1000; omega⟩
  · exact hT e he
def Drawn (P : Program) (S0 : Sums) (fd : Nat) (one : Bool) (j0 : Nat) (fuel d f : Nat) (r : OR) : Prop := ∃ l, isTrue (drewRun P S0 fd one j0 l fuel d f) = true ∧ isDrew one l r = true
/-- something of each of a list -/
def AllI {α : Type} (p : α → Prop) (l : List α) : Prop := List.rec (motive := fun _ => Prop) True (fun x _ ih => p x ∧ ih) l
theorem AllI.mem {α : Type} {p : α → Prop} : ∀ {l : List α}, AllI p l → ∀ x ∈ l, p x
  | _ :: _, h, x, hx => by
    rcases List.mem_cons.1 hx with rfl | hx
    · exact h.1
    · exact AllI.mem h.2 x hx
noncomputable section
/-- a number that is drawn and not known -/
def drawVar (w : Nat) : Bool := sel (Nat.beq (tagOf w) 12) (ltb (vIx (payOf w)) 1099511627776) false
def scanC (k : OR) (m : Nat) : Nat → OR := Nat.rec (motive := fun _ => Nat → OR) (fun _ => k) (fun _ ih c => sel (drawVar (getW c 0)) (.bad (askMid (payOf (getW c 0)))) (ih (Nat.shiftRight c 128))) m
def scanW (H : Trie) (w : Nat) (k : OR) : OR :=
  sel (drawVar w) (.bad (askMid (payOf w))) (sel (Nat.beq (tagOf w) 4) (match rdRange H (Nat.pred (sBlk (payOf w))) (sOff (payOf w)) (sLen (payOf w)) with | .some c => scanC k (sLen (payOf w)) c | .none => k) k)
def scanL (H : Trie) (k : OR) (m : Nat) : Nat → OR := Nat.rec (motive := fun _ => Nat → OR) (fun _ => k) (fun _ ih c => scanW H (getW c 0) (ih (Nat.shiftRight c 128))) m
/-- asks for what is drawn and not known yet -/
def askIn (one : Bool) (r : OR) : OR :=
  match r with
  | .bad q => .bad q
  | .ok v H n => sel one (scanW H v (.ok v H n)) (match tget H (payOf v) with | some (.box _ m c) => scanL H (.ok v H n) m c | _ => .ok v H n)
end
theorem scanC_or {k r : OR} (hk : k = r ∨ ∃ q, k = .bad q) : ∀ (m c : Nat), scanC k m c = r ∨ ∃ q, scanC k m c = .bad q
  | 0, c => hk
  | m + 1, c => by
    have e : scanC k (m + 1) c = sel (drawVar (getW c 0)) (.bad (askMid (payOf (getW c 0)))) (scanC k m (Nat.shiftRight c 128)) := rfl
    rw [e, sel_eq]
    split
    · exact .inr ⟨_, rfl⟩
    · exact scanC_or hk m _
theorem scanW_or {H : Trie} {w : Nat} {k r : OR} (hk : k = r ∨ ∃ q, k = .bad q) : scanW H w k = r ∨ ∃ q, scanW H w k = .bad q := by
  unfold scanW
  rw [sel_eq]
  split
  · exact .inr ⟨_, rfl⟩
  · rw [sel_eq]
    split
    · split
      · exact scanC_or hk _ _
      · exact hk
    · exact hk
theorem scanL_or {H : Trie} {k r : OR} (hk : k = r ∨ ∃ q, k = .bad q) : ∀ (m c : Nat), scanL H k m c = r ∨ ∃ q, scanL H k m c = .bad q
  | 0, c => hk
  | m + 1, c => by
    have e : scanL H k (m + 1) c = scanW H (getW c 0) (scanL H k m (Nat.shiftRight c 128)) := rfl
    rw [e]
    exact scanW_or (scanL_or hk m _)
theorem askIn_or (one : Bool) (r : OR) : askIn one r = r ∨ ∃ q, askIn one r = .bad q := by
  cases r with
  | bad q => exact .inl rfl
  | ok v H n =>
    unfold askIn
    dsimp only
    rw [sel_eq]
    split
    · exact scanW_or (.inl rfl)
    · split
      · exact scanL_or (.inl rfl) _ _
      · exact .inl rfl
theorem anyDrew_bad {one : Bool} {q : Nat} : ∀ (ls : List (List DI)), anyDrew one ls (.bad q) = false
  | [] => rfl
  | l :: ls => by
    have e : anyDrew one (l :: ls) (.bad q) = sel (isDrew one l (.bad q)) true (anyDrew one ls (.bad q)) := rfl
    rw [e, anyDrew_bad ls]
    have : isDrew one l (.bad q) = false := by first | rfl | (unfold isDrew; cases one <;> rfl)
    rw [this]; rfl
theorem CoversP.ask {one : Bool} {ls : List (List DI)} {run : Tab → OR} {tab : Tab} (h : CoversP (anyDrew one ls) (fun tab => askIn one (run tab)) tab) : CoversP (anyDrew one ls) run tab :=
  fun E code j0 hE hne hT Q hrun => h E code j0 hE hne hT Q fun E' hl hE' tab' hT' hp => hrun E' hl hE' tab' hT' (by
    dsimp only at hp
    rcases askIn_or one (run tab') with h1 | ⟨q, h1⟩
    · rw [h1] at hp; exact hp
    · rw [h1, anyDrew_bad] at hp; cases hp)
theorem CoversG.drew {P : Program} {S0 : Sums} {fd : Nat} {one : Bool} {j0 fuel d f : Nat} {ls : List (List DI)} {run : Tab → OR} {tab : Tab} (h : CoversP (anyDrew one ls) run tab) (hl : AllI (fun l => isTrue (drewRun P S0 fd one j0 l fuel d f) = true) ls) : CoversG (Drawn P S0 fd one j0 fuel d f) run tab :=
  .of h fun r hr => by
    obtain ⟨l, hm, h1⟩ := anyDrew_inv hr
    exact ⟨l, hl.mem l hm, h1⟩

/-- A law on a code, out of what is drawn and its runs. -/
theorem drawn_trueX {P : Program} {S0 : Sums} {S1 : Nat → Tab → Sums} (hS0 : Always P S0) (hS1 : ∀ (E : Env) (code : List Int) (j0 : Nat) (tab : Tab), @DrawE E code j0 → @TabOk E tab → @SumS E P (S1 j0 tab)) {fo fp tS fuel d f fd fuel1 d1 len cap : Nat} {one : Bool} (K : DrawK P fo fp tS) {w : World} {x : Addr} {zs : List Int} (hz : RowOf .u8 w x cap zs) (hcap : 0 < cap) (hl : len ≤ cap) (hc : cap < 9223372036854775808)
    (hb : ∀ z ∈ zs, 0 ≤ z ∧ z ≤ 255) (ix : List Int → Nat) (hix : ∀ code, codeL code (ix code) = code.map (Value.int .u8) ∧ ix code < 1048576)
    (h0 : isTrue (emptyRun P S0 fo fp fuel d f) = true) (h1 : ∀ code, CoversG (Drawn P S0 fd one (ix code) fuel d f) (fun tab => dRun P (S1 (ix code) tab) fo fp fuel1 d1 fd (ix code) tab) []) (h2 : isTrue (longRun P S0 fo fp fuel d f) = true) :
    Calls P f #[.slice (some x) len cap] w fun e w' => e = .returned (.bool true) ∧ Below w.heap.size w w' := by
  obtain ⟨hsp, cs, ty, fz, hh, hsz, hall⟩ := hz.block hcap
  have hx : x = ⟨x.block, x.off, none⟩ := by
    cases x with
    | mk b o s => simp at hsp ⊢; exact hsp
  have hrb : x.block < w.heap.size := (Array.getElem?_eq_some_iff.1 hh).1
  have hzl : zs.length = cap := hz.1
  by_cases hl0 : len = 0
  · subst hl0
    letI : Env := anyEnv
    have c := (Ctx.start w).arg (nb := 0) (ch := 0) (sz := cap) (d := x.off) (by omega) hh hrb hsz (by omega) (by intro i hi; omega)
    refine run_true (orS_sound (draw_any K) (hS0 _)) c (.cons _ _ _ _ ?_ .nil) h0
    exact .slice 0 1 0 0 0 x.block x.off cap cap x (updR_same _ _ _) (by omega) (by omega) (by omega) (by omega) (by omega) (by omega) (.inl rfl) (.inr ⟨hx, by omega⟩)
  · have hcl : (zs.take len).length = len := by simp; omega
    have hcb : ∀ z ∈ zs.take len, 0 ≤ z ∧ z ≤ 255 := fun z hz => hb z (List.mem_of_mem_take hz)
    have main : ∀ (E : Env) (j0 : Nat), E.lst j0 = (zs.take len).map (Value.int .u8) → (∀ k o, E.kept k ≠ some o) → j0 < 1048576 → @Ctx E w.heap.size (hset .nil 0 (.opq j0 1)) 1 (updR (fun _ => none) 0 (x.block, x.off, cap)) (upd (fun _ => none) 0 (.opq j0 1)) w ∧
        ∀ lo hi : Nat, lo < 4194304 → hi < 4194304 → lo ≤ len → (hi = 0 ∨ len ≤ hi) → @VR E (updR (fun _ => none) 0 (x.block, x.off, cap)) (upd (fun _ => none) 0 (.opq j0 1)) (wO 0 j0 lo hi) (.slice (some x) len cap) := by
      intro E j0 hel hkn hjl
      have he : (E.lst j0).length = len := by rw [hel, List.length_map, hcl]
      have c := (Ctx.start w (fun k o h => absurd h (hkn k o))).opq (j := j0) (sz := cap) (d := x.off) (by omega) hh hrb hsz (by omega) (fun i hi => by
        rw [hall i (by omega), hel, List.getElem?_map]
        have hi2 : i < (zs.take len).length := by omega
        rw [List.getElem?_eq_getElem hi2]
        have hi3 : i < zs.length := by omega
        simp [List.getD_eq_getElem?_getD, hi3])
      refine ⟨c, ?_⟩
      intro lo hi q1 q2 q3 q4
      have := VR.opq (ρ := updR (fun _ => none) 0 (x.block, x.off, cap)) (L := upd (fun _ => none) 0 (.opq j0 1)) 0 j0 lo hi x.block x.off cap cap (updR_same _ _ _) hjl q1 q2 (by rw [he]; exact q3) (by rw [he]; exact q4) (by rw [he]; exact hl) (by omega) (by omega)
      rw [he, ← hx] at this
      exact this
    by_cases hlong : 1048576 < len
    · letI E : Env := codeEnv (zs.take len) (by omega)
      have hE : DrawE (zs.take len) 0 := codeEnv_ok (by omega) hcb (by omega) rfl
      obtain ⟨c, word⟩ := main E 0 rfl (fun _ _ h => by cases (show (none : Option Obj) = some _ from h)) (by omega)
      exact run_true (orS_sound (drawS_sound K hE tabOk_nil) (hS0 _)) c (.cons _ _ _ _ (word 1048577 0 (by omega) (by omega) (by omega) (.inl rfl)) .nil) h2
    · obtain ⟨hi1, hi2⟩ := hix (zs.take len)
      have hE : @DrawE (codeEnv (zs.take len) (by omega)) (zs.take len) (ix (zs.take len)) := codeEnv_ok (by omega) hcb (by omega) hi1
      refine h1 (zs.take len) (codeEnv (zs.take len) (by omega)) (zs.take len) _ hE (by omega) (@tabOk_nil (codeEnv (zs.take len) (by omega))) _ fun E' hl' hE' tab hT ⟨l, hr, hd⟩ => ?_
      obtain ⟨y, hy, KD⟩ := drawn_of (hS1 E' _ _ _ hE' hT) K hi2 hE' hT hd
      obtain ⟨c, word⟩ := main (pvEnv E' y hy) (ix (zs.take len)) hE'.l0 (fun _ _ h => by cases h) hi2
      letI : Env := pvEnv E' y hy
      exact run_true (orS_sound (drewS_sound KD) (hS0 _)) c (.cons _ _ _ _ (word 1 1048576 (by omega) (by omega) (by omega) (.inr (by omega))) .nil) hr

/-- A law on a code, out of what is drawn and its runs. -/
theorem drawn_true {P : Program} {S0 S1 : Sums} (hS0 : Always P S0) (hS1 : Always P S1) {fo fp tS fuel d f fd fuel1 d1 len cap : Nat} {one : Bool} (K : DrawK P fo fp tS) {w : World} {x : Addr} {zs : List Int} (hz : RowOf .u8 w x cap zs) (hcap : 0 < cap) (hl : len ≤ cap) (hc : cap < 9223372036854775808)
    (hb : ∀ z ∈ zs, 0 ≤ z ∧ z ≤ 255) (ix : List Int → Nat) (hix : ∀ code, codeL code (ix code) = code.map (Value.int .u8) ∧ ix code < 1048576)
    (h0 : isTrue (emptyRun P S0 fo fp fuel d f) = true) (h1 : ∀ code, CoversG (Drawn P S0 fd one (ix code) fuel d f) (dRun P S1 fo fp fuel1 d1 fd (ix code)) []) (h2 : isTrue (longRun P S0 fo fp fuel d f) = true) :
    Calls P f #[.slice (some x) len cap] w fun e w' => e = .returned (.bool true) ∧ Below w.heap.size w w' :=
  drawn_trueX (S1 := fun _ _ => S1) hS0 (fun E _ _ _ _ _ => hS1 E) K hz hcap hl hc hb ix hix h0 h1 h2

/-- ██ The walk of a law on a code, out of what is drawn and its runs. -/
theorem drawn_walk {P : Program} {S0 S1 : Sums} (hS0 : Always P S0) (hS1 : Always P S1) {fo fp tS fuel d f fd fuel1 d1 len cap : Nat} {one : Bool} (K : DrawK P fo fp tS) {w : World} {a : Option Addr} {zs : List Int}
    (w0 : (a = none ∧ len = 0 ∧ cap = 0 ∧ zs = []) ∨ ∃ x, a = some x ∧ len ≤ cap ∧ cap ≤ maxLen ∧ zs.length = cap ∧ (∀ i, i < zs.length → w.cell? (x.add i) = some (.int .u8 (zs.getD i 0))) ∧ ∀ n ∈ zs, (Lit.int .u8 n).wf = true)
    (hn : isTrue (nilRun P S0 fo fp fuel d f) = true) (hz : isTrue (zeroRun P S0 fo fp fuel d f) = true) (h0 : isTrue (emptyRun P S0 fo fp fuel d f) = true) (h2 : isTrue (longRun P S0 fo fp fuel d f) = true)
    (h1 : CoversG (Drawn P S0 fd one 0 fuel d f) (dRun P S1 fo fp fuel1 d1 fd 0) []) :
    Calls P f #[.slice a len cap] w fun e w' => e = .returned (.bool true) ∧ Below w.heap.size w w' := by
  rcases w0 with ⟨rfl, rfl, rfl, rfl⟩ | ⟨x, rfl, hl, hm, hzl, hcell, hwz⟩
  · exact code_nil hS0 K hn
  by_cases hc0 : cap = 0
  · subst hc0
    obtain rfl : len = 0 := by omega
    exact code_zero hS0 K hz
  unfold maxLen at hm
  exact drawn_true hS0 hS1 K ⟨hzl, hcell⟩ (by omega) hl (by omega) (fun z hz => wf_byte (hwz z hz)) (fun _ => 0) (fun _ => ⟨rfl, by omega⟩) h0 (fun _ => h1) h2
/-- ██ The same, where the law asks whether three divides the code's length. -/
theorem drawn_walk3 {P : Program} {S0 S1 : Sums} (hS0 : Always P S0) (hS1 : Always P S1) {fo fp tS fuel d f fd fuel1 d1 len cap : Nat} {one : Bool} (K : DrawK P fo fp tS) {w : World} {a : Option Addr} {zs : List Int}
    (w0 : (a = none ∧ len = 0 ∧ cap = 0 ∧ zs = []) ∨ ∃ x, a = some x ∧ len ≤ cap ∧ cap ≤ maxLen ∧ zs.length = cap ∧ (∀ i, i < zs.length → w.cell? (x.add i) = some (.int .u8 (zs.getD i 0))) ∧ ∀ n ∈ zs, (Lit.int .u8 n).wf = true)
    (hn : isTrue (nilRun P S0 fo fp fuel d f) = true) (hz : isTrue (zeroRun P S0 fo fp fuel d f) = true) (h0 : isTrue (emptyRun P S0 fo fp fuel d f) = true) (h2 : isTrue (longRun P S0 fo fp fuel d f) = true)
    (h1 : CoversG (Drawn P S0 fd one 1000 fuel d f) (dRun P S1 fo fp fuel1 d1 fd 1000) []) (h3 : CoversG (Drawn P S0 fd one 1001 fuel d f) (dRun P S1 fo fp fuel1 d1 fd 1001) []) :
    Calls P f #[.slice a len cap] w fun e w' => e = .returned (.bool true) ∧ Below w.heap.size w w' := by
  rcases w0 with ⟨rfl, rfl, rfl, rfl⟩ | ⟨x, rfl, hl, hm, hzl, hcell, hwz⟩
  · exact code_nil hS0 K hn
  by_cases hc0 : cap = 0
  · subst hc0
    obtain rfl : len = 0 := by omega
    exact code_zero hS0 K hz
  unfold maxLen at hm
  refine drawn_true (one := one) (fd := fd) (fuel1 := fuel1) (d1 := d1) hS0 hS1 K ⟨hzl, hcell⟩ (by omega) hl (by omega) (fun z hz => wf_byte (hwz z hz)) threeIx (fun code => ⟨codeL_three code, ?_⟩) h0 (fun code => ?_) h2
  · unfold threeIx; split <;> omega
  · unfold threeIx; split
    · exact h1
    · exact h3
/-- ██ The walk of a law on a code, out of what is drawn and its runs. -/
theorem drawn_walkX {P : Program} {S0 : Sums} {S1 : Nat → Tab → Sums} (hS0 : Always P S0) (hS1 : ∀ (E : Env) (code : List Int) (j0 : Nat) (tab : Tab), @DrawE E code j0 → @TabOk E tab → @SumS E P (S1 j0 tab)) {fo fp tS fuel d f fd fuel1 d1 len cap : Nat} {one : Bool} (K : DrawK P fo fp tS) {w : World} {a : Option Addr} {zs : List Int}
    (w0 : (a = none ∧ len = 0 ∧ cap = 0 ∧ zs = []) ∨ ∃ x, a = some x ∧ len ≤ cap ∧ cap ≤ maxLen ∧ zs.length = cap ∧ (∀ i, i < zs.length → w.cell? (x.add i) = some (.int .u8 (zs.getD i 0))) ∧ ∀ n ∈ zs, (Lit.int .u8 n).wf = true)
    (hn : isTrue (nilRun P S0 fo fp fuel d f) = true) (hz : isTrue (zeroRun P S0 fo fp fuel d f) = true) (h0 : isTrue (emptyRun P S0 fo fp fuel d f) = true) (h2 : isTrue (longRun P S0 fo fp fuel d f) = true)
    (h1 : CoversG (Drawn P S0 fd one 0 fuel d f) (fun tab => dRun P (S1 0 tab) fo fp fuel1 d1 fd 0 tab) []) :
    Calls P f #[.slice a len cap] w fun e w' => e = .returned (.bool true) ∧ Below w.heap.size w w' := by
  rcases w0 with ⟨rfl, rfl, rfl, rfl⟩ | ⟨x, rfl, hl, hm, hzl, hcell, hwz⟩
  · exact code_nil hS0 K hn
  by_cases hc0 : cap = 0
  · subst hc0
    obtain rfl : len = 0 := by omega
    exact code_zero hS0 K hz
  unfold maxLen at hm
  exact drawn_trueX (S1 := S1) hS0 hS1 K ⟨hzl, hcell⟩ (by omega) hl (by omega) (fun z hz => wf_byte (hwz z hz)) (fun _ => 0) (fun _ => ⟨rfl, by omega⟩) h0 (fun _ => h1) h2
/-- ██ The same, where the law asks whether three divides the code's length. -/
theorem drawn_walk3X {P : Program} {S0 : Sums} {S1 : Nat → Tab → Sums} (hS0 : Always P S0) (hS1 : ∀ (E : Env) (code : List Int) (j0 : Nat) (tab : Tab), @DrawE E code j0 → @TabOk E tab → @SumS E P (S1 j0 tab)) {fo fp tS fuel d f fd fuel1 d1 len cap : Nat} {one : Bool} (K : DrawK P fo fp tS) {w : World} {a : Option Addr} {zs : List Int}
    (w0 : (a = none ∧ len = 0 ∧ cap = 0 ∧ zs = []) ∨ ∃ x, a = some x ∧ len ≤ cap ∧ cap ≤ maxLen ∧ zs.length = cap ∧ (∀ i, i < zs.length → w.cell? (x.add i) = some (.int .u8 (zs.getD i 0))) ∧ ∀ n ∈ zs, (Lit.int .u8 n).wf = true)
    (hn : isTrue (nilRun P S0 fo fp fuel d f) = true) (hz : isTrue (zeroRun P S0 fo fp fuel d f) = true) (h0 : isTrue (emptyRun P S0 fo fp fuel d f) = true) (h2 : isTrue (longRun P S0 fo fp fuel d f) = true)
    (h1 : CoversG (Drawn P S0 fd one 1000 fuel d f) (fun tab => dRun P (S1 1000 tab) fo fp fuel1 d1 fd 1000 tab) []) (h3 : CoversG (Drawn P S0 fd one 1001 fuel d f) (fun tab => dRun P (S1 1001 tab) fo fp fuel1 d1 fd 1001 tab) []) :
    Calls P f #[.slice a len cap] w fun e w' => e = .returned (.bool true) ∧ Below w.heap.size w w' := by
  rcases w0 with ⟨rfl, rfl, rfl, rfl⟩ | ⟨x, rfl, hl, hm, hzl, hcell, hwz⟩
  · exact code_nil hS0 K hn
  by_cases hc0 : cap = 0
  · subst hc0
    obtain rfl : len = 0 := by omega
    exact code_zero hS0 K hz
  unfold maxLen at hm
  refine drawn_trueX (S1 := S1) (one := one) (fd := fd) (fuel1 := fuel1) (d1 := d1) hS0 hS1 K ⟨hzl, hcell⟩ (by omega) hl (by omega) (fun z hz => wf_byte (hwz z hz)) threeIx (fun code => ⟨codeL_three code, ?_⟩) h0 (fun code => ?_) h2
  · unfold threeIx; split <;> omega
  · unfold threeIx; split
    · exact h1
    · exact h3
end Go.Eng
