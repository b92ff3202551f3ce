/- Part of the evaluator: Xi. -/
import Derived.Test.YtnglbchhlpbgkaaHEngXf

/- Laws on a code: runs with facts; numbers that are drawn, in groups; a number that is drawn, parted. -/
namespace Go.Eng
set_option linter.unusedSectionVars false
set_option linter.unusedSimpArgs false
set_option linter.unusedVariables false
open Go Go.RowKit

/-! ### sums of products, written out -/
theorem sel_andN {a b : Bool} (h : sel a b false = true) : a = true ∧ b = true := by
  cases a with
  | true => exact ⟨rfl, h⟩
  | false => cases h
inductive PX where
  | v (i : Nat)
  | c (n : Nat)
  | add (a b : PX)
  | mul (a b : PX)
  | neg (a : PX)
structure PN where
  p : Nat
  q : Nat
  s : Nat
  d : Nat
noncomputable section
/-- its numbers -/
def PX.num (e : PX) : PN := PX.rec (motive := fun _ => PN) (fun i => ⟨pvPow i, 0, 1, pvDeg i⟩) (fun n => ⟨n, 0, n, 0⟩)
  (fun _ _ x y => ⟨Nat.add x.p y.p, Nat.add x.q y.q, Nat.add x.s y.s, mxD x.d y.d⟩)
  (fun _ _ x y => ⟨Nat.add (Nat.mul x.p y.p) (Nat.mul x.q y.q), Nat.add (Nat.mul x.p y.q) (Nat.mul x.q y.p), Nat.mul x.s y.s, Nat.add x.d y.d⟩)
  (fun _ x => ⟨x.q, x.p, x.s, x.d⟩) e
def PX.ok (e : PX) : Bool := PX.rec (motive := fun _ => Bool) (fun i => pvOk i) (fun _ => true) (fun _ _ x y => sel x y false)
  (fun a b x y => sel (sel x y false) (sel (ltb (Nat.add (Nat.mod a.num.d 12) (Nat.mod b.num.d 12)) 12) (ltb (Nat.add (Nat.div a.num.d 12) (Nat.div b.num.d 12)) 2) false) false) (fun _ x => x) e
end
def PX.val (x : Nat → Int) : PX → Int
  | .v i => x i
  | .c n => (n : Int)
  | .add a b => a.val x + b.val x
  | .mul a b => a.val x * b.val x
  | .neg a => - a.val x
theorem mxN_le (a b : Nat) : a ≤ mxN a b ∧ b ≤ mxN a b := by unfold mxN; rw [sel_ble]; split <;> omega
theorem mxD_le (d d' : Nat) : (d % 12 ≤ mxD d d' % 12 ∧ d / 12 ≤ mxD d d' / 12) ∧ (d' % 12 ≤ mxD d d' % 12 ∧ d' / 12 ≤ mxD d d' / 12) := by
  have eD : mxD d d' = mxN (d % 12) (d' % 12) + 12 * mxN (d / 12) (d' / 12) := rfl
  have mA := mxN_le (d % 12) (d' % 12)
  have mB := mxN_le (d / 12) (d' / 12)
  have mL : mxN (d % 12) (d' % 12) < 12 := by unfold mxN; rw [sel_ble]; split <;> omega
  rw [eD]; omega
theorem PX.sound (x : Nat → Int) : ∀ e : PX, e.ok = true → PolyR x e.num.p e.num.q e.num.s e.num.d (e.val x)
  | .v i, h => PolyR.var h
  | .c n, _ => PolyR.const (n : Int) (by show (n : Int).natAbs ≤ n; omega) (by show ((n : Nat) : Int) - ((0 : Nat) : Int) = _; omega)
  | .add a b, h => by
    obtain ⟨h1, h2⟩ := sel_andN (show sel a.ok b.ok false = true from h)
    have m := mxD_le a.num.d b.num.d
    exact (PX.sound x a h1).add (PX.sound x b h2) m.1 m.2
  | .mul a b, h => by
    obtain ⟨h1, h2⟩ := sel_andN (show sel (sel a.ok b.ok false) (sel (ltb (Nat.add (Nat.mod a.num.d 12) (Nat.mod b.num.d 12)) 12) (ltb (Nat.add (Nat.div a.num.d 12) (Nat.div b.num.d 12)) 2) false) false = true from h)
    obtain ⟨h3, h4⟩ := sel_andN h1
    obtain ⟨h5, h6⟩ := sel_andN h2
    exact (PX.sound x a h3).mul (PX.sound x b h4) ((ltb_iff _ _).1 h5) ((ltb_iff _ _).1 h6)
  | .neg a, h => (PX.sound x a h).neg

/-! ### what is known of them -/
abbrev FE := PX × Nat × Nat
noncomputable section
/-- the facts, laid down -/
def feH (fs : List FE) : Nat → Trie → Trie := List.rec (motive := fun _ => Nat → Trie → Trie) (fun _ H => H) (fun f _ ih n H => ih (Nat.succ n) (hset H n (.poly f.1.num.p f.1.num.q f.1.num.s 83 f.2.1 f.2.2))) fs
/-- a tree of cases: what a sum comes to, as a word of 64 bits from -2^63 on: below a, from a to b, above b -/
inductive FT where
  | leaf
  | tri (e : PX) (a b : Nat) (x y z : FT)
  | two (e : PX) (a : Nat) (x y : FT)
def chkFT (run : List FE → Bool) (t : FT) : List FE → Bool :=
  FT.rec (motive := fun _ => List FE → Bool) (fun fs => run fs)
    (fun e a b _ _ _ ix iy iz fs => sel (sel e.ok (sel (sel (Nat.ble 1 a) (Nat.ble a b) false) (ltb b 18446744073709551615) false) false)
      (sel (ix ((e, 0, Nat.pred a) :: fs)) (sel (iy ((e, a, b) :: fs)) (iz ((e, Nat.succ b, 18446744073709551615) :: fs)) false) false) false)
    (fun e a _ _ ix iy fs => sel (sel e.ok (sel (Nat.ble 1 a) (ltb a 18446744073709551616) false) false)
      (sel (ix ((e, 0, Nat.pred a) :: fs)) (iy ((e, a, 18446744073709551615) :: fs)) false) false) t
end
def FeOk (E : Env) (f : FE) : Prop := ∃ z, @PolyZ E f.1.num.p f.1.num.q f.1.num.s 83 f.2.1 f.2.2 z
theorem PolyR.up79 {x : Nat → Int} {p q s d : Nat} {z : Int} (h : PolyR x p q s d z) (h2 : d / 12 ≤ 6) : PolyR x p q s 83 z := by
  have := h.add (PolyR.const (x := x) (s := 0) (p := 0) (n := 0) 0 (by decide) (by decide)) (D := 83) ⟨by omega, by omega⟩ ⟨by omega, by omega⟩
  simpa using this
/-- what it comes to, in 64 bits -/
theorem PX.word (E : Env) (e : PX) (h : e.ok = true) (hd : e.num.d / 12 ≤ 6) : ∃ z : Int, -9223372036854775808 ≤ z ∧ z < 9223372036854775808 ∧
    ∀ lo hi : Nat, lo < 18446744073709551616 → hi < 18446744073709551616 → (lo : Int) - 9223372036854775808 ≤ z → z ≤ (hi : Int) - 9223372036854775808 → FeOk E (e, lo, hi) := by
  obtain ⟨u, _, h1, h2, h3⟩ := wrap64_of (e.val fun i => E.int (pvIx i))
  exact ⟨u, h1, h2, fun lo hi a b c d => ⟨u, a, b, c, d, _, PolyR.up79 (PX.sound _ e h) hd, h3⟩⟩
theorem PX.deg : ∀ e : PX, e.ok = true → e.num.d / 12 ≤ 1
  | .v i, h => by
    show pvDeg i / 12 ≤ 1
    unfold pvDeg
    rw [sel_ltb]
    split <;> decide
  | .c n, _ => by show 0 / 12 ≤ 1; decide
  | .add a b, h => by
    obtain ⟨h1, h2⟩ := sel_andN (show sel a.ok b.ok false = true from h)
    have ha := PX.deg a h1
    have hb := PX.deg b h2
    show mxD a.num.d b.num.d / 12 ≤ 1
    have eD : mxD a.num.d b.num.d = mxN (a.num.d % 12) (b.num.d % 12) + 12 * mxN (a.num.d / 12) (b.num.d / 12) := rfl
    have m1 : mxN (a.num.d / 12) (b.num.d / 12) ≤ 1 := by unfold mxN; rw [sel_ble]; split <;> omega
    have m2 : mxN (a.num.d % 12) (b.num.d % 12) < 12 := by unfold mxN; rw [sel_ble]; split <;> omega
    rw [eD]; omega
  | .mul a b, h => by
    obtain ⟨h1, h2⟩ := sel_andN (show sel (sel a.ok b.ok false) (sel (ltb (Nat.add (Nat.mod a.num.d 12) (Nat.mod b.num.d 12)) 12) (ltb (Nat.add (Nat.div a.num.d 12) (Nat.div b.num.d 12)) 2) false) false = true from h)
    obtain ⟨h5, h6⟩ := sel_andN h2
    have h5 := (ltb_iff _ _).1 h5
    have h6 := (ltb_iff _ _).1 h6
    have e1 : Nat.add (Nat.mod a.num.d 12) (Nat.mod b.num.d 12) = a.num.d % 12 + b.num.d % 12 := rfl
    have e2 : Nat.add (Nat.div a.num.d 12) (Nat.div b.num.d 12) = a.num.d / 12 + b.num.d / 12 := rfl
    rw [e1] at h5
    rw [e2] at h6
    show (a.num.d + b.num.d) / 12 ≤ 1
    omega
  | .neg a, h => PX.deg a h
/-- ██ Whatever the surroundings: one of the cases is so, and its run is well. -/
theorem FT.sound (E : Env) {run : List FE → Bool} : ∀ (t : FT) (fs : List FE), chkFT run t fs = true → (∀ f ∈ fs, FeOk E f) → ∃ fs', (∀ f ∈ fs', FeOk E f) ∧ run fs' = true
  | .leaf, fs, h, hf => ⟨fs, hf, h⟩
  | .tri e a b x y z, fs, h, hf => by
    obtain ⟨h1, h2⟩ := sel_andN (show sel (sel e.ok (sel (sel (Nat.ble 1 a) (Nat.ble a b) false) (ltb b 18446744073709551615) false) false)
      (sel (chkFT run x ((e, 0, Nat.pred a) :: fs)) (sel (chkFT run y ((e, a, b) :: fs)) (chkFT run z ((e, Nat.succ b, 18446744073709551615) :: fs)) false) false) false = true from h)
    obtain ⟨k1, k2⟩ := sel_andN h1
    obtain ⟨k3, k4⟩ := sel_andN k2
    obtain ⟨k5, k6⟩ := sel_andN k3
    have k4 := (ltb_iff _ _).1 k4
    have k5 := Nat.le_of_ble_eq_true k5
    have k6 := Nat.le_of_ble_eq_true k6
    obtain ⟨g1, g2⟩ := sel_andN h2
    obtain ⟨g3, g4⟩ := sel_andN g2
    obtain ⟨u, u1, u2, u3⟩ := PX.word E e k1 (by have := PX.deg e k1; omega)
    have ep : Nat.pred a = a - 1 := rfl
    have es : Nat.succ b = b + 1 := rfl
    by_cases c1 : u < (a : Int) - 9223372036854775808
    · exact FT.sound E x _ g1 (fun f hm => by
        rcases List.mem_cons.1 hm with rfl | hm
        · exact u3 _ _ (by omega) (by rw [ep]; omega) (by omega) (by rw [ep]; omega)
        · exact hf f hm)
    · by_cases c2 : u ≤ (b : Int) - 9223372036854775808
      · exact FT.sound E y _ g3 (fun f hm => by
          rcases List.mem_cons.1 hm with rfl | hm
          · exact u3 _ _ (by omega) (by omega) (by omega) (by omega)
          · exact hf f hm)
      · exact FT.sound E z _ g4 (fun f hm => by
          rcases List.mem_cons.1 hm with rfl | hm
          · exact u3 _ _ (by rw [es]; omega) (by omega) (by rw [es]; omega) (by omega)
          · exact hf f hm)
  | .two e a x y, fs, h, hf => by
    obtain ⟨h1, h2⟩ := sel_andN (show sel (sel e.ok (sel (Nat.ble 1 a) (ltb a 18446744073709551616) false) false)
      (sel (chkFT run x ((e, 0, Nat.pred a) :: fs)) (chkFT run y ((e, a, 18446744073709551615) :: fs)) false) false = true from h)
    obtain ⟨k1, k2⟩ := sel_andN h1
    obtain ⟨k3, k4⟩ := sel_andN k2
    have k3 := Nat.le_of_ble_eq_true k3
    have k4 := (ltb_iff _ _).1 k4
    obtain ⟨g1, g2⟩ := sel_andN h2
    obtain ⟨u, u1, u2, u3⟩ := PX.word E e k1 (by have := PX.deg e k1; omega)
    have ep : Nat.pred a = a - 1 := rfl
    by_cases c1 : u < (a : Int) - 9223372036854775808
    · exact FT.sound E x _ g1 (fun f hm => by
        rcases List.mem_cons.1 hm with rfl | hm
        · exact u3 _ _ (by omega) (by rw [ep]; omega) (by omega) (by rw [ep]; omega)
        · exact hf f hm)
    · exact FT.sound E y _ g2 (fun f hm => by
        rcases List.mem_cons.1 hm with rfl | hm
        · exact u3 _ _ (by omega) (by omega) (by omega) (by omega)
        · exact hf f hm)
theorem put_fe {E : Env} : ∀ (fs : List FE) (n : Nat) (H : Trie) (ρ : Rho) (L : Look) (base : Nat) (w : World), @Ctx E base H n ρ L w → n + fs.length < 16384 → (∀ f ∈ fs, FeOk E f) →
    ∃ L', @Ctx E base (feH fs n H) (n + fs.length) ρ L' w ∧ Ext ρ L ρ L'
  | [], n, H, ρ, L, base, w, c, _, _ => ⟨L, c, .refl _ _⟩
  | f :: fs, n, H, ρ, L, base, w, c, hn, hf => by
    letI := E
    have c1 : Ctx base (hset H n (.poly f.1.num.p f.1.num.q f.1.num.s 83 f.2.1 f.2.2)) (n + 1) ρ (upd L n (.poly f.1.num.p f.1.num.q f.1.num.s 83 f.2.1 f.2.2)) w :=
      ⟨c.sim.boxG c.fresh (fun _ => hf f (by simp)), c.agree.hset (by simp at hn; omega) _, c.fresh.updL _⟩
    obtain ⟨L', c', e'⟩ := put_fe fs (n + 1) _ ρ _ base w c1 (by simp at hn; omega) (fun g hg => hf g (by simp [hg]))
    refine ⟨L', ?_, (Ext.freshL c.fresh _).trans e'⟩
    have : n + (f :: fs).length = n + 1 + fs.length := by simp; omega
    rw [this]
    exact c'

def FtOk (run : List FE → Bool) : Prop := ∃ t, chkFT run t [] = true

/-! ### numbers that are drawn may be variables of sums of products, from any one on -/
noncomputable section
def tabUpto (k : Nat) (tab : Tab) : Bool := List.rec (motive := fun _ => Bool) true (fun e _ ih => sel (ltb e.1 2199023255552) (sel (ltb e.2.1 (Nat.add 1000 k)) ih false) false) tab
end
theorem tabUpto_inv {k : Nat} : ∀ {tab : Tab}, tabUpto k tab = true → ∀ e ∈ tab, e.1 < 2199023255552 ∧ e.2.1 < 1000 + k
  | [], _, e, he => by cases he
  | u :: tab, h, e, he => by
    have eq : tabUpto k (u :: tab) = sel (ltb u.1 2199023255552) (sel (ltb u.2.1 (Nat.add 1000 k)) (tabUpto k tab) false) false := rfl
    rw [eq] at h
    obtain ⟨h1, h⟩ := sel_and h
    obtain ⟨h2, h⟩ := sel_and h
    rcases List.mem_cons.1 he with rfl | he
    · exact ⟨(ltb_iff _ _).1 h1, (ltb_iff _ _).1 h2⟩
    · exact tabUpto_inv h e he
@[reducible] noncomputable def ptsEnvK (E : Env) (k : Nat) (js : List Nat) : Env where
  int := fun i => if 2199023255552 + k ≤ i ∧ i < 2199023255552 + k + js.length then E.int (js.getD (i - (2199023255552 + k)) 0) else E.int i
  lst := E.lst
  wf := fun i => by
    split
    · exact E.wf _
    · exact E.wf _
  len := fun j hj => by
    have e : lenIx j = 1099511627776 + j := rfl
    rw [if_neg (by rw [e]; omega)]
    exact E.len j hj
  byThree := E.byThree
  notThree := E.notThree
  txt := E.txt
  txtNe := E.txtNe
theorem ptsEnvK_low (E : Env) (k : Nat) (js : List Nat) {i : Nat} (hi : i < 2199023255552 + k) : (ptsEnvK E k js).int i = E.int i := by
  show (if 2199023255552 + k ≤ i ∧ i < 2199023255552 + k + js.length then E.int (js.getD (i - (2199023255552 + k)) 0) else E.int i) = _
  rw [if_neg (by omega)]
theorem ptsEnvK_var (E : Env) (k : Nat) (js : List Nat) {i : Nat} (hi : i < js.length) : (ptsEnvK E k js).int (pvIx (k + i)) = E.int (js.getD i 0) := by
  have e3 : pvIx (k + i) = 2199023255552 + (k + i) := rfl
  show (if 2199023255552 + k ≤ pvIx (k + i) ∧ pvIx (k + i) < 2199023255552 + k + js.length then E.int (js.getD (pvIx (k + i) - (2199023255552 + k)) 0) else E.int (pvIx (k + i))) = _
  rw [e3, if_pos (by omega), show 2199023255552 + (k + i) - (2199023255552 + k) = i from by omega]
/-- ██ Numbers that are drawn may be variables of sums of products. -/
theorem CoversG.ptsK {G : OR → Prop} {run : Tab → OR} {tab : Tab} (k : Nat) (js : List Nat) (hjs : jsOk js = true) (hp : tabUpto k tab = true) (h : CoversG G run (addPts js k tab)) : CoversG G run tab := by
  intro E code j0 hE hne hT Q hrun
  have hok := jsOk_inv hjs
  have hpl := tabUpto_inv hp
  have hE' : @DrawE (ptsEnvK E k js) code j0 := @DrawE.mk (ptsEnvK E k js) code j0 hE.l0 hE.l1 hE.byte (fun p n hp h1 h2 => (ptsEnvK_low E k js (by omega)).trans (hE.int p n hp h1 h2)) (fun p hp => (ptsEnvK_low E k js (by omega)).trans (hE.num0 p hp)) (fun p hp => (ptsEnvK_low E k js (by omega)).trans (hE.num1 p hp)) (fun _ _ h => by cases h)
  have key : ∀ (l pre : List Nat), js = pre ++ l → @TabOk (ptsEnvK E k js) (addPts l (k + pre.length) tab) := by
    intro l
    induction l with
    | nil =>
      intro pre _ e he
      have he : e ∈ tab := he
      obtain ⟨h1, h2⟩ := hpl e he
      rcases hT e he with h3 | ⟨h3, h4, h5⟩
      · left
        rw [ptsEnvK_low E k js (by omega)]
        exact h3
      · right
        have e3 : pvIx (e.2.1 - 1000) = 2199023255552 + (e.2.1 - 1000) := rfl
        rw [ptsEnvK_low E k js (show e.1 < _ by omega), ptsEnvK_low E k js (show pvIx (e.2.1 - 1000) < _ by rw [e3]; omega)]
        exact ⟨h3, h4, h5⟩
    | cons j l ih =>
      intro pre hjsl e he
      have he : e ∈ (j, Nat.add 1000 (k + pre.length), Nat.pred (Nat.mod j 4096)) :: addPts l (Nat.succ (k + pre.length)) tab := he
      rcases List.mem_cons.1 he with rfl | he
      · right
        have hj := hok j (by rw [hjsl]; simp)
        obtain ⟨o1, o2, o3⟩ := okIx_inv hj
        have e1 : Nat.add 1000 (k + pre.length) = 1000 + (k + pre.length) := rfl
        have e2 : Nat.pred (Nat.mod j 4096) = j % 4096 - 1 := rfl
        have hjl : j < 2199023255552 := by omega
        have hi := hE.int (j / 4096) (j % 4096) o1 o2 o3
        have hr := pickv_range (c := code.take 2000) (fun x hx => hE.byte x (List.mem_of_mem_take hx)) (by simp; omega) o1 o2 o3
        rw [show j / 4096 * 4096 + j % 4096 = j from by omega] at hi
        rw [← hi] at hr
        simp only [e1, e2]
        have hlen : pre.length < js.length := by rw [hjsl]; simp
        refine ⟨by omega, ?_, by rw [ptsEnvK_low E k js (by omega)]; omega, by rw [ptsEnvK_low E k js (by omega)]; omega, by omega⟩
        rw [ptsEnvK_low E k js (i := j) (by omega), show 1000 + (k + pre.length) - 1000 = k + pre.length from by omega, ptsEnvK_var E k js hlen]
        have : js.getD pre.length 0 = j := by rw [hjsl]; simp [List.getD_eq_getElem?_getD]
        rw [this]
      · exact ih (pre ++ [j]) (by rw [hjsl]; simp) e (by rw [show k + (pre ++ [j]).length = Nat.succ (k + pre.length) from by simp; omega]; exact he)
  exact h (ptsEnvK E k js) code j0 hE' hne (key js [] rfl) Q (fun E'' hl hd tab' ht hr => hrun E'' (hl.trans rfl) hd tab' ht hr)
/-- nought, one and the others -/
theorem CoversG.three {G : OR → Prop} {run : Tab → OR} {tab : Tab} (j : Nat) (hj : okIx j = true) (h0 : CoversG G run ((j, 0, 0) :: tab)) (h1 : CoversG G run ((j, 1, 1) :: tab)) (h2 : CoversG G run ((j, 2, j % 4096 - 1) :: tab)) : CoversG G run tab := by
  intro E code j0 hE hne hT Q hrun
  obtain ⟨hp, hn1, hn2⟩ := okIx_inv hj
  have hi := hE.int (j / 4096) (j % 4096) hp hn1 hn2
  have hr := pickv_range (c := code.take 2000) (fun x hx => hE.byte x (List.mem_of_mem_take hx)) (by simp; omega) hp hn1 hn2
  rw [show j / 4096 * 4096 + j % 4096 = j from by omega] at hi
  rw [← hi] at hr
  have put : ∀ lo hi : Nat, (lo : Int) ≤ E.int j → E.int j ≤ hi → hi < 1000 → TabOk ((j, lo, hi) :: tab) := fun lo hi a b c e he => by
    rcases List.mem_cons.1 he with rfl | he
    · exact .inl ⟨a, b, c⟩
    · exact hT e he
  by_cases hv : E.int j = 0
  · exact h0 E code j0 hE hne (put 0 0 (by omega) (by omega) (by omega)) Q hrun
  · by_cases hv1 : E.int j = 1
    · exact h1 E code j0 hE hne (put 1 1 (by omega) (by omega) (by omega)) Q hrun
    · exact h2 E code j0 hE hne (put 2 _ (by omega) (by omega) (by omega)) Q hrun
/-- nought and the others -/
theorem CoversG.two {G : OR → Prop} {run : Tab → OR} {tab : Tab} (j : Nat) (hj : okIx j = true) (h0 : CoversG G run ((j, 0, 0) :: tab)) (h1 : CoversG G run ((j, 1, j % 4096 - 1) :: tab)) : CoversG G run tab := by
  intro E code j0 hE hne hT Q hrun
  obtain ⟨hp, hn1, hn2⟩ := okIx_inv hj
  have hi := hE.int (j / 4096) (j % 4096) hp hn1 hn2
  have hr := pickv_range (c := code.take 2000) (fun x hx => hE.byte x (List.mem_of_mem_take hx)) (by simp; omega) hp hn1 hn2
  rw [show j / 4096 * 4096 + j % 4096 = j from by omega] at hi
  rw [← hi] at hr
  have put : ∀ lo hi : Nat, (lo : Int) ≤ E.int j → E.int j ≤ hi → hi < 1000 → TabOk ((j, lo, hi) :: tab) := fun lo hi a b c e he => by
    rcases List.mem_cons.1 he with rfl | he
    · exact .inl ⟨a, b, c⟩
    · exact hT e he
  by_cases hv : E.int j = 0
  · exact h0 E code j0 hE hne (put 0 0 (by omega) (by omega) (by omega)) Q hrun
  · exact h1 E code j0 hE hne (put 1 _ (by omega) (by omega) (by omega)) Q hrun

/-! ### runs with facts -/
noncomputable section
def drewRunF (P : Program) (S0 : Sums) (fd : Nat) (one : Bool) (j0 : Nat) (l : List DI) (fuel d f : Nat) (fs : List FE) : Bool :=
  sel (ltb fs.length 15) (isTrue (funE P (callN P (orS (drewS fd one l j0) S0) fuel d) fuel f [wO fs.length j0 1 1048576] (hset (feH fs 0 .nil) fs.length (.opq j0 1)) (Nat.succ fs.length))) false
/-- the word of a number, biased by 2^39 -/
def litK (c : Nat) : Nat := sel (ltb c 549755813888) (wI (Nat.sub (Nat.add 18446744073709551616 c) 549755813888)) (wI (Nat.sub c 549755813888))
end
theorem litK_holds (E : Env) {c : Nat} (hc : c < 1099511627776) : HoldsT E (litK c) (.int .i64 ((c : Int) - 549755813888)) := by
  have a1 : Nat.add 18446744073709551616 c = 18446744073709551616 + c := rfl
  have a2 : ∀ a b, Nat.sub a b = a - b := fun _ _ => rfl
  have key : ∃ p, p < 18446744073709551616 ∧ litK c = wI p ∧ sInt p = (c : Int) - 549755813888 := by
    unfold litK
    rw [sel_ltb]
    split
    · refine ⟨_, ?_, rfl, ?_⟩
      · rw [a1, a2]; omega
      · rw [a1, a2]; unfold sInt; rw [if_neg (by omega)]; omega
    · refine ⟨_, ?_, rfl, ?_⟩
      · rw [a2]; omega
      · rw [a2]; unfold sInt; rw [if_pos (by omega)]; omega
  obtain ⟨p, hp, e, hs⟩ := key
  rw [e, ← hs]
  refine ⟨.int p hp, ?_⟩
  rw [storable_iff, tag_wI]
  refine ⟨by decide, by decide, by decide, ?_⟩
  show 16 * p + 1 < _
  omega
noncomputable section
/-- a word told by another one -/
def subW (t0 t1 t : Nat) : Nat := sel (Nat.beq t t0) t1 t
def subR (t0 t1 : Nat) (ts : List Nat) : List Nat := List.rec (motive := fun _ => List Nat) [] (fun t _ ih => subW t0 t1 t :: ih) ts
def subL (t0 t1 : Nat) (l : List DI) : List DI := List.rec (motive := fun _ => List DI) [] (fun x _ ih => DI.rec (motive := fun _ => List DI) (fun t => .cell (subW t0 t1 t) :: ih) (fun ts => .row (subR t0 t1 ts) :: ih) (.emp :: ih) (fun w d ts => .sum (subW t0 t1 w) (subW t0 t1 d) (subR t0 t1 ts) :: ih) x) l
/-- a variable between bounds, or the number that it is -/
def pieceW (i : Nat) (q : Nat × Nat) : Nat := sel (Nat.beq q.1 q.2) (litK q.1) (wV (pvIx i) q.1 q.2)
/-- do the pieces cover all from lo to hi? -/
def covB (hi : Nat) (ps : List (Nat × Nat)) : Nat → Bool := List.rec (motive := fun _ => Nat → Bool) (fun lo => ltb hi lo) (fun q _ ih lo => sel (sel (Nat.ble q.1 lo) (sel (ltb 0 q.1) (ltb q.2 1099511627775) false) false) (ih (Nat.succ q.2)) false) ps
end
theorem covB_of {hi : Nat} : ∀ {ps : List (Nat × Nat)} {lo : Nat}, covB hi ps lo = true → ∀ c, lo ≤ c → c ≤ hi → ∃ q ∈ ps, q.1 ≤ c ∧ c ≤ q.2 ∧ 0 < q.1 ∧ q.2 < 1099511627775
  | [], lo, h, c, h1, h2 => by
    have h : ltb hi lo = true := h
    have := (ltb_iff _ _).1 h
    omega
  | q :: ps, lo, h, c, h1, h2 => by
    have h : sel (sel (Nat.ble q.1 lo) (sel (ltb 0 q.1) (ltb q.2 1099511627775) false) false) (covB hi ps (Nat.succ q.2)) false = true := h
    obtain ⟨g1, g2⟩ := sel_and h
    obtain ⟨g3, g4⟩ := sel_and g1
    obtain ⟨g4, g5⟩ := sel_and g4
    have g3 := Nat.le_of_ble_eq_true g3
    have g4 := (ltb_iff _ _).1 g4
    have g5 := (ltb_iff _ _).1 g5
    by_cases hc : c ≤ q.2
    · exact ⟨q, List.mem_cons_self, by omega, hc, g4, g5⟩
    · obtain ⟨q', hq, hr⟩ := covB_of g2 c (by show Nat.succ q.2 ≤ c; omega) h2
      exact ⟨q', List.mem_cons_of_mem _ hq, hr⟩
theorem subW_holds {E : Env} {t0 t1 t : Nat} (hv : ∀ v, HoldsT E t0 v → HoldsT E t1 v) {v : Value} (h : HoldsT E t v) : HoldsT E (subW t0 t1 t) v := by
  unfold subW
  rw [sel_beq]
  split
  · rename_i e; subst e; exact hv v h
  · exact h
theorem subR_len (t0 t1 : Nat) : ∀ ts : List Nat, (subR t0 t1 ts).length = ts.length
  | [] => rfl
  | t :: ts => by show (subR t0 t1 ts).length + 1 = _; rw [subR_len t0 t1 ts]; rfl
theorem subR_get (t0 t1 : Nat) : ∀ (ts : List Nat) (i : Nat), i < ts.length → (subR t0 t1 ts).getD i 0 = subW t0 t1 (ts.getD i 0)
  | [], i, h => by cases h
  | t :: ts, 0, _ => rfl
  | t :: ts, i + 1, h => by
    show (subR t0 t1 ts).getD i 0 = _
    rw [subR_get t0 t1 ts i (by simpa using h)]
    rfl
theorem DRow.sub {E : Env} {s : Nat} {W : World} {rb d cp t0 t1 : Nat} {ts : List Nat} (hv : ∀ v, HoldsT E t0 v → HoldsT E t1 v) (h : DRow E s W rb d cp ts) : DRow E s W rb d cp (subR t0 t1 ts) := by
  obtain ⟨h1, h2, h3, cs, ty, h4, h5, h6⟩ := h
  refine ⟨h1, by rw [subR_len]; exact h2, h3, cs, ty, h4, h5, fun i hi => ?_⟩
  rw [subR_len] at hi
  obtain ⟨u, a, b⟩ := h6 i hi
  rw [subR_get t0 t1 ts i hi]
  exact ⟨u, a, subW_holds hv b⟩
theorem NewItems.sub {E : Env} {s : Nat} {W : World} {t0 t1 : Nat} (hv : ∀ v, HoldsT E t0 v → HoldsT E t1 v) {l : List DI} {vs : List Value} {bs : List Nat} (h : NewItems E s W l vs bs) : NewItems E s W (subL t0 t1 l) vs bs := by
  induction h with
  | nil => exact .nil
  | cell t v l vs bs h1 _ ih => exact .cell _ _ _ _ _ (subW_holds hv h1) ih
  | emp a l vs bs _ ih => exact .emp _ _ _ _ ih
  | row ts rb d cp l vs bs h1 h2 h3 _ ih =>
    have := NewItems.row (E := E) (s := s) (W := W) (subR t0 t1 ts) rb d cp _ _ _ (by rw [subR_len]; exact h1) (h2.sub hv) h3 ih
    rw [subR_len] at this
    exact this
  | sum t1' t2' v1 v2 ts rb d cp l vs bs h1 h2 h3 h4 h5 _ ih =>
    have := NewItems.sum (E := E) (s := s) (W := W) (subW t0 t1 t1') (subW t0 t1 t2') v1 v2 (subR t0 t1 ts) rb d cp _ _ _ (subW_holds hv h1) (subW_holds hv h2) (by rw [subR_len]; exact h3) (h4.sub hv) h5 ih
    rw [subR_len] at this
    exact this
/-- What a variable is lies in one of the pieces. -/
theorem DrawnK.part {E : Env} {P : Program} {fd j0 : Nat} {one : Bool} {l : List DI} {i lo hi : Nat} {ps : List (Nat × Nat)} (hi40 : i < 40) (hb : lo < 1099511627776 ∧ hi < 1099511627776 ∧ 0 < lo ∧ 0 < hi ∧ lo ≤ hi) (hc : covB hi ps lo = true) (K : DrawnK E P fd one l j0) :
    ∃ q ∈ ps, DrawnK E P fd one (subL (wV (pvIx i) lo hi) (pieceW i q) l) j0 := by
  obtain ⟨b1, b2, b3, b4, b5⟩ := hb
  have hold : ∀ v, HoldsT E (wV (pvIx i) lo hi) v → v = .int .i64 (E.int (pvIx i)) ∧ (lo : Int) - 549755813888 ≤ E.int (pvIx i) ∧ E.int (pvIx i) ≤ (hi : Int) - 549755813888 := by
    intro v hv
    obtain ⟨j, l', h', q1, q2, q3, q4, e1, e2⟩ := hv.1.var_inv (tag_wV _ _ _)
    obtain ⟨x1, x2, x3⟩ := v_parts (pvIx i) lo hi b1 b2
    obtain ⟨y1, y2, y3⟩ := v_parts j l' h' q1 q2
    rw [e1] at x1 x2 x3
    have z1 : h' = hi := y1.symm.trans x1
    have z2 : l' = lo := y2.symm.trans x2
    have z3 : j = pvIx i := y3.symm.trans x3
    rw [z1] at q4
    rw [z2] at q3
    rw [z3] at q3 q4 e2
    exact ⟨e2, by rcases q3 with q | q <;> omega, by rcases q4 with q | q <;> omega⟩
  have fin : ∀ q ∈ ps, (∀ v, HoldsT E (wV (pvIx i) lo hi) v → HoldsT E (pieceW i q) v) → DrawnK E P fd one (subL (wV (pvIx i) lo hi) (pieceW i q) l) j0 := by
    intro q hq hv
    refine ⟨K.known, ?_⟩
    intro w rb d sz c cs ty fz a1 a2 a3 a4 a5 a6 a7 a8
    refine (K.calls w rb d sz c cs ty fz a1 a2 a3 a4 a5 a6 a7 a8).mono ?_
    rintro e w' ⟨x, vs, bs, he, hn, ho, h0, hb⟩
    exact ⟨x, vs, bs, he, hn.sub hv, ho, h0, hb⟩
  by_cases hin : (lo : Int) - 549755813888 ≤ E.int (pvIx i) ∧ E.int (pvIx i) ≤ (hi : Int) - 549755813888
  · obtain ⟨q, hq, q1, q2, q3, q4⟩ := covB_of hc (E.int (pvIx i) + 549755813888).toNat (by omega) (by omega)
    refine ⟨q, hq, fin q hq fun v hv => ?_⟩
    obtain ⟨rfl, _, _⟩ := hold v hv
    unfold pieceW
    rw [sel_beq]
    split
    · rename_i e
      have := litK_holds E (c := q.1) (by omega)
      rw [show ((q.1 : Nat) : Int) - 549755813888 = E.int (pvIx i) from by omega] at this
      exact this
    · refine ⟨.var _ _ _ (by omega) (by omega) (.inr (by omega)) (.inr (by omega)), ?_⟩
      rw [storable_iff, tag_wV]
      refine ⟨by decide, by decide, by decide, ?_⟩
      show 16 * (1099511627776 * (1099511627776 * (2199023255552 + i) + q.1) + q.2) + 12 < _
      omega
  · obtain ⟨q, hq, _⟩ := covB_of hc lo (Nat.le_refl _) b5
    exact ⟨q, hq, fin q hq fun v hv => absurd (hold v hv).2 hin⟩
/-- The law's runs on something that is drawn are well: on itself, or on each of its parts. -/
inductive GoodL (P : Program) (S0 : Sums) (fd : Nat) (one : Bool) (j0 fuel d f : Nat) : List DI → Prop
  | run {l : List DI} (h : FtOk (drewRunF P S0 fd one j0 l fuel d f)) : GoodL P S0 fd one j0 fuel d f l
  | part {l : List DI} (i lo hi : Nat) (ps : List (Nat × Nat)) (hi40 : i < 40) (hb : lo < 1099511627776 ∧ hi < 1099511627776 ∧ 0 < lo ∧ 0 < hi ∧ lo ≤ hi) (hc : covB hi ps lo = true) (h : ∀ q ∈ ps, GoodL P S0 fd one j0 fuel d f (subL (wV (pvIx i) lo hi) (pieceW i q) l)) : GoodL P S0 fd one j0 fuel d f l
theorem GoodL.fin {E : Env} {P : Program} {S0 : Sums} {fd j0 fuel d f : Nat} {one : Bool} {l : List DI} (h : GoodL P S0 fd one j0 fuel d f l) (K : DrawnK E P fd one l j0) : ∃ l', FtOk (drewRunF P S0 fd one j0 l' fuel d f) ∧ DrawnK E P fd one l' j0 := by
  induction h with
  | run h => exact ⟨_, h, K⟩
  | part i lo hi ps h1 h2 h3 _ ih =>
    obtain ⟨q, hq, K'⟩ := K.part h1 h2 h3
    exact ih q hq K'
def DrawnF (P : Program) (S0 : Sums) (fd : Nat) (one : Bool) (j0 : Nat) (fuel d f : Nat) (r : OR) : Prop := ∃ l, GoodL P S0 fd one j0 fuel d f l ∧ isDrew one l r = true
theorem CoversG.drewF {P : Program} {S0 : Sums} {fd : Nat} {one : Bool} {j0 fuel d f : Nat} {ls : List (List DI)} {run : Tab → OR} {tab : Tab} (h : CoversP (anyDrew one ls) run tab) (hl : AllI (GoodL P S0 fd one j0 fuel d f) ls) : CoversG (DrawnF P S0 fd one j0 fuel d f) run tab :=
  .of h fun r hr => by
    obtain ⟨l, hm, h1⟩ := anyDrew_inv hr
    exact ⟨l, hl.mem l hm, h1⟩
theorem put_code [E : Env] {H : Trie} {n j0 rb d cap len : Nat} {ρ : Rho} {L : Look} {w : World} {x : Addr} {zs : List Int} {cs : Array Value} {ty : TypeId} {fz : Nat × Nat} (c0 : Ctx w.heap.size H n ρ L w) (hn : n < 16000) (hx : x = ⟨rb, d, none⟩) (hh : w.heap[rb]? = some (.cells cs ty fz)) (hrb : rb < w.heap.size)
    (hsz : d + cap ≤ cs.size) (hall : ∀ i, i < cap → cs[d + i]? = some (.int .u8 (zs.getD i 0))) (hzl : zs.length = cap) (hl : len ≤ cap) (hc : cap < 9223372036854775808) (hel : E.lst j0 = (zs.take len).map (Value.int .u8)) (hjl : j0 < 1048576) (hlen : len ≤ 1048576) (h1 : 1 ≤ len) :
    ∃ ρ' L', Ctx w.heap.size (hset H n (.opq j0 1)) (n + 1) ρ' L' w ∧ VR ρ' L' (wO n j0 1 1048576) (.slice (some x) len cap) := by
  have hcl : (zs.take len).length = len := by simp; omega
  have he : (E.lst j0).length = len := by rw [hel, List.length_map, hcl]
  refine ⟨_, _, c0.opq (j := j0) (sz := cap) (d := d) (by omega) hh hrb hsz (by omega) (fun i hi => ?_), ?_⟩
  · rw [hall i (by omega), hel, List.getElem?_map]
    have hi2 : i < (zs.take len).length := by omega
    rw [List.getElem?_eq_getElem hi2]
    have hi3 : i < zs.length := by omega
    simp [List.getD_eq_getElem?_getD, hi3]
  · have := VR.opq (ρ := updR ρ n (rb, d, cap)) (L := upd L n (.opq j0 1)) n j0 1 1048576 rb d cap cap (updR_same _ _ _) hjl (by omega) (by omega) (by rw [he]; exact h1) (by rw [he]; omega) (by rw [he]; exact hl) (by omega) (by omega)
    rw [he, ← hx] at this
    exact this
/-- ██ The walk of a law on a code, out of what is drawn and its runs with facts. -/
theorem drawn_walkF {P : Program} {S0 S1 : Sums} (hS0 : Always P S0) (hS1 : Always P S1) {fo fp tS fuel d f fd fuel1 d1 len cap : Nat} {one : Bool} (K : DrawK P fo fp tS) {w : World} {a : Option Addr} {zs : List Int}
    (w0 : (a = none ∧ len = 0 ∧ cap = 0 ∧ zs = []) ∨ ∃ x, a = some x ∧ len ≤ cap ∧ cap ≤ maxLen ∧ zs.length = cap ∧ (∀ i, i < zs.length → w.cell? (x.add i) = some (.int .u8 (zs.getD i 0))) ∧ ∀ n ∈ zs, (Lit.int .u8 n).wf = true)
    (hn : isTrue (nilRun P S0 fo fp fuel d f) = true) (hz : isTrue (zeroRun P S0 fo fp fuel d f) = true) (h0 : isTrue (emptyRun P S0 fo fp fuel d f) = true) (h2 : isTrue (longRun P S0 fo fp fuel d f) = true)
    (h1 : CoversG (DrawnF P S0 fd one 0 fuel d f) (dRun P S1 fo fp fuel1 d1 fd 0) []) :
    Calls P f #[.slice a len cap] w fun e w' => e = .returned (.bool true) ∧ Below w.heap.size w w' := by
  rcases w0 with ⟨rfl, rfl, rfl, rfl⟩ | ⟨x, rfl, hl, hm, hzl, hcell, hwz⟩
  · exact code_nil hS0 K hn
  by_cases hc0 : cap = 0
  · subst hc0
    obtain rfl : len = 0 := by omega
    exact code_zero hS0 K hz
  unfold maxLen at hm
  have hrow : RowOf .u8 w x cap zs := ⟨hzl, hcell⟩
  have hb : ∀ z ∈ zs, 0 ≤ z ∧ z ≤ 255 := fun z hz => wf_byte (hwz z hz)
  obtain ⟨hsp, cs, ty, fz, hh, hsz, hall⟩ := hrow.block (by omega)
  have hx : x = ⟨x.block, x.off, none⟩ := by
    cases x with
    | mk b o s => simp at hsp ⊢; exact hsp
  have hrb : x.block < w.heap.size := (Array.getElem?_eq_some_iff.1 hh).1
  by_cases hl0 : len = 0
  · subst hl0
    letI : Env := anyEnv
    have c := (Ctx.start w).arg (nb := 0) (ch := 0) (sz := cap) (d := x.off) (by omega) hh hrb hsz (by omega) (by intro i hi; omega)
    refine run_true (orS_sound (draw_any K) (hS0 _)) c (.cons _ _ _ _ ?_ .nil) h0
    exact .slice 0 1 0 0 0 x.block x.off cap cap x (updR_same _ _ _) (by omega) (by omega) (by omega) (by omega) (by omega) (by omega) (.inl rfl) (.inr ⟨hx, by omega⟩)
  · have hcl : (zs.take len).length = len := by simp; omega
    have hcb : ∀ z ∈ zs.take len, 0 ≤ z ∧ z ≤ 255 := fun z hz => hb z (List.mem_of_mem_take hz)
    by_cases hlong : 1048576 < len
    · letI E : Env := codeEnv (zs.take len) (by omega)
      have hE : DrawE (zs.take len) 0 := codeEnv_ok (by omega) hcb (by omega) rfl
      have he : (E.lst 0).length = len := by rw [hE.l0, List.length_map, hcl]
      have c := (Ctx.start w).opq (j := 0) (sz := cap) (d := x.off) (by omega) hh hrb hsz (by omega) (fun i hi => by
        rw [hall i (by omega), hE.l0, List.getElem?_map]
        have hi2 : i < (zs.take len).length := by omega
        rw [List.getElem?_eq_getElem hi2]
        have hi3 : i < zs.length := by omega
        simp [List.getD_eq_getElem?_getD, hi3])
      refine run_true (orS_sound (drawS_sound K hE tabOk_nil) (hS0 _)) c (.cons _ _ _ _ ?_ .nil) h2
      have := VR.opq (ρ := updR (fun _ => none) 0 (x.block, x.off, cap)) (L := upd (fun _ => none) 0 (.opq 0 1)) 0 0 1048577 0 x.block x.off cap cap (updR_same _ _ _) (by omega) (by omega) (by omega) (by rw [he]; omega) (.inl rfl) (by rw [he]; exact hl) (by omega) (by omega)
      rw [he, ← hx] at this
      exact this
    · have hE : @DrawE (codeEnv (zs.take len) (by omega)) (zs.take len) 0 := codeEnv_ok (by omega) hcb (by omega) rfl
      refine h1 (codeEnv (zs.take len) (by omega)) (zs.take len) _ hE (by omega) (@tabOk_nil (codeEnv (zs.take len) (by omega))) _ fun E' hl' hE' tab hT ⟨l, hg, hd⟩ => ?_
      obtain ⟨y, hy, KD⟩ := drawn_of (hS1 E') K (by omega) hE' hT hd
      obtain ⟨l', ⟨t, ht⟩, KD'⟩ := hg.fin KD
      letI E2 : Env := pvEnv E' y hy
      obtain ⟨fs, hfs, hrun⟩ := FT.sound E2 t [] ht (fun f h => by cases h)
      obtain ⟨hlen, hrun⟩ := sel_and hrun
      have hlen := (ltb_iff _ _).1 hlen
      obtain ⟨L0, c0, _⟩ := put_fe fs 0 .nil _ _ w.heap.size w (Ctx.start w) (by omega) hfs
      rw [Nat.zero_add] at c0
      obtain ⟨ρ, L, c1, hv⟩ := put_code (j0 := 0) c0 (by omega) hx hh hrb hsz hall hzl hl (by omega) (@DrawE.l0 E' _ _ hE') (by omega) (by omega) (by omega)
      exact run_true (orS_sound (drewS_sound KD') (hS0 _)) c1 (.cons _ _ _ _ hv .nil) hrun
end Go.Eng
