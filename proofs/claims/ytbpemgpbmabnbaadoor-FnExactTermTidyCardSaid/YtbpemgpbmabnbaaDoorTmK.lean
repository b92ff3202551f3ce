/- The model's terms in memory. -/
import Derived.Test.YtbpemgpbmabnbaaDoorTmJ
namespace Go.Proofs.YtbpemgpbmabnbaaDoor.tm
open Go.ChangeShapes Go.WideShapes Go.ChangeAt Go.RowKit Go.Tm
set_option linter.unusedVariables false
set_option linter.unusedSimpArgs false
set_option maxRecDepth 10000

/-- the four parts of the model's term -/
structure S4 where
  k : Nat
  p : Option Addr
  n : Nat
  c : Nat
  d : Nat
  q : Option Addr
  m : Nat
  cq : Nat
def S4.v (s : S4) : Value := .agg #[.int .u8 s.k, .slice s.p s.n s.c, .int .i64 s.d, .slice s.q s.m s.cq]
def Four (w : World) (b o : Nat) (s : S4) : Prop := b < w.heap.size ∧ w.cell? ⟨b, o, none⟩ = some (.int .u8 s.k) ∧ w.cell? ⟨b, o + 1, none⟩ = some (.slice s.p s.n s.c) ∧ w.cell? ⟨b, o + 2, none⟩ = some (.int .i64 s.d) ∧ w.cell? ⟨b, o + 3, none⟩ = some (.slice s.q s.m s.cq)
theorem Four.below {w w' : World} {b o : Nat} {s : S4} (h : Four w b o s) (hb : Below w.heap.size w w') : Four w' b o s := by
  obtain ⟨h0, h1, h2, h3, h4⟩ := h
  refine ⟨Nat.lt_of_lt_of_le h0 hb.size, ?_, ?_, ?_, ?_⟩
  · rw [hb.cell (p := ⟨b, o, none⟩) h0]; exact h1
  · rw [hb.cell (p := ⟨b, o + 1, none⟩) h0]; exact h2
  · rw [hb.cell (p := ⟨b, o + 2, none⟩) h0]; exact h3
  · rw [hb.cell (p := ⟨b, o + 3, none⟩) h0]; exact h4
/-- from block B on all is as it was -/
def Kept (B : Nat) (w w' : World) : Prop := w.heap.size ≤ w'.heap.size ∧ ∀ b o, B ≤ b → b < w.heap.size → w'.cell? ⟨b, o, none⟩ = w.cell? ⟨b, o, none⟩
theorem Kept.refl (B : Nat) (w : World) : Kept B w w := ⟨Nat.le_refl _, fun _ _ _ _ => rfl⟩
theorem Kept.trans {B : Nat} {a b c : World} (h : Kept B a b) (h' : Kept B b c) : Kept B a c :=
  ⟨Nat.le_trans h.1 h'.1, fun x o h1 h2 => (h'.2 x o h1 (Nat.lt_of_lt_of_le h2 h.1)).trans (h.2 x o h1 h2)⟩
theorem Kept.below {B : Nat} {w w1 w2 : World} (h : Kept B w w1) (hb : Below w1.heap.size w1 w2) : Kept B w w2 :=
  ⟨Nat.le_trans h.1 hb.size, fun b o h1 h2 => (hb.cell (p := ⟨b, o, none⟩) (Nat.lt_of_lt_of_le h2 h.1)).trans (h.2 b o h1 h2)⟩
theorem Kept.alloc {B : Nat} {w w1 : World} (h : Kept B w w1) (o : Obj) : Kept B w (w1.alloc o) := h.below ((Below.refl _ _).alloc (Nat.le_refl _) o)
theorem Kept.drew {B : Nat} {w w1 : World} (h : Kept B w w1) : Kept B w w1.drew := h.below (Below.refl _ _).drew
theorem Kept.set {B : Nat} {w w1 : World} (h : Kept B w w1) {a : Nat} (ha : a < B) (k : Nat) (v : Value) : Kept B w (w1.setCell ⟨a, k, none⟩ v) :=
  ⟨by simpa using h.1, fun b o h1 h2 => by rw [World.cell?_setCell_other _ _ _ _ (by intro e; injection e; omega)]; exact h.2 b o h1 h2⟩
theorem Kept.mono {B C : Nat} {w w1 : World} (h : Kept B w w1) (hc : B ≤ C) : Kept C w w1 := ⟨h.1, fun b o h1 h2 => h.2 b o (Nat.le_trans hc h1) h2⟩
theorem Four.kept {B : Nat} {w w' : World} {b o : Nat} {s : S4} (h : Four w b o s) (hB : B ≤ b) (hb : Kept B w w') : Four w' b o s := by
  obtain ⟨h0, h1, h2, h3, h4⟩ := h
  refine ⟨Nat.lt_of_lt_of_le h0 hb.1, ?_, ?_, ?_, ?_⟩
  · rw [hb.2 b o hB h0]; exact h1
  · rw [hb.2 b (o + 1) hB h0]; exact h2
  · rw [hb.2 b (o + 2) hB h0]; exact h3
  · rw [hb.2 b (o + 3) hB h0]; exact h4
/-- a slice in blocks from B on that reads as a list -/
def RowB (B : Nat) (w : World) (sl : Value) (a : List Nat) : Prop := ∃ b o cap, sl = .slice (some ⟨b, o, none⟩) a.length cap ∧ B ≤ b ∧ b < w.heap.size ∧ ∀ i, i < a.length → w.cell? ⟨b, o + i, none⟩ = some (.int .i64 ((gn a i : Nat) : Int))
theorem RowB.at {B : Nat} {w : World} {sl : Value} {a : List Nat} (h : RowB B w sl a) : RowAt w sl a := by
  obtain ⟨b, o, cap, e, _, h1, h2⟩ := h
  exact ⟨b, o, cap, e, h1, h2⟩
theorem RowB.kept {B : Nat} {w w' : World} {sl : Value} {a : List Nat} (h : RowB B w sl a) (hb : Kept B w w') : RowB B w' sl a := by
  obtain ⟨b, o, cap, e, h0, h1, h2⟩ := h
  exact ⟨b, o, cap, e, h0, Nat.lt_of_lt_of_le h1 hb.1, fun i hi => by rw [hb.2 b (o + i) h0 h1]; exact h2 i hi⟩
theorem RowB.mono {B C : Nat} {w : World} {sl : Value} {a : List Nat} (h : RowB B w sl a) (hc : C ≤ B) : RowB C w sl a := by
  obtain ⟨b, o, cap, e, h0, h1⟩ := h
  exact ⟨b, o, cap, e, Nat.le_trans hc h0, h1⟩
def SRep (B : Nat) (w : World) : Tm → S4 → Prop
  | .leaf c a, s => s.k = c.toNat ∧ s.d = sumL a ∧ s.m = 0 ∧ RowB B w (.slice s.p s.n s.c) a
  | .neg t, s => s.k = 45 ∧ s.d = t.deg ∧ s.m = 1 ∧ ∃ b o u, s.q = some ⟨b, o, none⟩ ∧ B ≤ b ∧ Four w b o u ∧ SRep B w t u
  | .two p a b, s => s.k = (if p then 43 else 42) ∧ s.d = Tm.deg (.two p a b) ∧ s.m = 2 ∧ ∃ bb o u u', s.q = some ⟨bb, o, none⟩ ∧ B ≤ bb ∧ Four w bb o u ∧ Four w bb (o + 4) u' ∧ SRep B w a u ∧ SRep B w b u'
theorem SRep.kept {B : Nat} {w w' : World} (hb : Kept B w w') : ∀ {t : Tm} {s : S4}, SRep B w t s → SRep B w' t s
  | .leaf _ _, _, ⟨h1, h2, h3, h4⟩ => ⟨h1, h2, h3, h4.kept hb⟩
  | .neg _, _, ⟨h1, h2, h3, b, o, u, h4, h0, h5, h6⟩ => ⟨h1, h2, h3, b, o, u, h4, h0, h5.kept h0 hb, SRep.kept hb h6⟩
  | .two _ _ _, _, ⟨h1, h2, h3, b, o, u, u', h4, h0, h5, h6, h7, h8⟩ => ⟨h1, h2, h3, b, o, u, u', h4, h0, h5.kept h0 hb, h6.kept h0 hb, SRep.kept hb h7, SRep.kept hb h8⟩
theorem SRep.mono {B C : Nat} {w : World} (hc : C ≤ B) : ∀ {t : Tm} {s : S4}, SRep B w t s → SRep C w t s
  | .leaf _ _, _, ⟨h1, h2, h3, h4⟩ => ⟨h1, h2, h3, h4.mono hc⟩
  | .neg _, _, ⟨h1, h2, h3, b, o, u, h4, h0, h5, h6⟩ => ⟨h1, h2, h3, b, o, u, h4, Nat.le_trans hc h0, h5, SRep.mono hc h6⟩
  | .two _ _ _, _, ⟨h1, h2, h3, b, o, u, u', h4, h0, h5, h6, h7, h8⟩ => ⟨h1, h2, h3, b, o, u, u', h4, Nat.le_trans hc h0, h5, h6, SRep.mono hc h7, SRep.mono hc h8⟩
theorem SRep.deg {B : Nat} {w : World} : ∀ {t : Tm} {s : S4}, SRep B w t s → s.d = t.deg
  | .leaf _ _, _, h => h.2.1
  | .neg _, _, h => h.2.1
  | .two _ _ _, _, h => h.2.1
theorem SRep.below {B : Nat} {w w' : World} (hb : Below w.heap.size w w') {t : Tm} {s : S4} (h : SRep B w t s) : SRep B w' t s := h.kept ((Kept.refl B w).below hb)

theorem spec_leaf (w : World) (c : Nat) (p : Option Addr) (n cp : Nat) (a : List Nat) (hr : RowAt w (.slice p n cp) a) (ha : ∀ i, gn a i ≤ 9) (hl : a.length ≤ 40) :
    Calls Tryd.prog 22 #[.int .u8 c, .slice p n cp] w fun e w' => ∃ q cq, e = .returned (.agg #[.int .u8 c, .slice p n cp, .int .i64 (sumL a : Nat), .slice q 0 cq]) ∧ Below w.heap.size w w' := by
  have HR := Lib.hid hr
  clear hr
  go_enter Tryd.func22, Tryd.ntmps22
  go_wp2_with (go_at_call 32; refine (spec_sum _ _ a (HR.out.below ?_) ha hl).mono ?_; (exact (Below.refl _ _).alloc (Nat.le_refl _) _); rintro e w' ⟨rfl, rfl⟩)
  refine bodyPost_ret (v := .agg #[.int .u8 c, .slice p n cp, .int .i64 (sumL a : Nat), .slice (some ⟨w.heap.size + 1, 0, none⟩) 0 0]) (by simp [results, Tryd.results22, go_sem]) rfl ⟨_, _, rfl, ?_⟩
  exact ((Below.refl _ _).alloc (Nat.le_refl _) _).alloc (by simp) _
/-- a variable of the function's own that holds a term's four parts -/
def Keep (W : World) (b : Nat) (s : S4) : Prop := Four W b 0 s ∧ ∀ o, W.frozen? ⟨b, o, none⟩ = false
theorem Keep.below {w w' : World} {b : Nat} {s : S4} (h : Keep w b s) (hb : Below w.heap.size w w') : Keep w' b s :=
  ⟨h.1.below hb, fun o => by rw [hb.frozen (p := ⟨b, o, none⟩) h.1.1]; exact h.2 o⟩
theorem Keep.alloc {w : World} {b : Nat} {s : S4} (h : Keep w b s) (o : Obj) : Keep (w.alloc o) b s := h.below ((Below.refl _ _).alloc (Nat.le_refl _) o)
theorem Keep.drew {w : World} {b : Nat} {s : S4} (h : Keep w b s) : Keep w.drew b s := h.below (Below.refl _ _).drew
theorem Keep.new (w : World) (s : S4) : Keep (w.alloc (.cells #[.int .u8 s.k, .slice s.p s.n s.c, .int .i64 s.d, .slice s.q s.m s.cq] 33)) w.heap.size s :=
  ⟨⟨by simp, by simp, by simp, by simp, by simp⟩, fun o => by simp⟩
theorem Four.new (W : World) (s : S4) (b : Nat) (T : TypeId) (h : b = W.heap.size) : Four (W.alloc (.cells #[.int .u8 s.k, .slice s.p s.n s.c, .int .i64 s.d, .slice s.q s.m s.cq] T)) b 0 s := by
  subst h
  exact ⟨by simp, by simp, by simp, by simp, by simp⟩
theorem Four.two (W : World) (s s' : S4) (b : Nat) (T : TypeId) (h : b = W.heap.size) : Four (W.alloc (.cells #[.int .u8 s.k, .slice s.p s.n s.c, .int .i64 s.d, .slice s.q s.m s.cq, .int .u8 s'.k, .slice s'.p s'.n s'.c, .int .i64 s'.d, .slice s'.q s'.m s'.cq] T)) b 0 s ∧ Four (W.alloc (.cells #[.int .u8 s.k, .slice s.p s.n s.c, .int .i64 s.d, .slice s.q s.m s.cq, .int .u8 s'.k, .slice s'.p s'.n s'.c, .int .i64 s'.d, .slice s'.q s'.m s'.cq] T)) b 4 s' := by
  subst h
  exact ⟨⟨by simp, by simp, by simp, by simp, by simp⟩, ⟨by simp, by simp, by simp, by simp, by simp⟩⟩
theorem Four.two_drew (W : World) (s s' : S4) (b : Nat) (T : TypeId) (h : b = W.heap.size) : Four (W.alloc (.cells #[.int .u8 s.k, .slice s.p s.n s.c, .int .i64 s.d, .slice s.q s.m s.cq, .int .u8 s'.k, .slice s'.p s'.n s'.c, .int .i64 s'.d, .slice s'.q s'.m s'.cq] T)).drew b 0 s ∧ Four (W.alloc (.cells #[.int .u8 s.k, .slice s.p s.n s.c, .int .i64 s.d, .slice s.q s.m s.cq, .int .u8 s'.k, .slice s'.p s'.n s'.c, .int .i64 s'.d, .slice s'.q s'.m s'.cq] T)).drew b 4 s' :=
  ⟨(Four.two W s s' b T h).1.below (Below.refl _ _).drew, (Four.two W s s' b T h).2.below (Below.refl _ _).drew⟩
theorem Four.two_alloc (W : World) (s s' : S4) (b : Nat) (T : TypeId) (o : Obj) (h : b = W.heap.size) : Four ((W.alloc (.cells #[.int .u8 s.k, .slice s.p s.n s.c, .int .i64 s.d, .slice s.q s.m s.cq, .int .u8 s'.k, .slice s'.p s'.n s'.c, .int .i64 s'.d, .slice s'.q s'.m s'.cq] T)).alloc o).drew b 0 s ∧ Four ((W.alloc (.cells #[.int .u8 s.k, .slice s.p s.n s.c, .int .i64 s.d, .slice s.q s.m s.cq, .int .u8 s'.k, .slice s'.p s'.n s'.c, .int .i64 s'.d, .slice s'.q s'.m s'.cq] T)).alloc o).drew b 4 s' :=
  ⟨(Four.two W s s' b T h).1.below ((Below.refl _ _).alloc (Nat.le_refl _) o).drew, (Four.two W s s' b T h).2.below ((Below.refl _ _).alloc (Nat.le_refl _) o).drew⟩
theorem Keep.facts {W : World} {b : Nat} {s : S4} (h : Keep W b s) : b < W.heap.size ∧ W.cell? ⟨b, 0, none⟩ = some (.int .u8 s.k) ∧ W.cell? ⟨b, 1, none⟩ = some (.slice s.p s.n s.c) ∧ W.cell? ⟨b, 2, none⟩ = some (.int .i64 s.d) ∧ W.cell? ⟨b, 3, none⟩ = some (.slice s.q s.m s.cq) ∧ W.frozen? ⟨b, 0, none⟩ = false ∧ W.frozen? ⟨b, 1, none⟩ = false ∧ W.frozen? ⟨b, 2, none⟩ = false ∧ W.frozen? ⟨b, 3, none⟩ = false :=
  ⟨h.1.1, h.1.2.1, h.1.2.2.1, h.1.2.2.2.1, h.1.2.2.2.2, h.2 0, h.2 1, h.2 2, h.2 3⟩
def zero4 : S4 := ⟨0, none, 0, 0, 0, none, 0, 0⟩
theorem Keep.zero (w : World) : Keep (w.alloc (.cells #[.int .u8 0, .slice none 0 0, .int .i64 0, .slice none 0 0] 33)) w.heap.size zero4 := Keep.new w zero4
/-- nothing is read -/
def SNo (w : World) (e : Ending) (w' : World) : Prop := ∃ s : S4, e = .returned (.tuple #[.agg #[.int .u8 s.k, .slice s.p s.n s.c, .int .i64 s.d, .slice s.q s.m s.cq], .int .i64 0]) ∧ Below w.heap.size w w'
def SYes (w : World) (t : Tm) (n : Nat) (e : Ending) (w' : World) : Prop := ∃ s : S4, e = .returned (.tuple #[.agg #[.int .u8 s.k, .slice s.p s.n s.c, .int .i64 s.d, .slice s.q s.m s.cq], .int .i64 n]) ∧ SRep w.heap.size w' t s ∧ Below w.heap.size w w'
theorem row_empty (w : World) (b o cp : Nat) (hb : b < w.heap.size) : RowAt w (.slice (some ⟨b, o, none⟩) 0 cp) [] := ⟨b, o, cp, rfl, hb, fun i hi => absurd hi (by simp)⟩
theorem leaf_m (b cp : Nat) (w : World) (h : b < w.heap.size) : Calls Tryd.prog 22 #[.int .u8 109, .slice (some ⟨b, 0, none⟩) 0 cp] w fun e w' => ∃ q cq, e = .returned (.agg #[.int .u8 109, .slice (some ⟨b, 0, none⟩) 0 cp, .int .i64 0, .slice q 0 cq]) ∧ Below w.heap.size w w' :=
  spec_leaf w 109 _ _ _ [] (row_empty _ _ _ _ h) (by simp [gn]) (by simp)
theorem below_next {w W w1 : World} (h : Below w.heap.size w W) (hb : Below W.heap.size W w1) : Below w.heap.size w w1 := h.trans (hb.mono h.size)
theorem below_alloc {w W : World} (h : Below w.heap.size w W) (o : Obj) : Below w.heap.size w (W.alloc o) := h.alloc h.size o
theorem below_set {w W : World} (h : Below w.heap.size w W) (o : Nat) (v : Value) : Below w.heap.size w (W.setCell ⟨w.heap.size, o, none⟩ v) := h.setCell (Nat.le_refl _) v
end Go.Proofs.YtbpemgpbmabnbaaDoor.tm
