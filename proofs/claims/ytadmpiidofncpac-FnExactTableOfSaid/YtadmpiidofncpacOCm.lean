/- Part of the evaluator, in company. -/
import Derived.Test.YtadmpiidofncpacOCc
import Derived.Conc.Beside
import Derived.Conc.CrowdBase
import Derived.Test.YtadmpiidofncpacOCk
import Derived.Conc.CrowdStepW
import Derived.Conc.CrowdComm
set_option linter.unusedSectionVars false
set_option linter.unusedSimpArgs false
set_option linter.unusedVariables false
namespace Go.Eng
open Go Go.RowKit
open Go.Conc (G)
inductive Tre : Type
 | leaf : Tre
 | node (f : Nat × Nat → Sta → Tre) : Tre
section
variable (P : Program) (main : Bool) (leap : Program → Frame → List Frame → World → (Sta → Prop) → Prop) (Stop : Sta → Prop)
def WinT : Tre → Sta → Prop
 | .leaf, s => Stop s
 | .node f, s =>
  (∃ fr' cs', (∀ W, stepG P main (G s.1 s.2.1) W = .go (G fr' cs') W) ∧ WinT (f (0, 0) (fr', cs', s.2.2)) (fr', cs', s.2.2)) ∨
  ∀ p, (∃ fr' cs' w', Goer P main s.1 s.2.1 (padW s.2.2 p) fr' cs' w' ∧ WinT (f p (fr', cs', w')) (fr', cs', w')) ∨
   (∃ Post, leap P s.1 s.2.1 (padW s.2.2 p) Post ∧ (∃ s', Post s') ∧ ∀ s', Post s' → WinT (f p s') s')
def Win (s : Sta) : Prop := ∃ t, WinT P main leap Stop t s
end
section
variable {P : Program} {main : Bool} {leap : Program → Frame → List Frame → World → (Sta → Prop) → Prop} {Stop : Sta → Prop}
open Classical in
noncomputable def treOf (P : Program) (main : Bool) (leap : Program → Frame → List Frame → World → (Sta → Prop) → Prop) (Stop : Sta → Prop) (s : Sta) : Tre :=
 if h : Win P main leap Stop s then Classical.choose h else .leaf
theorem z8d {s : Sta} (h : Win P main leap Stop s) : WinT P main leap Stop (treOf P main leap Stop s) s := by
 unfold treOf
 rw [dif_pos h]; exact Classical.choose_spec h
theorem Win.stop {s : Sta} (h : Stop s) : Win P main leap Stop s := ⟨.leaf, h⟩
theorem Win.mute {fr fr' : Frame} {cs cs' : List Frame} {w : World} (h : ∀ W, stepG P main (G fr cs) W = .go (G fr' cs') W) (hw : Win P main leap Stop (fr', cs', w)) : Win P main leap Stop (fr, cs, w) :=
 ⟨.node fun _ s => treOf P main leap Stop s, .inl ⟨fr', cs', h, z8d hw⟩⟩
theorem Win.noisy {fr : Frame} {cs : List Frame} {w : World}
  (h : ∀ p, (∃ fr' cs' w', Goer P main fr cs (padW w p) fr' cs' w' ∧ Win P main leap Stop (fr', cs', w')) ∨ (∃ Post, leap P fr cs (padW w p) Post ∧ (∃ s', Post s') ∧ ∀ s', Post s' → Win P main leap Stop s')) :
  Win P main leap Stop (fr, cs, w) := by
 refine ⟨.node fun _ s => treOf P main leap Stop s, .inr fun p => ?_⟩
 rcases h p with ⟨fr', cs', w', h1, h2⟩ | ⟨Post, h1, h2, h3⟩
 ·exact .inl ⟨fr', cs', w', h1, z8d h2⟩
 ·exact .inr ⟨Post, h1, h2, fun s' hs => z8d (h3 s' hs)⟩
def Bad (P : Program) (main : Bool) (leap : Program → Frame → List Frame → World → (Sta → Prop) → Prop) (Stop : Sta → Prop) (fr : Frame) (cs : List Frame) (w : World) (p : Nat × Nat) : Prop :=
 (∀ fr' cs' w', Goer P main fr cs (padW w p) fr' cs' w' → ¬ Win P main leap Stop (fr', cs', w')) ∧ ∀ Post, leap P fr cs (padW w p) Post → (∃ s', Post s') → ∃ s', Post s' ∧ ¬ Win P main leap Stop s'
theorem z7t {fr : Frame} {cs : List Frame} {w : World} (h : ¬ Win P main leap Stop (fr, cs, w)) : ∃ p, Bad P main leap Stop fr cs w p := by
 apply Classical.byContradiction
 intro hn
 refine h (Win.noisy fun p => ?_)
 apply Classical.byContradiction
 intro hp
 refine hn ⟨p, fun fr' cs' w' hg hw => hp (.inl ⟨fr', cs', w', hg, hw⟩), fun Post h1 h2 => ?_⟩
 apply Classical.byContradiction
 intro h3
 exact hp (.inr ⟨Post, h1, h2, fun s' hs => Classical.byContradiction fun h4 => h3 ⟨s', hs, h4⟩⟩)
open Classical in
@[reducible] noncomputable def worst (P : Program) (main : Bool) (leap : Program → Frame → List Frame → World → (Sta → Prop) → Prop) (Stop : Sta → Prop) : Pad where
 pad fr cs w := if h : ∃ p, Bad P main leap Stop fr cs w p then Classical.choose h else (0, w.drawn)
 main := main
 leap := leap
 pick fr cs w Post := if h : ∃ s, Post s ∧ ¬ Win P main leap Stop s then Classical.choose h else if h2 : ∃ s, Post s then Classical.choose h2 else (fr, cs, w)
 pick_ok fr cs w Post hp := by
  split
  ·rename_i h; exact (Classical.choose_spec h).1
  ·exact Classical.choose_spec hp
open Classical in
theorem zcG {s s' : Sta} (h : ¬ Win P main leap Stop s) (ho : @One (worst P main leap Stop) P s s') : ¬ Win P main leap Stop s' := by
 letI : Pad := worst P main leap Stop
 cases ho with
 | mute fr cs fr' cs' w hm => exact fun hw => h (Win.mute hm hw)
 | op fr cs fr' cs' w w' hg =>
  have hb := z7t h
  have hp : padded fr cs w = padW w (Classical.choose hb) := by
   show padW w (if h : ∃ p, Bad P main leap Stop fr cs w p then Classical.choose h else (0, w.drawn)) = _
   rw [dif_pos hb]
  rw [hp] at hg
  exact (Classical.choose_spec hb).1 _ _ _ hg
 | leap fr cs w Post hl hex =>
  have hb := z7t h
  have hp : padded fr cs w = padW w (Classical.choose hb) := by
   show padW w (if h : ∃ p, Bad P main leap Stop fr cs w p then Classical.choose h else (0, w.drawn)) = _
   rw [dif_pos hb]
  rw [hp] at hl
  have h3 := (Classical.choose_spec hb).2 Post hl hex
  show ¬ Win P main leap Stop (if h : ∃ s, Post s ∧ ¬ Win P main leap Stop s then Classical.choose h else if h2 : ∃ s, Post s then Classical.choose h2 else (fr, cs, w))
  rw [dif_pos h3]
  exact (Classical.choose_spec h3).2
theorem z4d {s : Sta} (h : ∀ Pd : Pad, Pd.main = main → Pd.leap = leap → ∃ s', Stop s' ∧ @Steps Pd P s s') : Win P main leap Stop s := by
 apply Classical.byContradiction
 intro hn
 obtain ⟨s', hs, hst⟩ := h (worst P main leap Stop) rfl rfl
 have key : ∀ a b, @Steps (worst P main leap Stop) P a b → ¬ Win P main leap Stop a → ¬ Win P main leap Stop b := by
  intro a b hab
  induction hab with
  | nil => exact id
  | head h1 _ ih => exact fun hn => ih (zcG hn h1)
 exact key _ _ hst hn (Win.stop hs)
end
end Go.Eng
namespace Go.Eng
open Go Go.RowKit
open Go.Conc (G)
structure View (v w : World) : Prop where
 size : v.heap.size ≤ w.heap.size
 alike : ∀ (b : Nat) (o O : Obj), v.heap[b]? = some o → w.heap[b]? = some O → Alike o O
 os : w.os = v.os
 tape : w.tape = v.tape
 output : w.output = v.output
 views : NoViews v
theorem z2j : ¬ MineO junk := fun h => h.1 rfl
theorem z4G : ¬ ReadO junk := fun h => h rfl
section
variable {v w w' : World}
theorem z5G (v : World) (p : Nat × Nat) (b : Nat) : (padW v p).heap[b]? = if b < v.heap.size then v.heap[b]? else if b < v.heap.size + p.1 then some junk else none := by
 unfold padW
 simp only [Array.getElem?_append]
 split
 ·rfl
 ·rename_i h
  split
  ·rename_i h2
   rw [Array.getElem?_replicate, if_pos (by omega)]
  ·rename_i h2
   rw [Array.getElem?_replicate, if_neg (by omega)]
theorem z3B {p : Nat × Nat} {b : Nat} : MineAt (padW v p) b ↔ MineAt v b := by
 unfold MineAt
 rw [z5G]
 split
 ·rfl
 ·rename_i h
  have hn : v.heap[b]? = none := Array.getElem?_eq_none (by omega)
  rw [hn]
  split
  ·constructor
   ·rintro ⟨o, h1, h2⟩; injection h1 with h1; subst h1; exact absurd h2 z2j
   ·rintro ⟨o, h1, _⟩; cases h1
  ·rfl
theorem z6v {p : Nat × Nat} {b : Nat} : ReadAt (padW v p) b ↔ ReadAt v b := by
 unfold ReadAt
 rw [z5G]
 split
 ·rfl
 ·rename_i h
  have hn : v.heap[b]? = none := Array.getElem?_eq_none (by omega)
  rw [hn]
  split
  ·constructor
   ·rintro ⟨o, h1, h2⟩; injection h1 with h1; subst h1; exact absurd h2 z4G
   ·rintro ⟨o, h1, _⟩; cases h1
  ·rfl
theorem MineAt.read {b : Nat} (h : MineAt v b) : ReadAt v b := let ⟨o, h1, h2⟩ := h; ⟨o, h1, h2.1⟩
theorem ReadAt.lt {b : Nat} (h : ReadAt v b) : b < v.heap.size := by obtain ⟨o, h1, _⟩ := h; exact (Array.getElem?_eq_some_iff.1 h1).1
theorem z5i (h : NoViews v) (p : Nat × Nat) : NoViews (padW v p) := by
 intro b o ho
 rw [z5G] at ho
 split at ho
 ·exact h b o ho
 ·split at ho
  ·injection ho with ho; subst ho; exact trivial
  ·cases ho
def fill (v w : World) : Nat × Nat := (w.heap.size - v.heap.size, w.drawn)
theorem View.rel (h : View v w) : Rel (padW v (fill v w)) w := by
 refine ⟨?_, ?_, h.os, h.tape, h.output, rfl⟩
 ·have := h.size
  unfold padW fill; simp; omega
 ·intro b o O ho hO
  rw [z5G] at ho
  split at ho
  ·exact h.alike b o O ho hO
  ·split at ho
   ·injection ho with ho; subst ho; exact .junk O
   ·cases ho
theorem View.other (h : View v w) (hs : w.heap.size ≤ w'.heap.size) (hk : ∀ b, ReadAt v b → w'.heap[b]? = w.heap[b]?) (ho : w'.os = w.os ∧ w'.tape = w.tape ∧ w'.output = w.output) : View v w' := by
 refine ⟨Nat.le_trans h.size hs, ?_, ho.1.trans h.os, ho.2.1.trans h.tape, ho.2.2.trans h.output, h.views⟩
 intro b o O hb hO
 by_cases hj : o = junk
 ·subst hj; exact .junk O
 ·rw [hk b ⟨o, hb, hj⟩] at hO
  exact h.alike b o O hb hO
theorem View.at (h : View v w) (d : Nat) : View v (w.at d) := h.other (Nat.le_refl _) (fun _ _ => rfl) ⟨rfl, rfl, rfl⟩
end
structure Turn (v v' w w' : World) (es : Array Event) : Prop where
 size : w.heap.size ≤ w'.heap.size
 same : w'.os = w.os ∧ w'.tape = w.tape ∧ w'.output = w.output
 keep : ∀ b, b < w.heap.size → ¬ MineAt v b → w'.heap[b]? = w.heap[b]?
 mine : ∀ b, MineAt v' b → MineAt v b ∨ w.heap.size ≤ b
 read : ∀ b, ReadAt v' b → ReadAt v b ∨ w.heap.size ≤ b
 evs : ∀ e ∈ es, EvOk v w.heap.size w'.heap.size e
theorem Turn.mute (v w : World) : Turn v v w w #[] :=
 ⟨Nat.le_refl _, ⟨rfl, rfl, rfl⟩, fun _ _ _ => rfl, fun _ h => .inl h, fun _ h => .inl h, by simp⟩
end Go.Eng
namespace Go.Eng
open Go Go.RowKit
open Go.Conc
theorem memOps {g : Nat} {fn : FuncId} {pos : String} {es : Array Event} {op : MemOp} (h : op ∈ MemOp.ofEvents g fn pos es) : ∃ e ∈ es, op = { g, fn, pos, act := .ofEvent e } := by
 rw [Go.Conc.ofEvents_eq] at h
 obtain ⟨e, he, rfl⟩ := Array.mem_map.1 h
 exact ⟨e, he, rfl⟩
def locB : Go.Loc → Option Nat
 | .cell a => some a.block
 | .obj r => some r
 | _ => none
theorem zdu {l : Go.Loc} (h : l.isMemory = true) : ∃ b, locB l = some b := by
 cases l <;> first | exact ⟨_, rfl⟩ | cases h
structure Kn (t : Trace) (g : Nat) (v : World) : Prop where
 mine : ∀ (i : Nat) (a : Touch) (b : Nat), touchAt t i = some a → locB a.loc = some b → MineAt v b → Knows t g i
 read : ∀ (i : Nat) (a : Touch) (b : Nat), touchAt t i = some a → locB a.loc = some b → ReadAt v b → a.write = true → Knows t g i
structure Apart2 (v u : World) : Prop where
 l : ∀ b, MineAt v b → ¬ ReadAt u b
 r : ∀ b, MineAt u b → ¬ ReadAt v b
theorem Apart2.symm {v u : World} (h : Apart2 v u) : Apart2 u v := ⟨h.r, h.l⟩
theorem Apart2.turn {v v' u w w' : World} {es : Array Event} (h : Apart2 v u) (k : Turn v v' w w' es) (hu : u.heap.size ≤ w.heap.size) : Apart2 v' u := by
 refine ⟨fun b hb hr => ?_, fun b hb hr => ?_⟩
 ·rcases k.mine b hb with h1 | h1
  ·exact h.l b h1 hr
  ·have := hr.lt; omega
 ·rcases k.read b hr with h1 | h1
  ·exact h.r b hb h1
  ·have := hb.read.lt; omega
theorem View.turn {v v' u w w' : World} {es : Array Event} (hu : View u w) (ha : Apart2 v u) (k : Turn v v' w w' es) : View u w' :=
 hu.other k.size (fun b hb => k.keep b (Nat.lt_of_lt_of_le hb.lt hu.size) (fun hm => ha.l b hm hb)) k.same
theorem z2K {v : World} {n0 n1 : Nat} {e : Event} {x : Touch} {b : Nat} (he : EvOk v n0 n1 e) (hx : (MemAct.ofEvent e).touch? = some x) (hb : locB x.loc = some b) :
  b < n1 ∧ (n0 ≤ b ∨ ReadAt v b) ∧ (x.write = true → n0 ≤ b ∨ MineAt v b) := by
 obtain ⟨loc, wr, sy⟩ := e
 cases loc with
 | cell a =>
  have h1 : MemAct.ofEvent ⟨.cell a, wr, sy⟩ = .access ⟨.cell a, wr, sy⟩ := rfl
  rw [h1] at hx
  injection hx with hx; subst hx
  injection hb with hb; subst hb
  exact he
 | obj r =>
  have h1 : MemAct.ofEvent ⟨.obj r, wr, sy⟩ = .access ⟨.obj r, wr, sy⟩ ∨ MemAct.ofEvent ⟨.obj r, wr, sy⟩ = .close r := by
   cases wr <;> cases sy <;> first | exact .inl rfl | exact .inr rfl
  rcases h1 with h1 | h1
  ·rw [h1] at hx
   injection hx with hx; subst hx
   injection hb with hb; subst hb
   exact he
  ·rw [h1] at hx; cases hx
 | output => exact he.elim
 | goroutines => exact he.elim
 | mark m =>
  have h1 : MemAct.ofEvent ⟨.mark m, wr, sy⟩ = .mark m := rfl
  rw [h1] at hx
  cases m with
  | noRoom => cases hx
  | _ => exact he.elim
section
variable {t : Trace} {g : Nat} {v v' u w w' : World} {es : Array Event} {fn : FuncId} {pos : String}
theorem z6w {B i b : Nat} {a : Touch} (hl : ∀ op ∈ t, op.act.low B) (ht : touchAt t i = some a) (hb : locB a.loc = some b) : b < B := by
 obtain ⟨op, hop, hx⟩ := touch_of ht
 have := hl op (mem_of_getElem? hop)
 cases hact : op.act with
 | access e =>
  rw [hact] at this hx
  injection hx with hx; subst hx
  obtain ⟨loc, wr, sy⟩ := e
  cases loc with
  | cell a => injection hb with hb; subst hb; exact this
  | obj r => injection hb with hb; subst hb; exact this
  | _ => cases hb
 | mark m =>
  rw [hact] at this hx
  cases m with
  | read a => injection hx with hx; subst hx; injection hb with hb; subst hb; exact this
  | write a => injection hx with hx; subst hx; injection hb with hb; subst hb; exact this
  | _ => cases hx
 | _ => rw [hact] at hx; cases hx
theorem z4H {i : Nat} {a : Touch} (ht : touchAt (t ++ MemOp.ofEvents g fn pos es) i = some a) :
  touchAt t i = some a ∨ (Knows (t ++ MemOp.ofEvents g fn pos es) g i ∧ ∃ e ∈ es, (MemAct.ofEvent e).touch? = some a) := by
 obtain ⟨op, hop, hx⟩ := touch_of ht
 rcases getElem?_append_cases hop with ⟨hi, hop'⟩ | ⟨hi, hop'⟩
 ·left; rw [touchAt_of hop']; exact hx
 ·right
  obtain ⟨e, he, rfl⟩ := memOps hop'
  exact ⟨knows_own hop, e, he, hx⟩
theorem Kn.own (h : Kn t g v) (k : Turn v v' w w' es) (hl : ∀ op ∈ t, op.act.low w.heap.size) : Kn (t ++ MemOp.ofEvents g fn pos es) g v' := by
 refine ⟨fun i a b ht hb hm => ?_, fun i a b ht hb hm hw => ?_⟩
 ·rcases z4H ht with h1 | ⟨h1, _⟩
  ·rcases k.mine b hm with h2 | h2
   ·exact (h.mine i a b h1 hb h2).app _
   ·have := z6w hl h1 hb; omega
  ·exact h1
 ·rcases z4H ht with h1 | ⟨h1, _⟩
  ·rcases k.read b hm with h2 | h2
   ·exact (h.read i a b h1 hb h2 hw).app _
   ·have := z6w hl h1 hb; omega
  ·exact h1
theorem Kn.other {g' : Nat} (h : Kn t g' u) (ha : Apart2 v u) (k : Turn v v' w w' es) (hu : u.heap.size ≤ w.heap.size) : Kn (t ++ MemOp.ofEvents g fn pos es) g' u := by
 refine ⟨fun i a b ht hb hm => ?_, fun i a b ht hb hm hw => ?_⟩
 ·rcases z4H ht with h1 | ⟨_, e, he, hx⟩
  ·exact (h.mine i a b h1 hb hm).app _
  ·obtain ⟨_, h2, _⟩ := z2K (k.evs e he) hx hb
   rcases h2 with h2 | h2
   ·have := hm.read.lt; omega
   ·exact absurd h2 (ha.r b hm)
 ·rcases z4H ht with h1 | ⟨_, e, he, hx⟩
  ·exact (h.read i a b h1 hb hm hw).app _
  ·obtain ⟨_, _, h2⟩ := z2K (k.evs e he) hx hb
   rcases h2 hw with h2 | h2
   ·have := hm.lt; omega
   ·exact absurd hm (ha.l b h2)
theorem Kn.clean {said : Bool} (hn : ¬ Race said t) (h : Kn t g v) (k : Turn v v' w w' es) (hl : ∀ op ∈ t, op.act.low w.heap.size) : ¬ Race said (t ++ MemOp.ofEvents g fn pos es) := by
 refine noRace_append hn (fun op hop => by obtain ⟨e, _, rfl⟩ := memOps hop; rfl) fun i a ht op hop b hb hc => ?_
 obtain ⟨e, he, rfl⟩ := memOps hop
 obtain ⟨hloc, hmem, hwr, _⟩ := hc
 obtain ⟨bl, hbl⟩ := zdu hmem
 have hbl2 : locB b.loc = some bl := by rw [← hloc]; exact hbl
 obtain ⟨_, h1, h2⟩ := z2K (k.evs e he) hb hbl2
 have hlt := z6w hl ht hbl
 rcases hwr with hw | hw
 ·rcases h1 with h1 | h1
  ·omega
  ·exact h.read i a bl ht hbl h1 hw
 ·rcases h2 hw with h2 | h2
  ·omega
  ·exact h.mine i a bl ht hbl h2
theorem z9T (k : Turn v v' w w' es) (hv : View v w) (hl : ∀ op ∈ t, op.act.low w.heap.size) : ∀ op ∈ t ++ MemOp.ofEvents g fn pos es, op.act.low w'.heap.size := by
 intro op hop
 rcases Array.mem_append.1 hop with hop | hop
 ·exact MemAct.low_mono k.size (hl op hop)
 ·obtain ⟨e, he, rfl⟩ := memOps hop
  have := k.evs e he
  obtain ⟨loc, wr, sy⟩ := e
  cases loc with
  | cell a => exact this.1
  | obj r =>
   have h1 : MemAct.ofEvent ⟨.obj r, wr, sy⟩ = .access ⟨.obj r, wr, sy⟩ ∨ MemAct.ofEvent ⟨.obj r, wr, sy⟩ = .close r := by
    cases wr <;> cases sy <;> first | exact .inl rfl | exact .inr rfl
   rcases h1 with h1 | h1 <;> (rw [h1]; exact this.1)
  | output => exact this.elim
  | goroutines => exact this.elim
  | mark m => cases m <;> first | exact this.elim | trivial
end
end Go.Eng
namespace Go.Eng
open Go Go.RowKit
open Go.Conc
open Go.ConcN (RelBy fork_knows)
open Go.ConcR (stA)
structure Tr (Shun : Go.Loc → Prop) (Wg n0 j B : Nat) (rel : Nat → Option Nat) (t : Trace) : Prop where
 nr : ∀ said, ¬ Race said t
 seen : ∀ op ∈ t, op.act.low B
 gs : ∀ op ∈ t, op.g < n0 + j
 wgs : ∀ op ∈ t, ∀ x, op.act.touch? = some x → x.kind = .said → op.g = 0
 wgp : ∀ (i : Nat) (x : Touch), touchAt t i = some x → locB x.loc = some Wg → x.kind = .plain → Knows t 0 i ∧ ∀ k, n0 ≤ k → k < n0 + j → Knows t k i
 old : ∀ (i : Nat) (x : Touch) (g : Nat), touchAt t i = some x → x.loc.isMemory = true → t.g? i = some g → g < n0 → Knows t 0 i ∨ ((Shun x.loc ∨ locB x.loc = some Wg) ∧ x.kind = .atomic)
 over : ∀ i g, t.g? i = some g → g ≠ 0 → g < n0 → t.counts i → ∃ p, t.g? p = some 0 ∧ HappensBefore t i p
 wkr : ∀ k r, n0 ≤ k → rel k = some r → RelBy (stA Wg) t k r ∧ ∀ (i : Nat) (x : Touch), touchAt t i = some x → t.g? i = some k → r < i → locB x.loc = some Wg ∧ x.kind = .atomic
 norel : ∀ op ∈ t, ∀ a, op.act ≠ .mark (.release a)
section
variable {Shun : Go.Loc → Prop} {Wg n0 j B B' : Nat} {rel : Nat → Option Nat} {t u : Trace} {g : Nat}
theorem zcH {i : Nat} {k : Nat} (hg : ∀ op ∈ u, op.g = g) (h : (t ++ u).g? i = some k) : (i < t.size ∧ t.g? i = some k) ∨ (t.size ≤ i ∧ k = g ∧ ∃ op ∈ u, (t ++ u)[i]? = some op) := by
 obtain ⟨op, ho, hog⟩ := Option.map_eq_some_iff.1 h
 rcases getElem?_append_cases ho with ⟨hi, ho'⟩ | ⟨hi, hou⟩
 ·exact .inl ⟨hi, by simp [Trace.g?, ho', hog]⟩
 ·exact .inr ⟨hi, by rw [← hog]; exact hg op hou, op, hou, ho⟩
theorem z0T {i : Nat} {x : Touch} (h : touchAt (t ++ u) i = some x) : (i < t.size ∧ touchAt t i = some x) ∨ (t.size ≤ i ∧ ∃ op ∈ u, (t ++ u)[i]? = some op ∧ op.act.touch? = some x) := by
 obtain ⟨op, ho, hx⟩ := touch_of h
 rcases getElem?_append_cases ho with ⟨hi, ho'⟩ | ⟨hi, hou⟩
 ·exact .inl ⟨hi, by rw [touchAt_of ho']; exact hx⟩
 ·exact .inr ⟨hi, op, hou, ho, hx⟩
theorem Tr.grow (h : Tr Shun Wg n0 j B rel t) (hg : ∀ op ∈ u, op.g = g) (hgj : g < n0 + j) (hB : B ≤ B') (hl : ∀ op ∈ u, op.act.low B') (hr : ∀ op ∈ u, ∀ a, op.act ≠ .mark (.release a))
  (hnr : ∀ said, ¬ Race said (t ++ u)) (hw : ∀ op ∈ u, ∀ x, op.act.touch? = some x → locB x.loc = some Wg → x.kind ≠ .plain) (hsd : ∀ op ∈ u, ∀ x, op.act.touch? = some x → x.kind = .said → g = 0)
  (hq : g ≠ 0 → g < n0 → ∀ op ∈ u, op.act.touch? = none)
  (hrel : ∀ r, n0 ≤ g → rel g = some r → RelBy (stA Wg) (t ++ u) g r ∧ ∀ op ∈ u, ∀ x, op.act.touch? = some x → locB x.loc = some Wg ∧ x.kind = .atomic) :
  Tr Shun Wg n0 j B' rel (t ++ u) := by
 refine ⟨hnr, fun op hop => ?_, fun op hop => ?_, fun op hop x hx hk => ?_, fun i x hx hb hk => ?_, fun i x g' hx hm hg' hlt => ?_, fun i g' hg' h0 hlt hc => ?_, fun k r hk hrk => ?_, fun op hop a => ?_⟩
 ·rcases Array.mem_append.1 hop with hop | hop
  ·exact MemAct.low_mono hB (h.seen op hop)
  ·exact hl op hop
 ·rcases Array.mem_append.1 hop with hop | hop
  ·exact h.gs op hop
  ·rw [hg op hop]; exact hgj
 ·rcases Array.mem_append.1 hop with hop | hop
  ·exact h.wgs op hop x hx hk
  ·rw [hg op hop]; exact hsd op hop x hx hk
 ·rcases z0T hx with ⟨_, h1⟩ | ⟨_, op, hop, _, h1⟩
  ·obtain ⟨a, b⟩ := h.wgp i x h1 hb hk
   exact ⟨a.app u, fun k k1 k2 => (b k k1 k2).app u⟩
  ·exact absurd hk (hw op hop x h1 hb)
 ·rcases z0T hx with ⟨hi, h1⟩ | ⟨hi, op, hop, ho, h1⟩
  ·have hg2 : t.g? i = some g' := by
    rcases zcH hg hg' with ⟨_, h2⟩ | ⟨h2, _⟩
    ·exact h2
    ·omega
   exact (h.old i x g' h1 hm hg2 hlt).imp (·.app u) id
  ·have hgg : g' = g := by
    rcases zcH hg hg' with ⟨h2, _⟩ | ⟨_, h2, _⟩
    ·omega
    ·exact h2
   subst hgg
   by_cases h0 : g' = 0
   ·left
    have := knows_own ho
    rwa [hg op hop, h0] at this
   ·rw [hq h0 hlt op hop] at h1; cases h1
 ·rcases zcH hg hg' with ⟨hi, h1⟩ | ⟨hi, hgg, op, hop, ho⟩
  ·obtain ⟨p, hp, hb⟩ := h.over i g' h1 h0 hlt ((counts_old hi).1 hc)
   have hpl : p < t.size := by
    obtain ⟨z, hz, _⟩ := Option.map_eq_some_iff.1 hp
    exact lt_size_of_getElem? hz
   exact ⟨p, by simpa [Trace.g?, getElem?_append_old hpl] using hp, hb_app u hb⟩
  ·subst hgg
   obtain ⟨x, hx, _⟩ := hc
   have : op.act.touch? = some x := by
    have : touchAt (t ++ u) i = some x := hx
    rw [touchAt_of ho] at this; exact this
   rw [hq h0 hlt op hop] at this; cases this
 ·by_cases hkg : k = g
  ·subst hkg
   obtain ⟨a, b⟩ := hrel r hk hrk
   refine ⟨a, fun i x hx hgi hri => ?_⟩
   rcases z0T hx with ⟨hi, h1⟩ | ⟨_, op, hop, _, h1⟩
   ·refine (h.wkr k r hk hrk).2 i x h1 ?_ hri
    rcases zcH hg hgi with ⟨_, h2⟩ | ⟨h2, _⟩
    ·exact h2
    ·omega
   ·exact b op hop x h1
  ·obtain ⟨a, b⟩ := h.wkr k r hk hrk
   refine ⟨a.appOther hg (fun e => hkg e.symm), fun i x hx hgi hri => ?_⟩
   rcases zcH hg hgi with ⟨hi, h2⟩ | ⟨_, h2, _⟩
   ·rcases z0T hx with ⟨_, h1⟩ | ⟨h3, _⟩
    ·exact b i x h1 h2 hri
    ·omega
   ·exact absurd h2 hkg
 ·rcases Array.mem_append.1 hop with hop | hop
  ·exact h.norel op hop a
  ·exact hr op hop a
theorem Tr.book (h : Tr Shun Wg n0 j B rel t) (hg : ∀ op ∈ u, op.g = g) (h0 : g = 0 ∨ (n0 ≤ g ∧ g < n0 + j))
  (hw : ∀ op ∈ u, ∀ x, op.act.touch? = some x → locB x.loc = some Wg ∧ x.kind ≠ .plain ∧ (x.kind = .said → g = 0)) : ∀ said, ¬ Race said (t ++ u) := by
 intro said
 refine noRace_append (h.nr said) hg fun i a ha op hop b hb hc => ?_
 obtain ⟨hwb, hwk, hws⟩ := hw op hop b hb
 obtain ⟨hloc, hm, _, hkind⟩ := hc
 have hab : locB a.loc = some Wg := by rw [hloc]; exact hwb
 rcases hkind with e | e | ⟨_, e1, e2⟩
 ·obtain ⟨k1, k2⟩ := h.wgp i a ha hab e
  rcases h0 with rfl | ⟨h1, h2⟩
  ·exact k1
  ·exact k2 g h1 h2
 ·exact absurd e hwk
 ·obtain ⟨op', ho', hx'⟩ := touch_of ha
  have h3 := h.wgs op' (Array.mem_of_getElem? ho') a hx' e1
  have := knows_own ho'
  rw [h3] at this
  rw [hws e2]; exact this
theorem Tr.fork (h : Tr Shun Wg n0 j B rel t) {x y : MemOp} (hx : x.g = 0 ∧ x.act = .go (n0 + j)) (hy : y.g = n0 + j ∧ y.act = .start) (hn0 : 0 < n0) (hrel : rel (n0 + j) = none) (h0 : Deaf t 0 = 0) (hk : Deaf t (n0 + j) = 0) :
  Tr Shun Wg n0 (j + 1) B rel (t ++ #[x, y]) := by
 have hnt : ∀ op ∈ #[x, y], op.act.touch? = none := by
  intro op hop
  simp only [List.mem_toArray, List.mem_cons, List.not_mem_nil, or_false] at hop
  rcases hop with rfl | rfl
  ·rw [hx.2]; rfl
  ·rw [hy.2]; rfl
 have old : ∀ {i : Nat} {a : Touch}, touchAt (t ++ #[x, y]) i = some a → i < t.size ∧ touchAt t i = some a := by
  intro i a ha
  rcases z0T ha with h1 | ⟨_, op, hop, _, h1⟩
  ·exact h1
  ·rw [hnt op hop] at h1; cases h1
 have g1 : ∀ op ∈ #[x], op.g = 0 := by intro op hop; simp at hop; rw [hop]; exact hx.1
 have g2 : ∀ op ∈ #[y], op.g = n0 + j := by intro op hop; simp at hop; rw [hop]; exact hy.1
 have e : t ++ #[x, y] = (t ++ #[x]) ++ #[y] := by apply Array.ext'; simp
 refine ⟨fun said => ?_, fun op hop => ?_, fun op hop => ?_, fun op hop z hz hkd => ?_, fun i z hz hb hkd => ?_, fun i z g' hz hm hg' hlt => ?_, fun i g' hg' hne hlt hc => ?_, fun k r hkn hrk => ?_, fun op hop a => ?_⟩
 ·rw [e]
  exact noRace_append (g := n0 + j) (noRace_append (g := 0) (h.nr said) g1 (fun i a _ op hop b hb _ => by rw [hnt op (by simp at hop ⊢; exact .inl hop)] at hb; cases hb)) g2
   (fun i a _ op hop b hb _ => by rw [hnt op (by simp at hop ⊢; exact .inr hop)] at hb; cases hb)
 ·rcases Array.mem_append.1 hop with hop | hop
  ·exact h.seen op hop
  ·simp only [List.mem_toArray, List.mem_cons, List.not_mem_nil, or_false] at hop
   rcases hop with rfl | rfl
   ·rw [hx.2]; trivial
   ·rw [hy.2]; trivial
 ·rcases Array.mem_append.1 hop with hop | hop
  ·have := h.gs op hop; omega
  ·simp only [List.mem_toArray, List.mem_cons, List.not_mem_nil, or_false] at hop
   rcases hop with rfl | rfl
   ·rw [hx.1]; omega
   ·rw [hy.1]; omega
 ·rcases Array.mem_append.1 hop with hop | hop
  ·exact h.wgs op hop z hz hkd
  ·rw [hnt op hop] at hz; cases hz
 ·obtain ⟨_, h1⟩ := old hz
  obtain ⟨a, b⟩ := h.wgp i z h1 hb hkd
  refine ⟨a.app _, fun k k1 k2 => ?_⟩
  by_cases hkj : k = n0 + j
  ·subst hkj; exact fork_knows hx hy h0 hk a
  ·exact (b k k1 (by omega)).app _
 ·obtain ⟨hi, h1⟩ := old hz
  have hg2 : t.g? i = some g' := by
   obtain ⟨op, ho, hog⟩ := Option.map_eq_some_iff.1 hg'
   rw [getElem?_append_old hi] at ho
   simp [Trace.g?, ho, hog]
  exact (h.old i z g' h1 hm hg2 hlt).imp (·.app _) id
 ·obtain ⟨z, hz, _⟩ := id hc
  obtain ⟨hi, h1⟩ := old (show touchAt (t ++ #[x, y]) i = some z from hz)
  have hg2 : t.g? i = some g' := by
   obtain ⟨op, ho, hog⟩ := Option.map_eq_some_iff.1 hg'
   rw [getElem?_append_old hi] at ho
   simp [Trace.g?, ho, hog]
  obtain ⟨p, hp, hb⟩ := h.over i g' hg2 hne hlt ((counts_old hi).1 hc)
  have hpl : p < t.size := by
   obtain ⟨w, hw, _⟩ := Option.map_eq_some_iff.1 hp
   exact lt_size_of_getElem? hw
  exact ⟨p, by simpa [Trace.g?, getElem?_append_old hpl] using hp, hb_app _ hb⟩
 ·have hkj : k ≠ n0 + j := by rintro rfl; rw [hrel] at hrk; cases hrk
  obtain ⟨a, b⟩ := h.wkr k r hkn hrk
  refine ⟨?_, fun i z hz hgi hri => ?_⟩
  ·rw [e]
   exact (a.appOther g1 (by omega)).appOther g2 (fun h => hkj h.symm)
  ·obtain ⟨hi, h1⟩ := old hz
   refine b i z h1 ?_ hri
   obtain ⟨op, ho, hog⟩ := Option.map_eq_some_iff.1 hgi
   rw [getElem?_append_old hi] at ho
   simp [Trace.g?, ho, hog]
 ·rcases Array.mem_append.1 hop with hop | hop
  ·exact h.norel op hop a
  ·simp only [List.mem_toArray, List.mem_cons, List.not_mem_nil, or_false] at hop
   rcases hop with rfl | rfl
   ·rw [hx.2]; simp
   ·rw [hy.2]; simp
theorem Kn.fork {v : World} {x y : MemOp} {k : Nat} (hx : x.g = 0 ∧ x.act = .go k) (hy : y.g = k ∧ y.act = .start) (h0 : Deaf t 0 = 0) (hk : Deaf t k = 0)
  (hm : ∀ (i : Nat) (a : Touch) (b : Nat), touchAt t i = some a → locB a.loc = some b → MineAt v b → Knows t 0 i) (hr : ∀ (i : Nat) (a : Touch) (b : Nat), touchAt t i = some a → locB a.loc = some b → ReadAt v b → a.write = true → Knows t 0 i) :
  Kn (t ++ #[x, y]) k v := by
 have old : ∀ {i : Nat} {a : Touch}, touchAt (t ++ #[x, y]) i = some a → touchAt t i = some a := by
  intro i a ha
  rcases z0T ha with ⟨_, h1⟩ | ⟨_, op, hop, _, h1⟩
  ·exact h1
  ·simp only [List.mem_toArray, List.mem_cons, List.not_mem_nil, or_false] at hop
   rcases hop with rfl | rfl
   ·rw [hx.2] at h1; cases h1
   ·rw [hy.2] at h1; cases h1
 exact ⟨fun i a b ha hb hv => fork_knows hx hy h0 hk (hm i a b (old ha) hb hv), fun i a b ha hb hv hw => fork_knows hx hy h0 hk (hr i a b (old ha) hb hv hw)⟩
theorem Kn.quiet {v : World} {k : Nat} (h : Kn t k v) (hu : ∀ op ∈ u, ∀ x b, op.act.touch? = some x → locB x.loc = some b → ¬ ReadAt v b) : Kn (t ++ u) k v := by
 refine ⟨fun i a b ha hb hm => ?_, fun i a b ha hb hr hw => ?_⟩
 ·rcases z0T ha with ⟨_, h1⟩ | ⟨_, op, hop, _, h1⟩
  ·exact (h.mine i a b h1 hb hm).app u
  ·exact absurd hm.read (hu op hop a b h1 hb)
 ·rcases z0T ha with ⟨_, h1⟩ | ⟨_, op, hop, _, h1⟩
  ·exact (h.read i a b h1 hb hr hw).app u
  ·exact absurd hr (hu op hop a b h1 hb)
theorem Tr.release {k : Nat} {fn : FuncId} {pos : String} (h : Tr Shun Wg n0 j B rel t) (hW : Wg < B) (hk0 : n0 ≤ k) (hkj : k < n0 + j) (hn0 : 0 < n0) (hd : Deaf t k = 0) :
  Tr Shun Wg n0 j B (Go.ConcN.upd rel k (some t.size)) (t ++ MemOp.ofEvents k fn pos #[Go.ConcR.mk (.releaseMerge (stA Wg))]) := by
 have e1 : MemOp.ofEvents k fn pos #[Go.ConcR.mk (.releaseMerge (stA Wg))] = #[{ g := k, fn, pos, act := .mark (.releaseMerge (stA Wg)) }] := by rw [Go.Conc.ofEvents_eq]; simp [Go.ConcR.ofEvent_mk]
 have hmem : ∀ op ∈ MemOp.ofEvents k fn pos #[Go.ConcR.mk (.releaseMerge (stA Wg))], op = { g := k, fn, pos, act := .mark (.releaseMerge (stA Wg)) } := by rw [e1]; intro op hop; simpa using hop
 have hg : ∀ op ∈ MemOp.ofEvents k fn pos #[Go.ConcR.mk (.releaseMerge (stA Wg))], op.g = k := fun op hop => by rw [hmem op hop]
 have hnt : ∀ op ∈ MemOp.ofEvents k fn pos #[Go.ConcR.mk (.releaseMerge (stA Wg))], op.act.touch? = none := fun op hop => by rw [hmem op hop]; rfl
 have hrb := RelBy.new (a := stA Wg) hd fn pos
 let rel0 : Nat → Option Nat := Go.ConcN.upd rel k none
 have t0 : Tr Shun Wg n0 j B rel0 t := ⟨h.nr, h.seen, h.gs, h.wgs, h.wgp, h.old, h.over, fun k' r hk' hr => by
  by_cases e : k' = k
  ·subst e; simp [rel0, Go.ConcN.upd_same] at hr
  ·exact h.wkr k' r hk' (by simpa [rel0, Go.ConcN.upd_ne _ _ e] using hr), h.norel⟩
 have t1 := t0.grow (B' := B) (u := MemOp.ofEvents k fn pos #[Go.ConcR.mk (.releaseMerge (stA Wg))]) hg hkj (Nat.le_refl _) (fun op hop => by rw [hmem op hop]; exact hW) (fun op hop a => by rw [hmem op hop]; simp)
  (fun said => noRace_append (h.nr said) hg fun i a _ op hop b hb _ => by rw [hnt op hop] at hb; cases hb) (fun op hop x hx => by rw [hnt op hop] at hx; cases hx) (fun op hop x hx => by rw [hnt op hop] at hx; cases hx) (fun _ _ op hop => hnt op hop) (fun r _ hr => by simp [rel0, Go.ConcN.upd_same] at hr)
 refine ⟨t1.nr, t1.seen, t1.gs, t1.wgs, t1.wgp, t1.old, t1.over, fun k' r hk' hr => ?_, t1.norel⟩
 by_cases e : k' = k
 ·subst e
  rw [Go.ConcN.upd_same] at hr; injection hr with hr; subst hr
  refine ⟨hrb, fun i x hx _ hi => ?_⟩
  rcases z0T hx with ⟨h1, _⟩ | ⟨_, op, hop, _, h1⟩
  ·omega
  ·rw [hnt op hop] at h1; cases h1
 ·exact t1.wkr k' r hk' (by rw [Go.ConcN.upd_ne _ _ e] at hr; simpa [rel0, Go.ConcN.upd_ne _ _ e] using hr)
theorem Tr.done (h : Tr Shun Wg n0 j B rel t) (hn0 : 0 < n0) {q : Nat} (hq : t.act? q = some (.mark (.acquire (stA Wg)))) (hg : t.g? q = some 0) (hh : t.heard q) (all : ∀ k, n0 ≤ k → k < n0 + j → ∃ r, rel k = some r ∧ r < q) (h0 : Deaf t 0 = 0) :
  Past (fun l => Shun l ∨ locB l = some Wg) B t := by
 have gk : ∀ (i : Nat) (x : Touch), touchAt t i = some x → ∃ g, t.g? i = some g ∧ g < n0 + j := by
  intro i x hx
  obtain ⟨op, ho, _⟩ := touch_of hx
  exact ⟨op.g, by simp [Trace.g?, ho], h.gs op (Array.mem_of_getElem? ho)⟩
 have edge : ∀ k r, n0 ≤ k → rel k = some r → r < q → HappensBefore t r q := fun k r hk hr hrq => by
  have hr' := (h.wkr k r hk hr).1
  exact .single (.inr ⟨.marked hrq (.inr hr'.act) hq (fun p _ _ e => by
   obtain ⟨op, ho, hoa⟩ := Option.map_eq_some_iff.1 e
   exact h.norel op (Array.mem_of_getElem? ho) _ hoa), hr'.heard, hh⟩)
 have hq0 : ∃ z, t[q]? = some z ∧ z.g = 0 := by
  obtain ⟨z, hz, hz0⟩ := Option.map_eq_some_iff.1 hg
  exact ⟨z, hz, hz0⟩
 have chain : ∀ i k r, t.g? i = some k → n0 ≤ k → rel k = some r → r < q → i ≤ r → HappensBefore t i q := by
  intro i k r hgi hk hr hrq hir
  rcases Nat.lt_or_ge i r with hlt | hge
  ·exact .trans (.single (.inl ⟨hlt, k, hgi, (h.wkr k r hk hr).1.g⟩)) (edge k r hk hr hrq)
  ·obtain rfl : i = r := by omega
   exact edge k i hk hr hrq
 refine ⟨h.nr, fun i a ha hm => ?_, fun i g' hg' hne hc => ?_, h0, h.seen⟩
 ·obtain ⟨k, hk, hkj⟩ := gk i a ha
  rcases Nat.lt_or_ge k n0 with hlt | hge
  ·exact h.old i a k ha hm hk hlt
  ·obtain ⟨r, hr, hrq⟩ := all k hge hkj
   rcases Nat.lt_or_ge r i with hri | hir
   ·obtain ⟨e1, e2⟩ := (h.wkr k r hge hr).2 i a ha hk hri
    exact .inr ⟨.inr e1, e2⟩
   ·left
    obtain ⟨z, hz, hz0⟩ := hq0
    exact ⟨q, z, hz, hz0, .inr (chain i k r hk hge hr hrq hir)⟩
 ·obtain ⟨x, hx, hxm, hxk⟩ := id hc
  rcases Nat.lt_or_ge g' n0 with hlt | hge
  ·exact h.over i g' hg' hne hlt hc
  ·obtain ⟨k, hk, hkj⟩ := gk i x hx
   rw [hg'] at hk; injection hk with hk; subst hk
   obtain ⟨r, hr, hrq⟩ := all g' hge hkj
   have hle : i ≤ r := Nat.le_of_not_lt fun hlt => (h.wkr g' r hge hr).1.after i hlt hg' hc
   exact ⟨q, hg, chain i g' r hg' hge hr hrq hle⟩
end
end Go.Eng
namespace Go.Eng
open Go Go.RowKit
open Go.Conc
open Go.ConcR (stA)
structure Safe (u w w' : World) (es : Array Event) : Prop where
 size : w.heap.size ≤ w'.heap.size
 same : w'.os = w.os ∧ w'.tape = w.tape ∧ w'.output = w.output
 keep : ∀ b, ReadAt u b → w'.heap[b]? = w.heap[b]?
 ev : ∀ e ∈ es, ∀ (x : Touch) (b : Nat), (MemAct.ofEvent e).touch? = some x → locB x.loc = some b → ¬ MineAt u b ∧ (x.write = true → ¬ ReadAt u b)
structure SafeO (u w w' : World) (ops : Trace) : Prop where
 size : w.heap.size ≤ w'.heap.size
 same : w'.os = w.os ∧ w'.tape = w.tape ∧ w'.output = w.output
 keep : ∀ b, ReadAt u b → w'.heap[b]? = w.heap[b]?
 ev : ∀ op ∈ ops, ∀ (x : Touch) (b : Nat), op.act.touch? = some x → locB x.loc = some b → ¬ MineAt u b ∧ (x.write = true → ¬ ReadAt u b)
theorem Safe.ops {u w w' : World} {es : Array Event} {g : Nat} {fn : FuncId} {pos : String} (s : Safe u w w' es) : SafeO u w w' (MemOp.ofEvents g fn pos es) :=
 ⟨s.size, s.same, s.keep, fun op hop x b hx hb => by obtain ⟨e, he, rfl⟩ := memOps hop; exact s.ev e he x b hx hb⟩
structure Pl (Sb : Nat → Prop) (Wg : Nat) (w : World) (t : Trace) (g : Nat) (v : World) : Prop where
 view : View v w
 kn : Kn t g v
 sb : ∀ b, ReadAt v b → ¬ Sb b ∧ b ≠ Wg
section
variable {Sb : Nat → Prop} {Wg : Nat} {v v' u w w' : World} {t : Trace} {g g' : Nat} {es : Array Event} {fn : FuncId} {pos : String}
theorem Pl.at (h : Pl Sb Wg w t g v) (d : Nat) : Pl Sb Wg (w.at d) t g v := ⟨h.view.at d, h.kn, h.sb⟩
theorem Pl.other (h : Pl Sb Wg w t g u) (s : Safe u w w' es) : Pl Sb Wg w' (t ++ MemOp.ofEvents g' fn pos es) g u := by
 refine ⟨h.view.other s.size s.keep s.same, ⟨fun i a b ha hb hm => ?_, fun i a b ha hb hr hw => ?_⟩, h.sb⟩
 ·rcases z0T ha with ⟨_, h1⟩ | ⟨_, op, hop, _, h1⟩
  ·exact (h.kn.mine i a b h1 hb hm).app _
  ·obtain ⟨e, he, rfl⟩ := memOps hop
   exact absurd hm (s.ev e he a b h1 hb).1
 ·rcases z0T ha with ⟨_, h1⟩ | ⟨_, op, hop, _, h1⟩
  ·exact (h.kn.read i a b h1 hb hr hw).app _
  ·obtain ⟨e, he, rfl⟩ := memOps hop
   exact absurd hr ((s.ev e he a b h1 hb).2 hw)
theorem Pl.otherO {ops : Trace} (h : Pl Sb Wg w t g u) (s : SafeO u w w' ops) : Pl Sb Wg w' (t ++ ops) g u := by
 refine ⟨h.view.other s.size s.keep s.same, ⟨fun i a b ha hb hm => ?_, fun i a b ha hb hr hw => ?_⟩, h.sb⟩
 ·rcases z0T ha with ⟨_, h1⟩ | ⟨_, op, hop, _, h1⟩
  ·exact (h.kn.mine i a b h1 hb hm).app _
  ·exact absurd hm (s.ev op hop a b h1 hb).1
 ·rcases z0T ha with ⟨_, h1⟩ | ⟨_, op, hop, _, h1⟩
  ·exact (h.kn.read i a b h1 hb hr hw).app _
  ·exact absurd hr ((s.ev op hop a b h1 hb).2 hw)
theorem Pl.own (h : Pl Sb Wg w t g v) (k : Turn v v' w w' es) (hv : View v' w') (hl : ∀ op ∈ t, op.act.low w.heap.size) (hW : Wg < w.heap.size) (hS : ∀ b, Sb b → b < w.heap.size) :
  Pl Sb Wg w' (t ++ MemOp.ofEvents g fn pos es) g v' := by
 refine ⟨hv, h.kn.own k hl, fun b hb => ?_⟩
 rcases k.read b hb with h1 | h1
 ·exact h.sb b h1
 ·exact ⟨fun hs => by have := hS b hs; omega, by omega⟩
theorem Safe.z9U (ha : Apart2 v u) (k : Turn v v' w w' es) (hu : View u w) : Safe u w w' es := by
 refine ⟨k.size, k.same, fun b hb => k.keep b (Nat.lt_of_lt_of_le hb.lt hu.size) (fun hm => ha.l b hm hb), fun e he x b hx hb => ⟨fun hm => ?_, fun hw hr => ?_⟩⟩
 ·obtain ⟨_, h1, _⟩ := z2K (k.evs e he) hx hb
  rcases h1 with h1 | h1
  ·have := hm.read.lt; have := hu.size; omega
  ·exact ha.r b hm h1
 ·obtain ⟨_, _, h2⟩ := z2K (k.evs e he) hx hb
  rcases h2 hw with h2 | h2
  ·have := hr.lt; have := hu.size; omega
  ·exact ha.l b h2 hr
theorem Safe.z9V (ha : Aside Wg w w') (hu : ∀ b, ReadAt u b → b ≠ Wg) (hev : ∀ e ∈ es, ∀ x, (MemAct.ofEvent e).touch? = some x → locB x.loc = some Wg) : Safe u w w' es := by
 refine ⟨Nat.le_of_eq ha.size.symm, ⟨ha.os, ha.tape, ha.output⟩, fun b hb => ha.block b (hu b hb), fun e he x b hx hb => ?_⟩
 have h1 := hev e he x hx
 rw [hb] at h1; injection h1 with h1; subst h1
 exact ⟨fun hm => hu b hm.read rfl, fun _ hr => hu b hr rfl⟩
class Keep where
 kz : Nat → Option Obj
variable [Kp : Keep]
structure Settled (Sb : Nat → Prop) (Wg : Nat) (w : World) (b : Nat) (o : Obj) : Prop where
 at_ : w.heap[b]? = some o
 ne : b ≠ Wg
 nsb : ¬ Sb b
 nv : NotView o
 nk : Kp.kz b = none
theorem Settled.lt {b : Nat} {o : Obj} (h : Settled Sb Wg w b o) : b < w.heap.size := (Array.getElem?_eq_some_iff.1 h.at_).1
theorem Settled.turn {b : Nat} {o : Obj} (h : Settled Sb Wg w b o) (hm : ¬ MineAt v b) (k : Turn v v' w w' es) : Settled Sb Wg w' b o ∧ ¬ MineAt v' b := by
 refine ⟨⟨(k.keep b h.lt hm).trans h.at_, h.ne, h.nsb, h.nv, h.nk⟩, fun h1 => ?_⟩
 rcases k.mine b h1 with h2 | h2
 ·exact hm h2
 ·have := h.lt; omega
theorem Settled.book {b : Nat} {o : Obj} (h : Settled Sb Wg w b o) (ha : Aside Wg w w') : Settled Sb Wg w' b o := ⟨(ha.block b h.ne).trans h.at_, h.ne, h.nsb, h.nv, h.nk⟩
end
end Go.Eng
namespace Go.Eng
open Go Go.RowKit
open Go.Conc
open Go.ConcN (WgLive)
open Go.ConcR (stA smA rd wr mk KK WgAt)
open Go.Eng.Wg
abbrev RS (ty : TypeId) (Wg : Nat) (w w' : World) : Prop := WgLive ty Wg w → WgLive ty Wg w'
theorem RS.tr {ty : TypeId} {Wg : Nat} (a b c : World) (h : RS ty Wg a b) (k : RS ty Wg b c) : RS ty Wg a c := fun x => k (h x)
section
variable (P : Program) (ty : TypeId) (Wg : Nat)
def sent (v : World) (c cap sn rc : Nat) (buf : Array Value) (tm : Bool) (x : Value) : World := { v with heap := v.heap.setIfInBounds c (.chan cap (buf.push x) false (sn + 1) rc tm) }
def WkT (pr : Nat × Obj) : Tre → Sta → Prop
 | .leaf, s => (∀ w, WgLive ty Wg w → ToF P (RS ty Wg) (WR0 P (RS ty Wg) ty Wg) (G s.1 s.2.1) w) ∧ s.2.2.heap[pr.1]? = some pr.2 ∧ MineO pr.2
 | .node f, s =>
  (∃ fr' cs', (∀ W, stepG P false (G s.1 s.2.1) W = .go (G fr' cs') W) ∧ WkT pr (f (0, 0) (fr', cs', s.2.2)) (fr', cs', s.2.2)) ∨
  (∀ p, ∃ fr' cs' w', Goer P false s.1 s.2.1 (padW s.2.2 p) fr' cs' w' ∧ WkT pr (f p (fr', cs', w')) (fr', cs', w')) ∨
  (∃ c cap buf sn rc tm x z, (∀ W, stepG P false (G s.1 s.2.1) W = .comm (G s.1 s.2.1) #[scase c x z] true .send W #[]) ∧ s.2.2.heap[c]? = some (.chan cap buf false sn rc tm) ∧ buf.size < cap ∧
   WkT pr (f (0, 0) (s.1.finish undef, s.2.1, sent s.2.2 c cap sn rc buf tm x)) (s.1.finish undef, s.2.1, sent s.2.2 c cap sn rc buf tm x))
structure Split (v v' u : World) : Prop where
 vw : ∀ w, View v w → View v' w ∧ View u w
 mine : ∀ b, MineAt v' b → MineAt v b
 read : ∀ b, ReadAt v' b → ReadAt v b
 minec : ∀ b, MineAt u b → MineAt v b
 readc : ∀ b, ReadAt u b → ReadAt v b
 apart : Apart2 v' u
structure Back (Fz : Nat → Option Obj) (prs : List (Nat × Obj)) (v v'' : World) : Prop where
 size : v.heap.size ≤ v''.heap.size
 alike : ∀ (b : Nat) (o : Obj), v''.heap[b]? = some o → o = junk ∨ v.heap[b]? = some o ∨ Fz b = some o ∨ (b, o) ∈ prs
 full : ∀ (b : Nat) (o : Obj), Fz b = some o ∨ (b, o) ∈ prs → v''.heap[b]? = some o
 rest : ∀ b o, v.heap[b]? = some o → (∀ o', ¬ (Fz b = some o' ∨ (b, o') ∈ prs)) → v''.heap[b]? = some o
 os : v''.os = v.os
 tape : v''.tape = v.tape
 output : v''.output = v.output
 views : NoViews v → (∀ b o, Fz b = some o ∨ (b, o) ∈ prs → NotView o) → NoViews v''
def AddAt (fr : Frame) (cs : List Frame) (fr' : Frame) : Prop :=
 ∀ w, WgLive ty Wg w → To P (RS ty Wg) (SKd P (RS ty Wg) (SA1 P (RS ty Wg) ty Wg fun v => match v with
  | 0 => SRd P (RS ty Wg) Wg (SKe P (RS ty Wg) fun g _ => g = G fr' cs)
  | _ + 1 => SKe P (RS ty Wg) fun g _ => g = G fr' cs)) (G fr cs) w
def EndAt (cs : List Frame) (fr' : Frame) : Goroutine → World → Prop := SKe P (RS ty Wg) (SAcq P (RS ty Wg) Wg fun g _ => g = G fr' cs)
def WaitAt (fr : Frame) (cs : List Frame) (fr' : Frame) : Prop :=
 ∃ Anch : Goroutine → World → Prop, (∀ g w, Anch g w → g.status = .running) ∧ (∀ w, WgLive ty Wg w → To P (RS ty Wg) (SKd P (RS ty Wg) Anch) (G fr cs) w) ∧
  ∀ g w, Anch g w → To P (RS ty Wg) (SW1 P (RS ty Wg) ty Wg (EndAt P ty Wg cs fr') fun v => SW2 P (RS ty Wg) ty Wg Anch v (SRd P (RS ty Wg) Wg (SW3 P (RS ty Wg) ty Wg (SW4 P (RS ty Wg) ty Wg (EndAt P ty Wg cs fr'))))) g w
def PhT (Fz : Nat → Option Obj) (Post : Sta → Prop) : Tre → Bool → List (Nat × Obj) → Sta → Prop
 | .leaf, _, _, _ => False
 | .node f, pend, prs, s =>
  (∃ fr' cs', (∀ W, stepG P true (G s.1 s.2.1) W = .go (G fr' cs') W) ∧ PhT Fz Post (f (0, 0) (fr', cs', s.2.2)) pend prs (fr', cs', s.2.2)) ∨
  (∀ p, ∃ fr' cs' w', Goer P true s.1 s.2.1 (padW s.2.2 p) fr' cs' w' ∧ PhT Fz Post (f p (fr', cs', w')) pend prs (fr', cs', w')) ∨
  (pend = false ∧ ∃ fr', AddAt P ty Wg s.1 s.2.1 fr' ∧ PhT Fz Post (f (0, 0) (fr', s.2.1, s.2.2)) true prs (fr', s.2.1, s.2.2)) ∨
  (pend = true ∧ prs.length < 1000000 ∧ ∃ fr' cfr ccs v' u τ pr, (∀ W, stepG P true (G s.1 s.2.1) W = .spawn (G fr' s.2.1) (G cfr ccs) W #[]) ∧ WkT P ty Wg pr τ (cfr, ccs, u) ∧ Split s.2.2 v' u ∧ PhT Fz Post (f (0, 0) (fr', s.2.1, v')) false (prs ++ [pr]) (fr', s.2.1, v')) ∨
  (pend = false ∧ ∃ fr', WaitAt P ty Wg s.1 s.2.1 fr' ∧ (∃ v'', Back Fz prs s.2.2 v'') ∧ ∀ v'', Back Fz prs s.2.2 v'' → Post (fr', s.2.1, v''))
end
section
variable {P : Program} {main : Bool} {fr fr' : Frame} {cs cs' : List Frame} {v v' w : World}
theorem z6x (hg : Goer P main fr cs (padW v (fill v w)) fr' cs' v') (hv : View v w) : ∃ w' es, stepG P main (G fr cs) w = .go (G fr' cs') w' es ∧ View v' w' ∧ Turn v v' w w' es := by
 obtain ⟨w', es, h1, h2, h3, h4, h5, h6, h7⟩ := hg (z5i hv.views _) w hv.rel
 have hsz : (padW v (fill v w)).heap.size = w.heap.size := hv.rel.size.symm
 refine ⟨w', es, h1, ⟨by rw [h2.size]; exact Nat.le_refl _, h2.alike, h2.os, h2.tape, h2.output, h3⟩, ?_, h5, ?_, ?_, ?_, ?_⟩
 ·rw [h2.size, ← hsz]; exact h4
 ·intro b hb hm
  exact (h6 b (by rw [hsz]; exact hb) (fun hx => hm (z3B.1 hx))).2
 ·intro b hb
  by_cases hlt : b < w.heap.size
  ·left
   by_cases hm : MineAt (padW v (fill v w)) b
   ·exact z3B.1 hm
   ·obtain ⟨o, ho, hmo⟩ := hb
    rw [(h6 b (by rw [hsz]; exact hlt) hm).1] at ho
    exact absurd ⟨o, ho, hmo⟩ hm
  ·exact .inr (by omega)
 ·intro b hb
  by_cases hlt : b < w.heap.size
  ·left
   by_cases hm : MineAt (padW v (fill v w)) b
   ·exact (z3B.1 hm).read
   ·obtain ⟨o, ho, hro⟩ := hb
    rw [(h6 b (by rw [hsz]; exact hlt) hm).1] at ho
    exact z6v.1 ⟨o, ho, hro⟩
  ·exact .inr (by omega)
 ·intro e he
  have := h7 e he
  rw [hsz] at this
  unfold EvOk EvAt at this ⊢
  rw [h2.size]
  split at this <;> simp_all [z3B, z6v]
end
end Go.Eng
namespace Go.Eng
open Go Go.RowKit
open Go.Conc
open Go.ConcN (WgLive WD CTag Mode)
open Go.ConcR (stA smA rd wr mk KK WgAt DC0)
open Go.Eng.Wg
def chain : Nat → Tre
 | 0 => .leaf
 | n + 1 => .node fun _ _ => chain n
def TLt (a b : Tre) : Prop := ∃ f p s, b = .node f ∧ a = f p s
theorem z5H (n : Nat) : TLt (chain n) (chain (n + 1)) := ⟨fun _ _ => chain n, (0, 0), (default, [], default), rfl, rfl⟩
section
variable (P : Program) (ty : TypeId) (Wg : Nat)
inductive WState (pr : Nat × Obj) : Nat → Nat → Nat → Tre → World → Goroutine → World → Prop
 | play {τ : Tre} {fr : Frame} {cs : List Frame} {u w : World} : WkT P ty Wg pr τ (fr, cs, u) → WState pr 7 0 1 τ u (G fr cs) w
 | r0 {m : Nat} {u w : World} {g : Goroutine} : Goes P false (RS ty Wg) DC0 (WR0 P (RS ty Wg) ty Wg) m g w → u.heap[pr.1]? = some pr.2 → MineO pr.2 → WState pr 7 0 0 (chain m) u g w
 | k1 {m : Nat} {u w : World} {g : Goroutine} : Goes P false (RS ty Wg) DC0 (WK1 P (RS ty Wg) ty Wg) m g w → WState pr 6 0 0 (chain m) u g w
 | d1 {m : Nat} {u w : World} {g : Goroutine} : Goes P false (RS ty Wg) DC0 (WD1 P (RS ty Wg) ty Wg) m g w → WState pr 5 1 0 (chain m) u g w
 | d2 {m : Nat} {u w : World} {g : Goroutine} : Goes P false (RS ty Wg) DC0 (WD2 P (RS ty Wg) ty Wg) m g w → WState pr 4 1 0 (chain m) u g w
 | d3 {m : Nat} {u w : World} {g : Goroutine} : Goes P false (RS ty Wg) DC0 (WD3 P (RS ty Wg) ty Wg) m g w → WState pr 3 1 0 (chain m) u g w
 | d4 {m : Nat} {u w : World} {g : Goroutine} : Goes P false (RS ty Wg) DC0 (WD4 P ty Wg) m g w → WState pr 2 1 0 (chain m) u g w
 | quit {m d : Nat} {u w : World} {g : Goroutine} : QuitsD P m d g → WState pr 1 d 0 (chain m) u g w
structure WArgs (Fz : Nat → Option Obj) (Post : Sta → Prop) (prs : List (Nat × Obj)) (v : World) (Anch : Goroutine → World → Prop) (cs : List Frame) (fr' : Frame) : Prop where
 run : ∀ g w, Anch g w → g.status = .running
 round : ∀ g w, Anch g w → To P (RS ty Wg) (SW1 P (RS ty Wg) ty Wg (EndAt P ty Wg cs fr') fun v => SW2 P (RS ty Wg) ty Wg Anch v (SRd P (RS ty Wg) Wg (SW3 P (RS ty Wg) ty Wg (SW4 P (RS ty Wg) ty Wg (EndAt P ty Wg cs fr'))))) g w
 back : ∀ v'', Back Fz prs v v'' → Post (fr', cs, v'')
inductive CState (Fz : Nat → Option Obj) (Post : Sta → Prop) (prs : List (Nat × Obj)) : CTag → Nat → Nat → Tre → Nat → World → Goroutine → World → Prop
 | play0 {τ : Tre} {fr : Frame} {cs : List Frame} {v w : World} : PhT P ty Wg Fz Post τ false prs (fr, cs, v) → CState Fz Post prs (.sp 0 5) 0 0 τ 0 v (G fr cs) w
 | play1 {τ : Tre} {fr : Frame} {cs : List Frame} {v w : World} : PhT P ty Wg Fz Post τ true prs (fr, cs, v) → CState Fz Post prs (.sp 0 2) 0 0 τ 0 v (G fr cs) w
 | skd {τ : Tre} {fr' : Frame} {cs : List Frame} {v w : World} {g : Goroutine} {m : Nat} : PhT P ty Wg Fz Post τ true prs (fr', cs, v) →
   Goes P true (RS ty Wg) DC0 (SKd P (RS ty Wg) (SA1 P (RS ty Wg) ty Wg fun v => match v with
    | 0 => SRd P (RS ty Wg) Wg (SKe P (RS ty Wg) fun g _ => g = G fr' cs)
    | _ + 1 => SKe P (RS ty Wg) fun g _ => g = G fr' cs)) m g w → CState Fz Post prs (.sp 4 5) 0 0 τ m v g w
 | sa1 {τ : Tre} {fr' : Frame} {cs : List Frame} {v w : World} {g : Goroutine} {m : Nat} : PhT P ty Wg Fz Post τ true prs (fr', cs, v) →
   Goes P true (RS ty Wg) DC0 (SA1 P (RS ty Wg) ty Wg fun v => match v with
    | 0 => SRd P (RS ty Wg) Wg (SKe P (RS ty Wg) fun g _ => g = G fr' cs)
    | _ + 1 => SKe P (RS ty Wg) fun g _ => g = G fr' cs) m g w → CState Fz Post prs (.sp 3 4) 1 0 τ m v g w
 | srd {τ : Tre} {fr' : Frame} {cs : List Frame} {v w : World} {g : Goroutine} {m : Nat} : PhT P ty Wg Fz Post τ true prs (fr', cs, v) →
   Goes P true (RS ty Wg) DC0 (SRd P (RS ty Wg) Wg (SKe P (RS ty Wg) fun g _ => g = G fr' cs)) m g w → CState Fz Post prs (.sp 2 3) 1 0 τ m v g w
 | ske {τ : Tre} {fr' : Frame} {cs : List Frame} {v w : World} {g : Goroutine} {m : Nat} : PhT P ty Wg Fz Post τ true prs (fr', cs, v) →
   Goes P true (RS ty Wg) DC0 (SKe P (RS ty Wg) fun g _ => g = G fr' cs) m g w → CState Fz Post prs (.sp 1 3) 1 0 τ m v g w
 | sfin {τ : Tre} {fr' : Frame} {cs : List Frame} {v w : World} {g : Goroutine} {m : Nat} : PhT P ty Wg Fz Post τ true prs (fr', cs, v) →
   Goes P true (RS ty Wg) DC0 (fun g _ => g = G fr' cs) m g w → g.status = .running → CState Fz Post prs (.sp 1 2) 0 0 τ m v g w
 | kd {τ : Tre} {Anch : Goroutine → World → Prop} {fr' : Frame} {cs : List Frame} {v w : World} {g : Goroutine} {m : Nat} : WArgs P ty Wg Fz Post prs v Anch cs fr' →
   Goes P true (RS ty Wg) DC0 (SKd P (RS ty Wg) Anch) m g w → CState Fz Post prs .kd 0 0 τ m v g w
 | anch {τ : Tre} {Anch : Goroutine → World → Prop} {fr' : Frame} {cs : List Frame} {v w : World} {g : Goroutine} {m : Nat} : WArgs P ty Wg Fz Post prs v Anch cs fr' →
   Goes P true (RS ty Wg) DC0 Anch m g w → CState Fz Post prs .anch 1 0 τ m v g w
 | w1 {τ : Tre} {Anch : Goroutine → World → Prop} {fr' : Frame} {cs : List Frame} {v w : World} {g : Goroutine} {m : Nat} : WArgs P ty Wg Fz Post prs v Anch cs fr' →
   Goes P true (RS ty Wg) DC0 (SW1 P (RS ty Wg) ty Wg (EndAt P ty Wg cs fr') fun v => SW2 P (RS ty Wg) ty Wg Anch v (SRd P (RS ty Wg) Wg (SW3 P (RS ty Wg) ty Wg (SW4 P (RS ty Wg) ty Wg (EndAt P ty Wg cs fr'))))) m g w →
   CState Fz Post prs .w1 1 0 τ m v g w
 | w2 {vs : Nat} {τ : Tre} {Anch : Goroutine → World → Prop} {fr' : Frame} {cs : List Frame} {v w : World} {g : Goroutine} {m : Nat} : WArgs P ty Wg Fz Post prs v Anch cs fr' →
   Goes P true (RS ty Wg) DC0 (SW2 P (RS ty Wg) ty Wg Anch vs (SRd P (RS ty Wg) Wg (SW3 P (RS ty Wg) ty Wg (SW4 P (RS ty Wg) ty Wg (EndAt P ty Wg cs fr'))))) m g w →
   CState Fz Post prs (.w2 vs) 1 0 τ m v g w
 | w2r {τ : Tre} {Anch : Goroutine → World → Prop} {fr' : Frame} {cs : List Frame} {v w : World} {g : Goroutine} {m : Nat} : WArgs P ty Wg Fz Post prs v Anch cs fr' →
   Goes P true (RS ty Wg) DC0 (SRd P (RS ty Wg) Wg (SW3 P (RS ty Wg) ty Wg (SW4 P (RS ty Wg) ty Wg (EndAt P ty Wg cs fr')))) m g w → CState Fz Post prs .w3 1 1 τ m v g w
 | w3 {τ : Tre} {Anch : Goroutine → World → Prop} {fr' : Frame} {cs : List Frame} {v w : World} {g : Goroutine} {m : Nat} : WArgs P ty Wg Fz Post prs v Anch cs fr' →
   Goes P true (RS ty Wg) DC0 (SW3 P (RS ty Wg) ty Wg (SW4 P (RS ty Wg) ty Wg (EndAt P ty Wg cs fr'))) m g w → CState Fz Post prs .w3 1 0 τ (m + 1) v g w
 | blk {τ : Tre} {Anch : Goroutine → World → Prop} {fr' : Frame} {cs : List Frame} {v w : World} {g : Goroutine} : WArgs P ty Wg Fz Post prs v Anch cs fr' →
   (∀ w₁, RS ty Wg w w₁ → SW3 P (RS ty Wg) ty Wg (SW4 P (RS ty Wg) ty Wg (EndAt P ty Wg cs fr')) g w₁) → CState Fz Post prs .blk 1 0 τ 0 v { g with status := .blocked } w
 | w4 {τ : Tre} {Anch : Goroutine → World → Prop} {fr' : Frame} {cs : List Frame} {v w : World} {g : Goroutine} {m : Nat} : WArgs P ty Wg Fz Post prs v Anch cs fr' →
   Goes P true (RS ty Wg) DC0 (SW4 P (RS ty Wg) ty Wg (EndAt P ty Wg cs fr')) m g w → CState Fz Post prs .w4 1 0 τ m v g w
 | ke {τ : Tre} {Anch : Goroutine → World → Prop} {fr' : Frame} {cs : List Frame} {v w : World} {g : Goroutine} {m : Nat} : WArgs P ty Wg Fz Post prs v Anch cs fr' →
   Goes P true (RS ty Wg) DC0 (EndAt P ty Wg cs fr') m g w → CState Fz Post prs .ke 1 0 τ m v g w
 | acq {τ : Tre} {Anch : Goroutine → World → Prop} {fr' : Frame} {cs : List Frame} {v w : World} {g : Goroutine} {m : Nat} : WArgs P ty Wg Fz Post prs v Anch cs fr' →
   Goes P true (RS ty Wg) DC0 (SAcq P (RS ty Wg) Wg fun g _ => g = G fr' cs) m g w → CState Fz Post prs .acq 0 0 τ m v g w
 | ret {τ : Tre} {Anch : Goroutine → World → Prop} {fr' : Frame} {cs : List Frame} {v w : World} {g : Goroutine} {m : Nat} : WArgs P ty Wg Fz Post prs v Anch cs fr' →
   Goes P true (RS ty Wg) DC0 (fun g _ => g = G fr' cs) m g w → g.status = .running → CState Fz Post prs .ret 0 0 τ m v g w
end
section
variable {P : Program} {ty : TypeId} {Wg : Nat} {Fz : Nat → Option Obj} {Post : Sta → Prop} {prs : List (Nat × Obj)} {pr : Nat × Obj}
 {s d pl bit f0 : Nat} {τ : Tre} {u v w w' : World} {g g' a : Goroutine} {tag : CTag}
theorem WState.rely (h : WState P ty Wg pr s d pl τ u g w) (hr : RS ty Wg w w') : WState P ty Wg pr s d pl τ u g w' := by
 cases h with
 | play h => exact .play h
 | r0 h h1 h2 => exact .r0 (Goes.rely RS.tr h hr) h1 h2
 | k1 h => exact .k1 (Goes.rely RS.tr h hr)
 | d1 h => exact .d1 (Goes.rely RS.tr h hr)
 | d2 h => exact .d2 (Goes.rely RS.tr h hr)
 | d3 h => exact .d3 (Goes.rely RS.tr h hr)
 | d4 h => exact .d4 (Goes.rely RS.tr h hr)
 | quit h => exact .quit h
theorem RS.refl (w : World) : RS ty Wg w w := id
theorem z0s {Next : Goroutine → World → Prop} {main : Bool} {m : Nat} (hn : ∀ g w, Next g w → g.status = .running) (h : Goes P main (RS ty Wg) DC0 Next m g w) : g.status = .running := Goes.running hn w id h
theorem WState.status (h : WState P ty Wg pr s d pl τ u g w) : g.status = .running ∨ g.status = .finished := by
 cases h with
 | play h => exact .inl rfl
 | r0 h => exact .inl (z0s (fun _ _ x => x.1) h)
 | k1 h => exact .inl (z0s (fun _ _ x => x.1) h)
 | d1 h => exact .inl (z0s (fun _ _ x => x.1) h)
 | d2 h => exact .inl (z0s (fun _ _ x => x.1) h)
 | d3 h => exact .inl (z0s (fun _ _ x => x.1) h)
 | d4 h => exact .inl (z0s (fun _ _ x => x.1) h)
 | quit h => exact h.status
theorem WState.runs (h : WState P ty Wg pr s d pl τ u g w) (hs : s ≠ 1) : g.status = .running := by
 cases h with
 | play h => exact rfl
 | r0 h => exact z0s (fun _ _ x => x.1) h
 | k1 h => exact z0s (fun _ _ x => x.1) h
 | d1 h => exact z0s (fun _ _ x => x.1) h
 | d2 h => exact z0s (fun _ _ x => x.1) h
 | d3 h => exact z0s (fun _ _ x => x.1) h
 | d4 h => exact z0s (fun _ _ x => x.1) h
 | quit h => exact absurd rfl hs
theorem WState.woken (h : WState P ty Wg pr s d pl τ u g w) (b b' : Goroutine) (w' : World) : Go.Conc.woken P b b' w' g = g := by
 unfold Go.Conc.woken
 split
 ·exact again_running _ h.status
 ·rfl
theorem WState.stage (h : WState P ty Wg pr s d pl τ u g w) : 1 ≤ s ∧ s ≤ 7 ∧ pl ≤ 1 := by cases h <;> simp
theorem CState.rely (h : CState P ty Wg Fz Post prs tag d bit τ f0 v g w) (hr : RS ty Wg w w') : CState P ty Wg Fz Post prs tag d bit τ f0 v g w' := by
 cases h with
 | play0 h => exact .play0 h
 | play1 h => exact .play1 h
 | skd p h => exact .skd p (Goes.rely RS.tr h hr)
 | sa1 p h => exact .sa1 p (Goes.rely RS.tr h hr)
 | srd p h => exact .srd p (Goes.rely RS.tr h hr)
 | ske p h => exact .ske p (Goes.rely RS.tr h hr)
 | sfin p h hs => exact .sfin p (Goes.rely RS.tr h hr) hs
 | kd p h => exact .kd p (Goes.rely RS.tr h hr)
 | anch p h => exact .anch p (Goes.rely RS.tr h hr)
 | w1 p h => exact .w1 p (Goes.rely RS.tr h hr)
 | w2 p h => exact .w2 p (Goes.rely RS.tr h hr)
 | w2r p h => exact .w2r p (Goes.rely RS.tr h hr)
 | w3 p h => exact .w3 p (Goes.rely RS.tr h hr)
 | blk p h => exact .blk p fun w₁ h₁ => h w₁ (RS.tr _ _ _ hr h₁)
 | w4 p h => exact .w4 p (Goes.rely RS.tr h hr)
 | ke p h => exact .ke p (Goes.rely RS.tr h hr)
 | acq p h => exact .acq p (Goes.rely RS.tr h hr)
 | ret p h hs => exact .ret p (Goes.rely RS.tr h hr) hs
theorem CState.status (h : CState P ty Wg Fz Post prs tag d bit τ f0 v g w) : (g.status = .running ∧ tag ≠ .blk) ∨ (g.status = .blocked ∧ tag = .blk) := by
 cases h with
 | play0 h => exact .inl ⟨rfl, by simp⟩
 | play1 h => exact .inl ⟨rfl, by simp⟩
 | skd p h => exact .inl ⟨z0s (fun _ _ x => x.1) h, by simp⟩
 | sa1 p h => exact .inl ⟨z0s (fun _ _ x => x.1) h, by simp⟩
 | srd p h => exact .inl ⟨z0s (fun _ _ x => x.1) h, by simp⟩
 | ske p h => exact .inl ⟨z0s (fun _ _ x => x.1) h, by simp⟩
 | sfin p h hs => exact .inl ⟨hs, by simp⟩
 | kd p h => exact .inl ⟨z0s (fun _ _ x => x.1) h, by simp⟩
 | anch p h => exact .inl ⟨z0s p.run h, by simp⟩
 | w1 p h => exact .inl ⟨z0s (fun _ _ x => x.1) h, by simp⟩
 | w2 p h => exact .inl ⟨z0s (fun _ _ x => x.1) h, by simp⟩
 | w2r p h => exact .inl ⟨z0s (fun _ _ x => x.1) h, by simp⟩
 | w3 p h => exact .inl ⟨z0s (fun _ _ x => x.1) h, by simp⟩
 | blk p h => exact .inr ⟨rfl, rfl⟩
 | w4 p h => exact .inl ⟨z0s (fun _ _ x => x.1) h, by simp⟩
 | ke p h => exact .inl ⟨z0s (fun _ _ x => x.1) h, by simp⟩
 | acq p h => exact .inl ⟨z0s (fun _ _ x => x.1) h, by simp⟩
 | ret p h hs => exact .inl ⟨hs, by simp⟩
theorem CState.woken (h : CState P ty Wg Fz Post prs tag d bit τ f0 v a w) (hr : RS ty Wg w w') (b b' : Goroutine) :
  ∃ tag' f', CState P ty Wg Fz Post prs tag' d bit τ f' v (Go.Conc.woken P b b' w' a) w' ∧ (tag' = tag ∨ (tag = .blk ∧ tag' = .w3)) ∧ (mayWake P b = true → b'.status = .running → tag' ≠ .blk) := by
 have h' := h.rely hr
 unfold Go.Conc.woken
 split
 ·rcases h'.status with ⟨hs, hne⟩ | ⟨_, rfl⟩
  ·exact ⟨tag, f0, by rw [again_running _ (.inl hs)]; exact h', .inl rfl, fun _ _ => hne⟩
  ·cases h' with
   | blk p hb =>
    rename_i g0
    have h3 := hb w' id
    exact ⟨.w3, 0 + 1, by rw [Go.ConcR.again_blocked h3.1 h3.2.1]; exact .w3 p (Goes.stop hb), .inr ⟨rfl, rfl⟩, fun _ _ => by simp⟩
 ·rename_i hc
  exact ⟨tag, f0, h', .inl rfl, fun h1 h2 => absurd (by simp [h1, h2]) hc⟩
end
end Go.Eng
