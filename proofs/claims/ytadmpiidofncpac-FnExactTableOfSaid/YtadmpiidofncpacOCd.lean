/- Part of the evaluator, in company. -/
import Derived.Test.YtadmpiidofncpacOCc
set_option linter.unusedSectionVars false
set_option linter.unusedSimpArgs false
set_option linter.unusedVariables false
namespace Go.Eng
open Go Go.RowKit
section
variable {α β : Type} {P : Program} {w : World}
theorem zP (a : Addr) (m : Mode) : Plain P (load a m) := fun w _ _ _ v _ => trivial
theorem zL (a : Addr) (v : Value) (m : Mode) : Plain P (store a v m) := fun w _ _ _ _ _ _ => trivial
theorem zM (o : Obj) (h : NotView o) : Plain P (newObj o) := fun w _ _ _ => ⟨h, trivial⟩
theorem zu (r : Nat) : Plain P (getObj r) := fun w _ _ _ o _ _ => trivial
theorem zt (r : Nat) (o : Obj) (h : NotView o) : Plain P (setObj r o) := fun w _ _ _ => ⟨h, fun _ => trivial⟩
theorem zm (q : Question) : Plain P (choose q) := fun w _ _ _ => by
 show Fine P (Sem.choose q Sem.pure) w
 simp only [Fine]; split <;> trivial
theorem zl : Plain P program := fun w _ _ _ => trivial
theorem zH : Plain P (mark .noRoom) := fun w _ _ _ => ⟨rfl, trivial⟩
theorem zg (t : TypeId) : Plain P (typeInfo t) := by
 unfold typeInfo
 repeat' (first
  | exact zb _ | exact zA _ | exact zk _ | exact zo _ | exact zB _ | exact zF _
  | exact zP _ _
  | exact zL _ _ _
  | exact zM _ trivial
  | exact zu _
  | exact zt _ _ trivial
  | exact zm _
  | exact zl
  | exact zH
  | with_reducible refine Plain.bind ?_ (fun _ => ?_)
  | with_reducible refine Plain.map ?_
  | dsimp only
  | split
  | intro _)
theorem za (t : TypeId) : Plain P (underlying t) := by
 unfold underlying
 repeat' (first
  | exact zb _ | exact zA _ | exact zk _ | exact zo _ | exact zB _ | exact zF _
  | exact zP _ _
  | exact zL _ _ _
  | exact zM _ trivial
  | exact zu _
  | exact zt _ _ trivial
  | exact zm _
  | exact zl
  | exact zH
  | exact zg _
  | with_reducible refine Plain.bind ?_ (fun _ => ?_)
  | with_reducible refine Plain.map ?_
  | dsimp only
  | split
  | intro _)
theorem zn (t : TypeId) : Plain P (sizeOf t) := by
 unfold sizeOf
 repeat' (first
  | exact zb _ | exact zA _ | exact zk _ | exact zo _ | exact zB _ | exact zF _
  | exact zP _ _
  | exact zL _ _ _
  | exact zM _ trivial
  | exact zu _
  | exact zt _ _ trivial
  | exact zm _
  | exact zl
  | exact zH
  | exact zg _
  | exact za _
  | with_reducible refine Plain.bind ?_ (fun _ => ?_)
  | with_reducible refine Plain.map ?_
  | dsimp only
  | split
  | intro _)
theorem zw (t : TypeId) : Plain P (zeroValue t) := by
 unfold zeroValue
 repeat' (first
  | exact zb _ | exact zA _ | exact zk _ | exact zo _ | exact zB _ | exact zF _
  | exact zP _ _
  | exact zL _ _ _
  | exact zM _ trivial
  | exact zu _
  | exact zt _ _ trivial
  | exact zm _
  | exact zl
  | exact zH
  | exact zg _
  | exact za _
  | exact zn _
  | with_reducible refine Plain.bind ?_ (fun _ => ?_)
  | with_reducible refine Plain.map ?_
  | dsimp only
  | split
  | intro _)
theorem zQ (t : TypeId) : Plain P (isAgg t) := by
 unfold isAgg
 repeat' (first
  | exact zb _ | exact zA _ | exact zk _ | exact zo _ | exact zB _ | exact zF _
  | exact zP _ _
  | exact zL _ _ _
  | exact zM _ trivial
  | exact zu _
  | exact zt _ _ trivial
  | exact zm _
  | exact zl
  | exact zH
  | exact zg _
  | exact za _
  | exact zn _
  | exact zw _
  | with_reducible refine Plain.bind ?_ (fun _ => ?_)
  | with_reducible refine Plain.map ?_
  | dsimp only
  | split
  | intro _)
theorem z3X (a : Addr) : ∀ (n i : Nat) (acc : Array Value), Plain P (loadCellsFrom a i n acc) := by
 intro n
 induction n with
 | zero => intro i acc; unfold loadCellsFrom; exact zb _
 | succ n ih =>
  intro i acc
  unfold loadCellsFrom
  exact Plain.bind (zP _ _) fun v => ih _ _
theorem zD (a : Addr) (n : Nat) : Plain P (loadCells a n) := z3X a n 0 #[]
theorem zq (a : Addr) : ∀ (vs : List Value) (i : Nat), Plain P (storeCells a vs i)
 | [], i => by unfold storeCells; exact zb _
 | v :: vs, i => by unfold storeCells; exact Plain.bind (zL _ _ _) fun _ => zq a vs _
theorem z6U {γ δ : Type} {f : γ → Sem δ} (hf : ∀ x, Plain P (f x)) : ∀ l : List γ, Plain P (l.mapM f)
 | [] => by rw [List.mapM_nil]; exact zb _
 | x :: l => by rw [List.mapM_cons]; exact Plain.bind (hf x) fun _ => Plain.bind (z6U hf l) fun _ => zb _
theorem z5N {γ δ : Type} {f : γ → Sem δ} (l : Array γ) (hf : ∀ x, Plain P (f x)) : Plain P (l.mapM f) := by
 rw [Array.mapM_eq_mapM_toList]; exact Plain.map (z6U hf _)
theorem zI (t : TypeId) (a : Addr) : Plain P (loadVar t a) := by
 unfold loadVar
 repeat' (first
  | exact zb _ | exact zA _ | exact zk _ | exact zo _ | exact zB _ | exact zF _
  | exact zP _ _
  | exact zL _ _ _
  | exact zM _ trivial
  | exact zu _
  | exact zt _ _ trivial
  | exact zm _
  | exact zl
  | exact zH
  | exact zg _
  | exact za _
  | exact zn _
  | exact zw _
  | exact zQ _
  | exact zD _ _
  | exact zq _ _ _
  | with_reducible refine Plain.bind ?_ (fun _ => ?_)
  | with_reducible refine Plain.map ?_
  | dsimp only
  | split
  | intro _)
theorem zG (t : TypeId) (a : Addr) (v : Value) : Plain P (storeVar t a v) := by
 unfold storeVar
 repeat' (first
  | exact zb _ | exact zA _ | exact zk _ | exact zo _ | exact zB _ | exact zF _
  | exact zP _ _
  | exact zL _ _ _
  | exact zM _ trivial
  | exact zu _
  | exact zt _ _ trivial
  | exact zm _
  | exact zl
  | exact zH
  | exact zg _
  | exact za _
  | exact zn _
  | exact zw _
  | exact zQ _
  | exact zD _ _
  | exact zq _ _ _
  | exact zI _ _
  | with_reducible refine Plain.bind ?_ (fun _ => ?_)
  | with_reducible refine Plain.map ?_
  | dsimp only
  | split
  | intro _)
theorem zN (t : TypeId) (c : Array Value) : Plain P (newRow t c) := by
 unfold newRow
 repeat' (first
  | exact zb _ | exact zA _ | exact zk _ | exact zo _ | exact zB _ | exact zF _
  | exact zP _ _
  | exact zL _ _ _
  | exact zM _ trivial
  | exact zu _
  | exact zt _ _ trivial
  | exact zm _
  | exact zl
  | exact zH
  | exact zg _
  | exact za _
  | exact zn _
  | exact zw _
  | exact zQ _
  | exact zD _ _
  | exact zq _ _ _
  | exact zI _ _
  | exact zG _ _ _
  | with_reducible refine Plain.bind ?_ (fun _ => ?_)
  | with_reducible refine Plain.map ?_
  | dsimp only
  | split
  | intro _)
theorem zO (t : TypeId) (v : Value) : Plain P (newVar t v) := by
 unfold newVar
 repeat' (first
  | exact zb _ | exact zA _ | exact zk _ | exact zo _ | exact zB _ | exact zF _
  | exact zP _ _
  | exact zL _ _ _
  | exact zM _ trivial
  | exact zu _
  | exact zt _ _ trivial
  | exact zm _
  | exact zl
  | exact zH
  | exact zg _
  | exact za _
  | exact zn _
  | exact zw _
  | exact zQ _
  | exact zD _ _
  | exact zq _ _ _
  | exact zI _ _
  | exact zG _ _ _
  | exact zN _ _
  | with_reducible refine Plain.bind ?_ (fun _ => ?_)
  | with_reducible refine Plain.map ?_
  | dsimp only
  | split
  | intro _)
theorem zR (t : TypeId) : Plain P (elemOf t) := by
 unfold elemOf
 repeat' (first
  | exact zb _ | exact zA _ | exact zk _ | exact zo _ | exact zB _ | exact zF _
  | exact zP _ _
  | exact zL _ _ _
  | exact zM _ trivial
  | exact zu _
  | exact zt _ _ trivial
  | exact zm _
  | exact zl
  | exact zH
  | exact zg _
  | exact za _
  | exact zn _
  | exact zw _
  | exact zQ _
  | exact zD _ _
  | exact zq _ _ _
  | exact zI _ _
  | exact zG _ _ _
  | exact zN _ _
  | exact zO _ _
  | with_reducible refine Plain.bind ?_ (fun _ => ?_)
  | with_reducible refine Plain.map ?_
  | dsimp only
  | split
  | intro _)
theorem zY (t : TypeId) (cs : Array Value) (off : Nat) : Plain P (part t cs off) := by
 unfold part
 repeat' (first
  | exact zb _ | exact zA _ | exact zk _ | exact zo _ | exact zB _ | exact zF _
  | exact zP _ _
  | exact zL _ _ _
  | exact zM _ trivial
  | exact zu _
  | exact zt _ _ trivial
  | exact zm _
  | exact zl
  | exact zH
  | exact zg _
  | exact za _
  | exact zn _
  | exact zw _
  | exact zQ _
  | exact zD _ _
  | exact zq _ _ _
  | exact zI _ _
  | exact zG _ _ _
  | exact zN _ _
  | exact zO _ _
  | exact zR _
  | with_reducible refine Plain.bind ?_ (fun _ => ?_)
  | with_reducible refine Plain.map ?_
  | dsimp only
  | split
  | intro _)
theorem ze (e : RuntimeError) : Plain P (runtimePanic (α := α) e) := by
 unfold runtimePanic
 repeat' (first
  | exact zb _ | exact zA _ | exact zk _ | exact zo _ | exact zB _ | exact zF _
  | exact zP _ _
  | exact zL _ _ _
  | exact zM _ trivial
  | exact zu _
  | exact zt _ _ trivial
  | exact zm _
  | exact zl
  | exact zH
  | exact zg _
  | exact za _
  | exact zn _
  | exact zw _
  | exact zQ _
  | exact zD _ _
  | exact zq _ _ _
  | exact zI _ _
  | exact zG _ _ _
  | exact zN _ _
  | exact zO _ _
  | exact zR _
  | exact zY _ _ _
  | with_reducible refine Plain.bind ?_ (fun _ => ?_)
  | with_reducible refine Plain.map ?_
  | dsimp only
  | split
  | intro _)
theorem zh (k : IntKind) (x y : Int) (c : BoundsCode) : Plain P (boundsPanic (α := α) k x y c) := by
 unfold boundsPanic
 repeat' (first
  | exact zb _ | exact zA _ | exact zk _ | exact zo _ | exact zB _ | exact zF _
  | exact zP _ _
  | exact zL _ _ _
  | exact zM _ trivial
  | exact zu _
  | exact zt _ _ trivial
  | exact zm _
  | exact zl
  | exact zH
  | exact zg _
  | exact za _
  | exact zn _
  | exact zw _
  | exact zQ _
  | exact zD _ _
  | exact zq _ _ _
  | exact zI _ _
  | exact zG _ _ _
  | exact zN _ _
  | exact zO _ _
  | exact zR _
  | exact zY _ _ _
  | exact ze _
  | with_reducible refine Plain.bind ?_ (fun _ => ?_)
  | with_reducible refine Plain.map ?_
  | dsimp only
  | split
  | intro _)
theorem zT (v : Value) : Plain P (asIntOf v) := by
 unfold asIntOf
 repeat' (first
  | exact zb _ | exact zA _ | exact zk _ | exact zo _ | exact zB _ | exact zF _
  | exact zP _ _
  | exact zL _ _ _
  | exact zM _ trivial
  | exact zu _
  | exact zt _ _ trivial
  | exact zm _
  | exact zl
  | exact zH
  | exact zg _
  | exact za _
  | exact zn _
  | exact zw _
  | exact zQ _
  | exact zD _ _
  | exact zq _ _ _
  | exact zI _ _
  | exact zG _ _ _
  | exact zN _ _
  | exact zO _ _
  | exact zR _
  | exact zY _ _ _
  | exact ze _
  | exact zh _ _ _ _
  | with_reducible refine Plain.bind ?_ (fun _ => ?_)
  | with_reducible refine Plain.map ?_
  | dsimp only
  | split
  | intro _)
theorem zZ (v : Value) : Plain P (asInt v) := by
 unfold asInt
 repeat' (first
  | exact zb _ | exact zA _ | exact zk _ | exact zo _ | exact zB _ | exact zF _
  | exact zP _ _
  | exact zL _ _ _
  | exact zM _ trivial
  | exact zu _
  | exact zt _ _ trivial
  | exact zm _
  | exact zl
  | exact zH
  | exact zg _
  | exact za _
  | exact zn _
  | exact zw _
  | exact zQ _
  | exact zD _ _
  | exact zq _ _ _
  | exact zI _ _
  | exact zG _ _ _
  | exact zN _ _
  | exact zO _ _
  | exact zR _
  | exact zY _ _ _
  | exact ze _
  | exact zh _ _ _ _
  | exact zT _
  | with_reducible refine Plain.bind ?_ (fun _ => ?_)
  | with_reducible refine Plain.map ?_
  | dsimp only
  | split
  | intro _)
theorem zK (v : Value) : Plain P (asBool v) := by
 unfold asBool
 repeat' (first
  | exact zb _ | exact zA _ | exact zk _ | exact zo _ | exact zB _ | exact zF _
  | exact zP _ _
  | exact zL _ _ _
  | exact zM _ trivial
  | exact zu _
  | exact zt _ _ trivial
  | exact zm _
  | exact zl
  | exact zH
  | exact zg _
  | exact za _
  | exact zn _
  | exact zw _
  | exact zQ _
  | exact zD _ _
  | exact zq _ _ _
  | exact zI _ _
  | exact zG _ _ _
  | exact zN _ _
  | exact zO _ _
  | exact zR _
  | exact zY _ _ _
  | exact ze _
  | exact zh _ _ _ _
  | exact zT _
  | exact zZ _
  | with_reducible refine Plain.bind ?_ (fun _ => ?_)
  | with_reducible refine Plain.map ?_
  | dsimp only
  | split
  | intro _)
theorem z00 (v : Value) : Plain P (asAddr v) := by
 unfold asAddr
 repeat' (first
  | exact zb _ | exact zA _ | exact zk _ | exact zo _ | exact zB _ | exact zF _
  | exact zP _ _
  | exact zL _ _ _
  | exact zM _ trivial
  | exact zu _
  | exact zt _ _ trivial
  | exact zm _
  | exact zl
  | exact zH
  | exact zg _
  | exact za _
  | exact zn _
  | exact zw _
  | exact zQ _
  | exact zD _ _
  | exact zq _ _ _
  | exact zI _ _
  | exact zG _ _ _
  | exact zN _ _
  | exact zO _ _
  | exact zR _
  | exact zY _ _ _
  | exact ze _
  | exact zh _ _ _ _
  | exact zT _
  | exact zZ _
  | exact zK _
  | with_reducible refine Plain.bind ?_ (fun _ => ?_)
  | with_reducible refine Plain.map ?_
  | dsimp only
  | split
  | intro _)
theorem z0a (v : Value) : Plain P (asAgg v) := by
 unfold asAgg
 repeat' (first
  | exact zb _ | exact zA _ | exact zk _ | exact zo _ | exact zB _ | exact zF _
  | exact zP _ _
  | exact zL _ _ _
  | exact zM _ trivial
  | exact zu _
  | exact zt _ _ trivial
  | exact zm _
  | exact zl
  | exact zH
  | exact zg _
  | exact za _
  | exact zn _
  | exact zw _
  | exact zQ _
  | exact zD _ _
  | exact zq _ _ _
  | exact zI _ _
  | exact zG _ _ _
  | exact zN _ _
  | exact zO _ _
  | exact zR _
  | exact zY _ _ _
  | exact ze _
  | exact zh _ _ _ _
  | exact zT _
  | exact zZ _
  | exact zK _
  | exact z00 _
  | with_reducible refine Plain.bind ?_ (fun _ => ?_)
  | with_reducible refine Plain.map ?_
  | dsimp only
  | split
  | intro _)
theorem zV (v : Value) : Plain P (Instr.sureAddr v) := by
 unfold Instr.sureAddr
 repeat' (first
  | exact zb _ | exact zA _ | exact zk _ | exact zo _ | exact zB _ | exact zF _
  | exact zP _ _
  | exact zL _ _ _
  | exact zM _ trivial
  | exact zu _
  | exact zt _ _ trivial
  | exact zm _
  | exact zl
  | exact zH
  | exact zg _
  | exact za _
  | exact zn _
  | exact zw _
  | exact zQ _
  | exact zD _ _
  | exact zq _ _ _
  | exact zI _ _
  | exact zG _ _ _
  | exact zN _ _
  | exact zO _ _
  | exact zR _
  | exact zY _ _ _
  | exact ze _
  | exact zh _ _ _ _
  | exact zT _
  | exact zZ _
  | exact zK _
  | exact z00 _
  | exact z0a _
  | with_reducible refine Plain.bind ?_ (fun _ => ?_)
  | with_reducible refine Plain.map ?_
  | dsimp only
  | split
  | intro _)
theorem z02 (n : Nat) : Plain P (askRoom n) := by
 unfold askRoom
 repeat' (first
  | exact zb _ | exact zA _ | exact zk _ | exact zo _ | exact zB _ | exact zF _
  | exact zP _ _
  | exact zL _ _ _
  | exact zM _ trivial
  | exact zu _
  | exact zt _ _ trivial
  | exact zm _
  | exact zl
  | exact zH
  | exact zg _
  | exact za _
  | exact zn _
  | exact zw _
  | exact zQ _
  | exact zD _ _
  | exact zq _ _ _
  | exact zI _ _
  | exact zG _ _ _
  | exact zN _ _
  | exact zO _ _
  | exact zR _
  | exact zY _ _ _
  | exact ze _
  | exact zh _ _ _ _
  | exact zT _
  | exact zZ _
  | exact zK _
  | exact z00 _
  | exact z0a _
  | exact zV _
  | with_reducible refine Plain.bind ?_ (fun _ => ?_)
  | with_reducible refine Plain.map ?_
  | dsimp only
  | split
  | intro _)
theorem z06 (t : TypeId) (v : Value) : Plain P (Instr.loadAt t v) := by
 unfold Instr.loadAt
 repeat' (first
  | exact zb _ | exact zA _ | exact zk _ | exact zo _ | exact zB _ | exact zF _
  | exact zP _ _
  | exact zL _ _ _
  | exact zM _ trivial
  | exact zu _
  | exact zt _ _ trivial
  | exact zm _
  | exact zl
  | exact zH
  | exact zg _
  | exact za _
  | exact zn _
  | exact zw _
  | exact zQ _
  | exact zD _ _
  | exact zq _ _ _
  | exact zI _ _
  | exact zG _ _ _
  | exact zN _ _
  | exact zO _ _
  | exact zR _
  | exact zY _ _ _
  | exact ze _
  | exact zh _ _ _ _
  | exact zT _
  | exact zZ _
  | exact zK _
  | exact z00 _
  | exact z0a _
  | exact zV _
  | exact z02 _
  | with_reducible refine Plain.bind ?_ (fun _ => ?_)
  | with_reducible refine Plain.map ?_
  | dsimp only
  | split
  | intro _)
theorem z03 (t : TypeId) (v x : Value) : Plain P (Instr.storeAt t v x) := by
 unfold Instr.storeAt
 repeat' (first
  | exact zb _ | exact zA _ | exact zk _ | exact zo _ | exact zB _ | exact zF _
  | exact zP _ _
  | exact zL _ _ _
  | exact zM _ trivial
  | exact zu _
  | exact zt _ _ trivial
  | exact zm _
  | exact zl
  | exact zH
  | exact zg _
  | exact za _
  | exact zn _
  | exact zw _
  | exact zQ _
  | exact zD _ _
  | exact zq _ _ _
  | exact zI _ _
  | exact zG _ _ _
  | exact zN _ _
  | exact zO _ _
  | exact zR _
  | exact zY _ _ _
  | exact ze _
  | exact zh _ _ _ _
  | exact zT _
  | exact zZ _
  | exact zK _
  | exact z00 _
  | exact z0a _
  | exact zV _
  | exact z02 _
  | exact z06 _ _
  | with_reducible refine Plain.bind ?_ (fun _ => ?_)
  | with_reducible refine Plain.map ?_
  | dsimp only
  | split
  | intro _)
theorem z0c (t : TypeId) (b : Bool) (v : Value) : Plain P (Instr.alloc t b v) := by
 unfold Instr.alloc
 repeat' (first
  | exact zb _ | exact zA _ | exact zk _ | exact zo _ | exact zB _ | exact zF _
  | exact zP _ _
  | exact zL _ _ _
  | exact zM _ trivial
  | exact zu _
  | exact zt _ _ trivial
  | exact zm _
  | exact zl
  | exact zH
  | exact zg _
  | exact za _
  | exact zn _
  | exact zw _
  | exact zQ _
  | exact zD _ _
  | exact zq _ _ _
  | exact zI _ _
  | exact zG _ _ _
  | exact zN _ _
  | exact zO _ _
  | exact zR _
  | exact zY _ _ _
  | exact ze _
  | exact zh _ _ _ _
  | exact zT _
  | exact zZ _
  | exact zK _
  | exact z00 _
  | exact z0a _
  | exact zV _
  | exact z02 _
  | exact z06 _ _
  | exact z03 _ _ _
  | with_reducible refine Plain.bind ?_ (fun _ => ?_)
  | with_reducible refine Plain.map ?_
  | dsimp only
  | split
  | intro _)
theorem z0t (t : TypeId) (v : Value) : Plain P (Instr.box t v) := by
 unfold Instr.box
 repeat' (first
  | exact zb _ | exact zA _ | exact zk _ | exact zo _ | exact zB _ | exact zF _
  | exact zP _ _
  | exact zL _ _ _
  | exact zM _ trivial
  | exact zu _
  | exact zt _ _ trivial
  | exact zm _
  | exact zl
  | exact zH
  | exact zg _
  | exact za _
  | exact zn _
  | exact zw _
  | exact zQ _
  | exact zD _ _
  | exact zq _ _ _
  | exact zI _ _
  | exact zG _ _ _
  | exact zN _ _
  | exact zO _ _
  | exact zR _
  | exact zY _ _ _
  | exact ze _
  | exact zh _ _ _ _
  | exact zT _
  | exact zZ _
  | exact zK _
  | exact z00 _
  | exact z0a _
  | exact zV _
  | exact z02 _
  | exact z06 _ _
  | exact z03 _ _ _
  | exact z0c _ _ _
  | with_reducible refine Plain.bind ?_ (fun _ => ?_)
  | with_reducible refine Plain.map ?_
  | dsimp only
  | split
  | intro _)
theorem z0m (t : TypeId) (ps : Array (Nat × Value)) : Plain P (Instr.build t ps) := by
 unfold Instr.build
 repeat' (first
  | exact zb _ | exact zA _ | exact zk _ | exact zo _ | exact zB _ | exact zF _
  | exact zP _ _
  | exact zL _ _ _
  | exact zM _ trivial
  | exact zu _
  | exact zt _ _ trivial
  | exact zm _
  | exact zl
  | exact zH
  | exact zg _
  | exact za _
  | exact zn _
  | exact zw _
  | exact zQ _
  | exact zD _ _
  | exact zq _ _ _
  | exact zI _ _
  | exact zG _ _ _
  | exact zN _ _
  | exact zO _ _
  | exact zR _
  | exact zY _ _ _
  | exact ze _
  | exact zh _ _ _ _
  | exact zT _
  | exact zZ _
  | exact zK _
  | exact z00 _
  | exact z0a _
  | exact zV _
  | exact z02 _
  | exact z06 _ _
  | exact z03 _ _ _
  | exact z0c _ _ _
  | exact z0t _ _
  | refine z5N _ ?_
  | with_reducible refine Plain.bind ?_ (fun _ => ?_)
  | with_reducible refine Plain.map ?_
  | dsimp only
  | split
  | intro _)
theorem zX (t : TypeId) (len : Nat) (ps : Array (Nat × Value)) : Plain P (Instr.buildSlice t len ps) := by
 unfold Instr.buildSlice
 repeat' (first
  | exact zb _ | exact zA _ | exact zk _ | exact zo _ | exact zB _ | exact zF _
  | exact zP _ _
  | exact zL _ _ _
  | exact zM _ trivial
  | exact zu _
  | exact zt _ _ trivial
  | exact zm _
  | exact zl
  | exact zH
  | exact zg _
  | exact za _
  | exact zn _
  | exact zw _
  | exact zQ _
  | exact zD _ _
  | exact zq _ _ _
  | exact zI _ _
  | exact zG _ _ _
  | exact zN _ _
  | exact zO _ _
  | exact zR _
  | exact zY _ _ _
  | exact ze _
  | exact zh _ _ _ _
  | exact zT _
  | exact zZ _
  | exact zK _
  | exact z00 _
  | exact z0a _
  | exact zV _
  | exact z02 _
  | exact z06 _ _
  | exact z03 _ _ _
  | exact z0c _ _ _
  | exact z0t _ _
  | exact z0m _ _
  | with_reducible refine Plain.bind ?_ (fun _ => ?_)
  | with_reducible refine Plain.map ?_
  | dsimp only
  | split
  | intro _)
theorem z0d (t : TypeId) (x i : Value) : Plain P (Instr.indexAt t x i) := by
 unfold Instr.indexAt
 repeat' (first
  | exact zb _ | exact zA _ | exact zk _ | exact zo _ | exact zB _ | exact zF _
  | exact zP _ _
  | exact zL _ _ _
  | exact zM _ trivial
  | exact zu _
  | exact zt _ _ trivial
  | exact zm _
  | exact zl
  | exact zH
  | exact zg _
  | exact za _
  | exact zn _
  | exact zw _
  | exact zQ _
  | exact zD _ _
  | exact zq _ _ _
  | exact zI _ _
  | exact zG _ _ _
  | exact zN _ _
  | exact zO _ _
  | exact zR _
  | exact zY _ _ _
  | exact ze _
  | exact zh _ _ _ _
  | exact zT _
  | exact zZ _
  | exact zK _
  | exact z00 _
  | exact z0a _
  | exact zV _
  | exact z02 _
  | exact z06 _ _
  | exact z03 _ _ _
  | exact z0c _ _ _
  | exact z0t _ _
  | exact z0m _ _
  | exact zX _ _ _
  | with_reducible refine Plain.bind ?_ (fun _ => ?_)
  | with_reducible refine Plain.map ?_
  | dsimp only
  | split
  | intro _)
theorem z07 (x : Value) (y : Nat) (c : BoundsCode) : Plain P (Instr.sliceBound x y c) := by
 unfold Instr.sliceBound
 repeat' (first
  | exact zb _ | exact zA _ | exact zk _ | exact zo _ | exact zB _ | exact zF _
  | exact zP _ _
  | exact zL _ _ _
  | exact zM _ trivial
  | exact zu _
  | exact zt _ _ trivial
  | exact zm _
  | exact zl
  | exact zH
  | exact zg _
  | exact za _
  | exact zn _
  | exact zw _
  | exact zQ _
  | exact zD _ _
  | exact zq _ _ _
  | exact zI _ _
  | exact zG _ _ _
  | exact zN _ _
  | exact zO _ _
  | exact zR _
  | exact zY _ _ _
  | exact ze _
  | exact zh _ _ _ _
  | exact zT _
  | exact zZ _
  | exact zK _
  | exact z00 _
  | exact z0a _
  | exact zV _
  | exact z02 _
  | exact z06 _ _
  | exact z03 _ _ _
  | exact z0c _ _ _
  | exact z0t _ _
  | exact z0m _ _
  | exact zX _ _ _
  | exact z0d _ _ _
  | with_reducible refine Plain.bind ?_ (fun _ => ?_)
  | with_reducible refine Plain.map ?_
  | dsimp only
  | split
  | intro _)
theorem z04 (b : Bool) (n m : Nat) (x y z : Option Value) : Plain P (Instr.sliceBounds b n m x y z) := by
 unfold Instr.sliceBounds
 repeat' (first
  | exact zb _ | exact zA _ | exact zk _ | exact zo _ | exact zB _ | exact zF _
  | exact zP _ _
  | exact zL _ _ _
  | exact zM _ trivial
  | exact zu _
  | exact zt _ _ trivial
  | exact zm _
  | exact zl
  | exact zH
  | exact zg _
  | exact za _
  | exact zn _
  | exact zw _
  | exact zQ _
  | exact zD _ _
  | exact zq _ _ _
  | exact zI _ _
  | exact zG _ _ _
  | exact zN _ _
  | exact zO _ _
  | exact zR _
  | exact zY _ _ _
  | exact ze _
  | exact zh _ _ _ _
  | exact zT _
  | exact zZ _
  | exact zK _
  | exact z00 _
  | exact z0a _
  | exact zV _
  | exact z02 _
  | exact z06 _ _
  | exact z03 _ _ _
  | exact z0c _ _ _
  | exact z0t _ _
  | exact z0m _ _
  | exact zX _ _ _
  | exact z0d _ _ _
  | exact z07 _ _ _
  | with_reducible refine Plain.bind ?_ (fun _ => ?_)
  | with_reducible refine Plain.map ?_
  | dsimp only
  | split
  | intro _)
theorem z0y (t : TypeId) (v : Value) (x y z : Option Value) : Plain P (Instr.slice t v x y z) := by
 unfold Instr.slice
 repeat' (first
  | exact zb _ | exact zA _ | exact zk _ | exact zo _ | exact zB _ | exact zF _
  | exact zP _ _
  | exact zL _ _ _
  | exact zM _ trivial
  | exact zu _
  | exact zt _ _ trivial
  | exact zm _
  | exact zl
  | exact zH
  | exact zg _
  | exact za _
  | exact zn _
  | exact zw _
  | exact zQ _
  | exact zD _ _
  | exact zq _ _ _
  | exact zI _ _
  | exact zG _ _ _
  | exact zN _ _
  | exact zO _ _
  | exact zR _
  | exact zY _ _ _
  | exact ze _
  | exact zh _ _ _ _
  | exact zT _
  | exact zZ _
  | exact zK _
  | exact z00 _
  | exact z0a _
  | exact zV _
  | exact z02 _
  | exact z06 _ _
  | exact z03 _ _ _
  | exact z0c _ _ _
  | exact z0t _ _
  | exact z0m _ _
  | exact zX _ _ _
  | exact z0d _ _ _
  | exact z07 _ _ _
  | exact z04 _ _ _ _ _ _
  | with_reducible refine Plain.bind ?_ (fun _ => ?_)
  | with_reducible refine Plain.map ?_
  | dsimp only
  | split
  | intro _)
theorem z0o (t : TypeId) (v : Value) (x y z : Option Value) : Plain P (Instr.sliceAt t v x y z) := by
 unfold Instr.sliceAt
 repeat' (first
  | exact zb _ | exact zA _ | exact zk _ | exact zo _ | exact zB _ | exact zF _
  | exact zP _ _
  | exact zL _ _ _
  | exact zM _ trivial
  | exact zu _
  | exact zt _ _ trivial
  | exact zm _
  | exact zl
  | exact zH
  | exact zg _
  | exact za _
  | exact zn _
  | exact zw _
  | exact zQ _
  | exact zD _ _
  | exact zq _ _ _
  | exact zI _ _
  | exact zG _ _ _
  | exact zN _ _
  | exact zO _ _
  | exact zR _
  | exact zY _ _ _
  | exact ze _
  | exact zh _ _ _ _
  | exact zT _
  | exact zZ _
  | exact zK _
  | exact z00 _
  | exact z0a _
  | exact zV _
  | exact z02 _
  | exact z06 _ _
  | exact z03 _ _ _
  | exact z0c _ _ _
  | exact z0t _ _
  | exact z0m _ _
  | exact zX _ _ _
  | exact z0d _ _ _
  | exact z07 _ _ _
  | exact z04 _ _ _ _ _ _
  | exact z0y _ _ _ _ _
  | with_reducible refine Plain.bind ?_ (fun _ => ?_)
  | with_reducible refine Plain.map ?_
  | dsimp only
  | split
  | intro _)
theorem z0A (t : TypeId) (v : Value) (n : Nat) : Plain P (Instr.field t v n) := by
 unfold Instr.field
 repeat' (first
  | exact zb _ | exact zA _ | exact zk _ | exact zo _ | exact zB _ | exact zF _
  | exact zP _ _
  | exact zL _ _ _
  | exact zM _ trivial
  | exact zu _
  | exact zt _ _ trivial
  | exact zm _
  | exact zl
  | exact zH
  | exact zg _
  | exact za _
  | exact zn _
  | exact zw _
  | exact zQ _
  | exact zD _ _
  | exact zq _ _ _
  | exact zI _ _
  | exact zG _ _ _
  | exact zN _ _
  | exact zO _ _
  | exact zR _
  | exact zY _ _ _
  | exact ze _
  | exact zh _ _ _ _
  | exact zT _
  | exact zZ _
  | exact zK _
  | exact z00 _
  | exact z0a _
  | exact zV _
  | exact z02 _
  | exact z06 _ _
  | exact z03 _ _ _
  | exact z0c _ _ _
  | exact z0t _ _
  | exact z0m _ _
  | exact zX _ _ _
  | exact z0d _ _ _
  | exact z07 _ _ _
  | exact z04 _ _ _ _ _ _
  | exact z0y _ _ _ _ _
  | exact z0o _ _ _ _ _
  | with_reducible refine Plain.bind ?_ (fun _ => ?_)
  | with_reducible refine Plain.map ?_
  | dsimp only
  | split
  | intro _)
theorem z0F (t : TypeId) (v i : Value) : Plain P (Instr.index t v i) := by
 unfold Instr.index
 repeat' (first
  | exact zb _ | exact zA _ | exact zk _ | exact zo _ | exact zB _ | exact zF _
  | exact zP _ _
  | exact zL _ _ _
  | exact zM _ trivial
  | exact zu _
  | exact zt _ _ trivial
  | exact zm _
  | exact zl
  | exact zH
  | exact zg _
  | exact za _
  | exact zn _
  | exact zw _
  | exact zQ _
  | exact zD _ _
  | exact zq _ _ _
  | exact zI _ _
  | exact zG _ _ _
  | exact zN _ _
  | exact zO _ _
  | exact zR _
  | exact zY _ _ _
  | exact ze _
  | exact zh _ _ _ _
  | exact zT _
  | exact zZ _
  | exact zK _
  | exact z00 _
  | exact z0a _
  | exact zV _
  | exact z02 _
  | exact z06 _ _
  | exact z03 _ _ _
  | exact z0c _ _ _
  | exact z0t _ _
  | exact z0m _ _
  | exact zX _ _ _
  | exact z0d _ _ _
  | exact z07 _ _ _
  | exact z04 _ _ _ _ _ _
  | exact z0y _ _ _ _ _
  | exact z0o _ _ _ _ _
  | exact z0A _ _ _
  | with_reducible refine Plain.bind ?_ (fun _ => ?_)
  | with_reducible refine Plain.map ?_
  | dsimp only
  | split
  | intro _)
theorem z0v (f : Fn) (x y : Array Value) : Plain P (Instr.makeFunc f x y) := by
 unfold Instr.makeFunc
 repeat' (first
  | exact zb _ | exact zA _ | exact zk _ | exact zo _ | exact zB _ | exact zF _
  | exact zP _ _
  | exact zL _ _ _
  | exact zM _ trivial
  | exact zu _
  | exact zt _ _ trivial
  | exact zm _
  | exact zl
  | exact zH
  | exact zg _
  | exact za _
  | exact zn _
  | exact zw _
  | exact zQ _
  | exact zD _ _
  | exact zq _ _ _
  | exact zI _ _
  | exact zG _ _ _
  | exact zN _ _
  | exact zO _ _
  | exact zR _
  | exact zY _ _ _
  | exact ze _
  | exact zh _ _ _ _
  | exact zT _
  | exact zZ _
  | exact zK _
  | exact z00 _
  | exact z0a _
  | exact zV _
  | exact z02 _
  | exact z06 _ _
  | exact z03 _ _ _
  | exact z0c _ _ _
  | exact z0t _ _
  | exact z0m _ _
  | exact zX _ _ _
  | exact z0d _ _ _
  | exact z07 _ _ _
  | exact z04 _ _ _ _ _ _
  | exact z0y _ _ _ _ _
  | exact z0o _ _ _ _ _
  | exact z0A _ _ _
  | exact z0F _ _ _
  | with_reducible refine Plain.bind ?_ (fun _ => ?_)
  | with_reducible refine Plain.map ?_
  | dsimp only
  | split
  | intro _)
theorem z0B (t : TypeId) (r : Option Value) : Plain P (Instr.makeMap t r) := by
 unfold Instr.makeMap
 repeat' (first
  | exact zb _ | exact zA _ | exact zk _ | exact zo _ | exact zB _ | exact zF _
  | exact zP _ _
  | exact zL _ _ _
  | exact zM _ trivial
  | exact zu _
  | exact zt _ _ trivial
  | exact zm _
  | exact zl
  | exact zH
  | exact zg _
  | exact za _
  | exact zn _
  | exact zw _
  | exact zQ _
  | exact zD _ _
  | exact zq _ _ _
  | exact zI _ _
  | exact zG _ _ _
  | exact zN _ _
  | exact zO _ _
  | exact zR _
  | exact zY _ _ _
  | exact ze _
  | exact zh _ _ _ _
  | exact zT _
  | exact zZ _
  | exact zK _
  | exact z00 _
  | exact z0a _
  | exact zV _
  | exact z02 _
  | exact z06 _ _
  | exact z03 _ _ _
  | exact z0c _ _ _
  | exact z0t _ _
  | exact z0m _ _
  | exact zX _ _ _
  | exact z0d _ _ _
  | exact z07 _ _ _
  | exact z04 _ _ _ _ _ _
  | exact z0y _ _ _ _ _
  | exact z0o _ _ _ _ _
  | exact z0A _ _ _
  | exact z0F _ _ _
  | exact z0v _ _ _
  | with_reducible refine Plain.bind ?_ (fun _ => ?_)
  | with_reducible refine Plain.map ?_
  | dsimp only
  | split
  | intro _)
theorem z3n {γ : Type} (v : γ) (f : γ → Sem β) (h : Plain P (f v)) : Plain P (have g := v; f g) := h
def makeRest (elem : TypeId) (bytes : Nat) (l c : Int) : Sem Value := do
 askRoom (c.toNat * bytes)
 let n := c.toNat * (← sizeOf elem)
 let zero ← if n = 0 then pure #[] else do pure (← zeroValue elem).cells
 let a ← newRow elem ((Array.range n).map (zero[· % zero.size]!))
 pure (.slice (some a) l.toNat c.toNat)
theorem z6H (elem : TypeId) (bytes : Nat) (l c : Int) : Plain P (makeRest elem bytes l c) := by
 unfold makeRest
 repeat' (first
  | exact zb _ | exact zA _ | exact zk _ | exact zo _ | exact zB _ | exact zF _
  | exact zP _ _
  | exact zL _ _ _
  | exact zM _ trivial
  | exact zu _
  | exact zt _ _ trivial
  | exact zm _
  | exact zl
  | exact zH
  | exact zg _
  | exact za _
  | exact zn _
  | exact zw _
  | exact zQ _
  | exact zD _ _
  | exact zq _ _ _
  | exact zI _ _
  | exact zG _ _ _
  | exact zN _ _
  | exact zO _ _
  | exact zR _
  | exact zY _ _ _
  | exact ze _
  | exact zh _ _ _ _
  | exact zT _
  | exact zZ _
  | exact zK _
  | exact z00 _
  | exact z0a _
  | exact zV _
  | exact z02 _
  | exact z06 _ _
  | exact z03 _ _ _
  | exact z0c _ _ _
  | exact z0t _ _
  | exact z0m _ _
  | exact zX _ _ _
  | exact z0d _ _ _
  | exact z07 _ _ _
  | exact z04 _ _ _ _ _ _
  | exact z0y _ _ _ _ _
  | exact z0o _ _ _ _ _
  | exact z0A _ _ _
  | exact z0F _ _ _
  | exact z0v _ _ _
  | exact z0B _ _
  | with_reducible refine Plain.bind ?_ (fun _ => ?_)
  | with_reducible refine Plain.map ?_
  | dsimp only
  | split
  | intro _)
theorem z0u (t : TypeId) (x y : Value) : Plain P (Instr.makeSlice t x y) := by
 unfold Instr.makeSlice
 refine Plain.bind (za _) fun u => ?_
 split
 ·refine Plain.bind (zZ _) fun len => Plain.bind (zZ _) fun cap => Plain.bind (zg _) fun i => ?_
  rename_i elem
  have hr : ∀ l c, Plain P (makeRest elem i.bytes l c) := fun l c => z6H _ _ _ _
  refine z3n _ _ (z3n _ _ (z3n _ _ (z3n _ _ ?_)))
  split
  ·split
   ·exact Plain.bind (ze _) fun _ => hr _ _
   ·split
    ·exact Plain.bind (ze _) fun _ => hr _ _
    ·exact Plain.bind (zm _) fun _ => Plain.bind (ze _) fun _ => hr _ _
  ·exact hr _ _
 ·exact zk _
theorem z0p (t : TypeId) (x : Value) : Plain P (Instr.makeInterface t x) := by
 unfold Instr.makeInterface
 repeat' (first
  | exact zb _ | exact zA _ | exact zk _ | exact zo _ | exact zB _ | exact zF _
  | exact zP _ _
  | exact zL _ _ _
  | exact zM _ trivial
  | exact zu _
  | exact zt _ _ trivial
  | exact zm _
  | exact zl
  | exact zH
  | exact zg _
  | exact za _
  | exact zn _
  | exact zw _
  | exact zQ _
  | exact zD _ _
  | exact zq _ _ _
  | exact zI _ _
  | exact zG _ _ _
  | exact zN _ _
  | exact zO _ _
  | exact zR _
  | exact zY _ _ _
  | exact ze _
  | exact zh _ _ _ _
  | exact zT _
  | exact zZ _
  | exact zK _
  | exact z00 _
  | exact z0a _
  | exact zV _
  | exact z02 _
  | exact z06 _ _
  | exact z03 _ _ _
  | exact z0c _ _ _
  | exact z0t _ _
  | exact z0m _ _
  | exact zX _ _ _
  | exact z0d _ _ _
  | exact z07 _ _ _
  | exact z04 _ _ _ _ _ _
  | exact z0y _ _ _ _ _
  | exact z0o _ _ _ _ _
  | exact z0A _ _ _
  | exact z0F _ _ _
  | exact z0v _ _ _
  | exact z0B _ _
  | exact z0u _ _ _
  | with_reducible refine Plain.bind ?_ (fun _ => ?_)
  | with_reducible refine Plain.map ?_
  | dsimp only
  | split
  | intro _)
theorem z0Z (x : Value) (n : Nat) : Plain P (Instr.extract x n) := by
 unfold Instr.extract
 repeat' (first
  | exact zb _ | exact zA _ | exact zk _ | exact zo _ | exact zB _ | exact zF _
  | exact zP _ _
  | exact zL _ _ _
  | exact zM _ trivial
  | exact zu _
  | exact zt _ _ trivial
  | exact zm _
  | exact zl
  | exact zH
  | exact zg _
  | exact za _
  | exact zn _
  | exact zw _
  | exact zQ _
  | exact zD _ _
  | exact zq _ _ _
  | exact zI _ _
  | exact zG _ _ _
  | exact zN _ _
  | exact zO _ _
  | exact zR _
  | exact zY _ _ _
  | exact ze _
  | exact zh _ _ _ _
  | exact zT _
  | exact zZ _
  | exact zK _
  | exact z00 _
  | exact z0a _
  | exact zV _
  | exact z02 _
  | exact z06 _ _
  | exact z03 _ _ _
  | exact z0c _ _ _
  | exact z0t _ _
  | exact z0m _ _
  | exact zX _ _ _
  | exact z0d _ _ _
  | exact z07 _ _ _
  | exact z04 _ _ _ _ _ _
  | exact z0y _ _ _ _ _
  | exact z0o _ _ _ _ _
  | exact z0A _ _ _
  | exact z0F _ _ _
  | exact z0v _ _ _
  | exact z0B _ _
  | exact z0u _ _ _
  | exact z0p _ _
  | with_reducible refine Plain.bind ?_ (fun _ => ?_)
  | with_reducible refine Plain.map ?_
  | dsimp only
  | split
  | intro _)
theorem z1A (x : Value) : Plain P (Builtin.lenOf x) := by
 unfold Builtin.lenOf
 repeat' (first
  | exact zb _ | exact zA _ | exact zk _ | exact zo _ | exact zB _ | exact zF _
  | exact zP _ _
  | exact zL _ _ _
  | exact zM _ trivial
  | exact zu _
  | exact zt _ _ trivial
  | exact zm _
  | exact zl
  | exact zH
  | exact zg _
  | exact za _
  | exact zn _
  | exact zw _
  | exact zQ _
  | exact zD _ _
  | exact zq _ _ _
  | exact zI _ _
  | exact zG _ _ _
  | exact zN _ _
  | exact zO _ _
  | exact zR _
  | exact zY _ _ _
  | exact ze _
  | exact zh _ _ _ _
  | exact zT _
  | exact zZ _
  | exact zK _
  | exact z00 _
  | exact z0a _
  | exact zV _
  | exact z02 _
  | exact z06 _ _
  | exact z03 _ _ _
  | exact z0c _ _ _
  | exact z0t _ _
  | exact z0m _ _
  | exact zX _ _ _
  | exact z0d _ _ _
  | exact z07 _ _ _
  | exact z04 _ _ _ _ _ _
  | exact z0y _ _ _ _ _
  | exact z0o _ _ _ _ _
  | exact z0A _ _ _
  | exact z0F _ _ _
  | exact z0v _ _ _
  | exact z0B _ _
  | exact z0u _ _ _
  | exact z0p _ _
  | exact z0Z _ _
  | with_reducible refine Plain.bind ?_ (fun _ => ?_)
  | with_reducible refine Plain.map ?_
  | dsimp only
  | split
  | intro _)
theorem z0W (s n : Nat) (x : Value) : Plain P (Builtin.firstCells s n x) := by
 unfold Builtin.firstCells
 repeat' (first
  | exact zb _ | exact zA _ | exact zk _ | exact zo _ | exact zB _ | exact zF _
  | exact zP _ _
  | exact zL _ _ _
  | exact zM _ trivial
  | exact zu _
  | exact zt _ _ trivial
  | exact zm _
  | exact zl
  | exact zH
  | exact zg _
  | exact za _
  | exact zn _
  | exact zw _
  | exact zQ _
  | exact zD _ _
  | exact zq _ _ _
  | exact zI _ _
  | exact zG _ _ _
  | exact zN _ _
  | exact zO _ _
  | exact zR _
  | exact zY _ _ _
  | exact ze _
  | exact zh _ _ _ _
  | exact zT _
  | exact zZ _
  | exact zK _
  | exact z00 _
  | exact z0a _
  | exact zV _
  | exact z02 _
  | exact z06 _ _
  | exact z03 _ _ _
  | exact z0c _ _ _
  | exact z0t _ _
  | exact z0m _ _
  | exact zX _ _ _
  | exact z0d _ _ _
  | exact z07 _ _ _
  | exact z04 _ _ _ _ _ _
  | exact z0y _ _ _ _ _
  | exact z0o _ _ _ _ _
  | exact z0A _ _ _
  | exact z0F _ _ _
  | exact z0v _ _ _
  | exact z0B _ _
  | exact z0u _ _ _
  | exact z0p _ _
  | exact z0Z _ _
  | exact z1A _
  | with_reducible refine Plain.bind ?_ (fun _ => ?_)
  | with_reducible refine Plain.map ?_
  | dsimp only
  | split
  | intro _)
theorem z2Q (ts : Array TypeId) (t : TypeId) (x : Array Value) : Plain P (Builtin.copy_ ts t x) := by
 unfold Builtin.copy_
 repeat' (first
  | exact zb _ | exact zA _ | exact zk _ | exact zo _ | exact zB _ | exact zF _
  | exact zP _ _
  | exact zL _ _ _
  | exact zM _ trivial
  | exact zu _
  | exact zt _ _ trivial
  | exact zm _
  | exact zl
  | exact zH
  | exact zg _
  | exact za _
  | exact zn _
  | exact zw _
  | exact zQ _
  | exact zD _ _
  | exact zq _ _ _
  | exact zI _ _
  | exact zG _ _ _
  | exact zN _ _
  | exact zO _ _
  | exact zR _
  | exact zY _ _ _
  | exact ze _
  | exact zh _ _ _ _
  | exact zT _
  | exact zZ _
  | exact zK _
  | exact z00 _
  | exact z0a _
  | exact zV _
  | exact z02 _
  | exact z06 _ _
  | exact z03 _ _ _
  | exact z0c _ _ _
  | exact z0t _ _
  | exact z0m _ _
  | exact zX _ _ _
  | exact z0d _ _ _
  | exact z07 _ _ _
  | exact z04 _ _ _ _ _ _
  | exact z0y _ _ _ _ _
  | exact z0o _ _ _ _ _
  | exact z0A _ _ _
  | exact z0F _ _ _
  | exact z0v _ _ _
  | exact z0B _ _
  | exact z0u _ _ _
  | exact z0p _ _
  | exact z0Z _ _
  | exact z1A _
  | exact z0W _ _ _
  | with_reducible refine Plain.bind ?_ (fun _ => ?_)
  | with_reducible refine Plain.map ?_
  | dsimp only
  | split
  | intro _)
theorem z4s (ts : Array TypeId) (t : TypeId) (x : Array Value) : Plain P (Builtin.len_ ts t x) := by
 unfold Builtin.len_
 repeat' (first
  | exact zb _ | exact zA _ | exact zk _ | exact zo _ | exact zB _ | exact zF _
  | exact zP _ _
  | exact zL _ _ _
  | exact zM _ trivial
  | exact zu _
  | exact zt _ _ trivial
  | exact zm _
  | exact zl
  | exact zH
  | exact zg _
  | exact za _
  | exact zn _
  | exact zw _
  | exact zQ _
  | exact zD _ _
  | exact zq _ _ _
  | exact zI _ _
  | exact zG _ _ _
  | exact zN _ _
  | exact zO _ _
  | exact zR _
  | exact zY _ _ _
  | exact ze _
  | exact zh _ _ _ _
  | exact zT _
  | exact zZ _
  | exact zK _
  | exact z00 _
  | exact z0a _
  | exact zV _
  | exact z02 _
  | exact z06 _ _
  | exact z03 _ _ _
  | exact z0c _ _ _
  | exact z0t _ _
  | exact z0m _ _
  | exact zX _ _ _
  | exact z0d _ _ _
  | exact z07 _ _ _
  | exact z04 _ _ _ _ _ _
  | exact z0y _ _ _ _ _
  | exact z0o _ _ _ _ _
  | exact z0A _ _ _
  | exact z0F _ _ _
  | exact z0v _ _ _
  | exact z0B _ _
  | exact z0u _ _ _
  | exact z0p _ _
  | exact z0Z _ _
  | exact z1A _
  | exact z0W _ _ _
  | exact z2Q _ _ _
  | with_reducible refine Plain.bind ?_ (fun _ => ?_)
  | with_reducible refine Plain.map ?_
  | dsimp only
  | split
  | intro _)
theorem z8o (ts : Array TypeId) (t : TypeId) (x : Array Value) : Plain P (Builtin.cap_ ts t x) := by
 unfold Builtin.cap_
 repeat' (first
  | exact zb _ | exact zA _ | exact zk _ | exact zo _ | exact zB _ | exact zF _
  | exact zP _ _
  | exact zL _ _ _
  | exact zM _ trivial
  | exact zu _
  | exact zt _ _ trivial
  | exact zm _
  | exact zl
  | exact zH
  | exact zg _
  | exact za _
  | exact zn _
  | exact zw _
  | exact zQ _
  | exact zD _ _
  | exact zq _ _ _
  | exact zI _ _
  | exact zG _ _ _
  | exact zN _ _
  | exact zO _ _
  | exact zR _
  | exact zY _ _ _
  | exact ze _
  | exact zh _ _ _ _
  | exact zT _
  | exact zZ _
  | exact zK _
  | exact z00 _
  | exact z0a _
  | exact zV _
  | exact z02 _
  | exact z06 _ _
  | exact z03 _ _ _
  | exact z0c _ _ _
  | exact z0t _ _
  | exact z0m _ _
  | exact zX _ _ _
  | exact z0d _ _ _
  | exact z07 _ _ _
  | exact z04 _ _ _ _ _ _
  | exact z0y _ _ _ _ _
  | exact z0o _ _ _ _ _
  | exact z0A _ _ _
  | exact z0F _ _ _
  | exact z0v _ _ _
  | exact z0B _ _
  | exact z0u _ _ _
  | exact z0p _ _
  | exact z0Z _ _
  | exact z1A _
  | exact z0W _ _ _
  | exact z2Q _ _ _
  | exact z4s _ _ _
  | with_reducible refine Plain.bind ?_ (fun _ => ?_)
  | with_reducible refine Plain.map ?_
  | dsimp only
  | split
  | intro _)
theorem z9s (ts : Array TypeId) (t : TypeId) (x : Array Value) : Plain P (Builtin.clear_ ts t x) := by
 unfold Builtin.clear_
 repeat' (first
  | exact zb _ | exact zA _ | exact zk _ | exact zo _ | exact zB _ | exact zF _
  | exact zP _ _
  | exact zL _ _ _
  | exact zM _ trivial
  | exact zu _
  | exact zt _ _ trivial
  | exact zm _
  | exact zl
  | exact zH
  | exact zg _
  | exact za _
  | exact zn _
  | exact zw _
  | exact zQ _
  | exact zD _ _
  | exact zq _ _ _
  | exact zI _ _
  | exact zG _ _ _
  | exact zN _ _
  | exact zO _ _
  | exact zR _
  | exact zY _ _ _
  | exact ze _
  | exact zh _ _ _ _
  | exact zT _
  | exact zZ _
  | exact zK _
  | exact z00 _
  | exact z0a _
  | exact zV _
  | exact z02 _
  | exact z06 _ _
  | exact z03 _ _ _
  | exact z0c _ _ _
  | exact z0t _ _
  | exact z0m _ _
  | exact zX _ _ _
  | exact z0d _ _ _
  | exact z07 _ _ _
  | exact z04 _ _ _ _ _ _
  | exact z0y _ _ _ _ _
  | exact z0o _ _ _ _ _
  | exact z0A _ _ _
  | exact z0F _ _ _
  | exact z0v _ _ _
  | exact z0B _ _
  | exact z0u _ _ _
  | exact z0p _ _
  | exact z0Z _ _
  | exact z1A _
  | exact z0W _ _ _
  | exact z2Q _ _ _
  | exact z4s _ _ _
  | exact z8o _ _ _
  | with_reducible refine Plain.bind ?_ (fun _ => ?_)
  | with_reducible refine Plain.map ?_
  | dsimp only
  | split
  | intro _)
end
end Go.Eng
namespace Go.Eng
open Go Go.RowKit
section
variable {α β : Type} {P : Program} {w : World}
def appGrow (elem : TypeId) (size need : Nat) (sLen sCap : Nat) (s : Value) (appended : Sem (Array Value)) : Sem Value := do
 let newCap ← choose (.appendCap need sCap elem)
 askRoom (newCap * (← typeInfo elem).bytes)
 let old ← Builtin.firstCells size sLen s
 let new ← appended
 let rest := Builtin.zeroCells (← zeroValue elem).cells (newCap - need)
 pure (.slice (some (← newRow elem (old ++ new ++ rest))) need newCap)
theorem z7J (elem : TypeId) (size need : Nat) (sLen sCap : Nat) (s : Value) (appended : Sem (Array Value)) (ha : Plain P appended) : Plain P (appGrow elem size need sLen sCap s appended) := by
 unfold appGrow
 repeat' (first
  | exact zb _ | exact zA _ | exact zk _ | exact zo _ | exact zB _ | exact zF _
  | exact ha
  | exact zP _ _
  | exact zL _ _ _
  | exact zM _ trivial
  | exact zu _
  | exact zt _ _ trivial
  | exact zm _
  | exact zl
  | exact zH
  | exact zg _
  | exact za _
  | exact zn _
  | exact zw _
  | exact zQ _
  | exact zD _ _
  | exact zq _ _ _
  | exact zI _ _
  | exact zG _ _ _
  | exact zN _ _
  | exact zO _ _
  | exact zR _
  | exact zY _ _ _
  | exact ze _
  | exact zh _ _ _ _
  | exact zT _
  | exact zZ _
  | exact zK _
  | exact z00 _
  | exact z0a _
  | exact zV _
  | exact z02 _
  | exact z06 _ _
  | exact z03 _ _ _
  | exact z0c _ _ _
  | exact z0t _ _
  | exact z0m _ _
  | exact zX _ _ _
  | exact z0d _ _ _
  | exact z07 _ _ _
  | exact z04 _ _ _ _ _ _
  | exact z0y _ _ _ _ _
  | exact z0o _ _ _ _ _
  | exact z0A _ _ _
  | exact z0F _ _ _
  | exact z0v _ _ _
  | exact z0B _ _
  | exact z0u _ _ _
  | exact z0p _ _
  | exact z0Z _ _
  | exact z1A _
  | exact z0W _ _ _
  | exact z2Q _ _ _
  | exact z4s _ _ _
  | with_reducible refine Plain.bind ?_ (fun _ => ?_)
  | with_reducible refine Plain.map ?_
  | with_reducible refine zc5 (fun _ => ?_) (fun _ => ?_)
  | exact z3W (z1g fun _ => z1g fun _ => z2Z _)
  | exact z3W (z1g fun _ => z2Z _)
  | dsimp only
  | split)
def appTight (elem : TypeId) (zeros : Bool) (size n : Nat) (base : Option Addr) (sLen sCap need : Nat) (x : Value) (grow : Sem Value) : Sem Value := do
 if Builtin.nextslicecap need sCap * (← typeInfo elem).bytes > 2 ^ 48 then (if zeros then runtimePanic (.error "growslice: len out of range") else do
   if !(← Builtin.mayShare size sLen n base x) then mark .noRoom
   unsupported (.resourceLimit "append: a slice or a string whose bytes no memory bears"))
 grow
theorem z6I (elem : TypeId) (zeros : Bool) (size n : Nat) (base : Option Addr) (sLen sCap need : Nat) (x : Value) (grow : Sem Value) (hg : Plain P grow) : Plain P (appTight elem zeros size n base sLen sCap need x grow) := by
 unfold appTight
 refine Plain.bind (zg _) fun i => ?_
 split
 ·refine z3W (z7I ?_)
  intro w y w' hr
  split at hr
  ·exact z9r _ _ _ _ hr
  ·refine z1g (fun b => ?_) _ _ _ hr
   intro w y w' hr
   dsimp only at hr
   split at hr
   ·exact z1g (fun _ => z2Z _) _ _ _ hr
   ·exact z2Z _ _ _ _ hr
 ·exact hg
def appMain (elem : TypeId) (zeros : Bool) (size n : Nat) (base : Option Addr) (sLen sCap : Nat) (x : Value) : Sem Value := do
 let appended : Sem (Array Value) :=
  if !zeros then Builtin.firstCells size n x
  else if n * size = 0 then pure #[]
  else do pure (Builtin.zeroCells (← zeroValue elem).cells n)
 let need := sLen + n
 if need ≤ sCap then
  let new ← appended
  if let some a := base then storeCells (a.add (sLen * size)) new.toList
  pure (.slice base need sCap)
 else
  if (need : Int) > IntKind.i64.max ∧ (zeros ∨ (← typeInfo elem).bytes = 0) then runtimePanic (.error "growslice: len out of range")
  appTight elem zeros size n base sLen sCap need x (appGrow elem size need sLen sCap (.slice base sLen sCap) appended)
theorem z7K (elem : TypeId) (zeros : Bool) (size n : Nat) (base : Option Addr) (sLen sCap : Nat) (x : Value) : Plain P (appMain elem zeros size n base sLen sCap x) := by
 unfold appMain
 have ha : Plain P (if (!zeros) = true then Builtin.firstCells size n x else if n * size = 0 then pure #[] else do pure (Builtin.zeroCells (← zeroValue elem).cells n) : Sem (Array Value)) := by
  split
  ·exact z0W _ _ _
  ·split
   ·exact zb _
   ·exact Plain.bind (zw _) fun _ => zb _
 have hg := z6I (P := P) elem zeros size n base sLen sCap (sLen + n) x _ (z7J elem size (sLen + n) sLen sCap (.slice base sLen sCap) _ ha)
 dsimp only
 split
 ·refine Plain.bind ha fun new => ?_
  split
  ·exact Plain.bind (zq _ _ _) fun _ => zb _
  ·exact zb _
 ·refine Plain.bind (zg _) fun i => ?_
  split
  ·exact Plain.bind (ze _) fun _ => hg
  ·exact hg
theorem z8p (ts : Array TypeId) (t : TypeId) (x : Array Value) : Plain P (Builtin.append_ ts t x) := by
 unfold Builtin.append_
 split
 ·refine Plain.bind (za _) fun u => ?_
  split
  ·split
   ·refine Plain.bind (zn _) fun size => ?_
    rename_i xv _ elem _ base sLen sCap _
    have hr : ∀ zeros n, Plain P (appMain elem zeros size n base sLen sCap xv) := fun _ _ => z7K _ _ _ _ _ _ _ _
    refine z3n _ _ ?_
    have hz : ∀ zeros : Bool, Plain P (do
      let n ← if zeros then do
        let l := IntKind.i64.wrap (← asInt xv)
        if l < 0 then runtimePanic (.error "makeslice: len out of range")
        if l * (← typeInfo elem).bytes > 2 ^ 48 then
         let made ← choose (.extern "append.ofMake.carriedOut" 2)
         runtimePanic (.error (if made == 1 then "makeslice: len out of range" else "growslice: len out of range"))
        pure l.toNat
       else Builtin.lenOf xv
      appMain elem zeros size n base sLen sCap xv : Sem Value) := by
     intro zeros
     dsimp only
     split
     ·refine Plain.bind (zZ _) fun _ => ?_
      have h2 : ∀ l : Int, Plain P (do
        let i ← typeInfo elem
        if l * i.bytes > 2 ^ 48 then do
         let made ← choose (.extern "append.ofMake.carriedOut" 2)
         let _ ← (runtimePanic (.error (if made == 1 then "makeslice: len out of range" else "growslice: len out of range")) : Sem Unit)
         let n ← pure l.toNat
         appMain elem zeros size n base sLen sCap xv
        else do
         let n ← pure l.toNat
         appMain elem zeros size n base sLen sCap xv : Sem Value) := by
       intro l
       refine Plain.bind (zg _) fun i => ?_
       split
       ·exact Plain.bind (zm _) fun _ => Plain.bind (ze _) fun _ => Plain.bind (zb _) fun _ => hr _ _
       ·exact Plain.bind (zb _) fun _ => hr _ _
      split
      ·exact Plain.bind (ze _) fun _ => h2 _
      ·exact h2 _
     ·exact Plain.bind (z1A _) fun _ => hr _ _
    split
    ·refine Plain.bind (za _) fun _ => Plain.bind (zb _) fun _ => ?_
     exact hz _
    ·refine Plain.bind (zb _) fun _ => ?_
     exact hz _
   ·exact zk _
  ·exact zk _
 ·exact zk _
end
end Go.Eng
namespace Go.Eng
open Go Go.RowKit
section
variable {α β : Type} {P : Program} {w : World}
theorem z3o {γ β : Type} {f : γ → β → Sem (ForInStep β)} (hf : ∀ x b, Plain P (f x b)) : ∀ (l : List γ) (b : β), Plain P (forIn l b f)
 | [], b => by rw [List.forIn_nil]; exact zb _
 | x :: l, b => by
  rw [List.forIn_cons]
  refine Plain.bind (hf x b) fun r => ?_
  cases r with
  | done b => exact zb _
  | yield b => exact z3o hf l b
theorem z3p {γ β : Type} {f : γ → β → Sem (ForInStep β)} (l : Array γ) (b : β) (hf : ∀ x b, Plain P (f x b)) : Plain P (forIn l b f) := by
 rw [← Array.forIn_toList]; exact z3o hf _ _
theorem z3q {β : Type} {f : Nat → β → Sem (ForInStep β)} (l : Std.Legacy.Range) (b : β) (hf : ∀ x b, Plain P (f x b)) : Plain P (forIn l b f) := by
 rw [Std.Legacy.Range.forIn_eq_forIn_range']; exact z3o hf _ _
def NPc : Value → Prop
 | .pointer (some _) => False
 | .iface .. => False
 | .agg _ => False
 | _ => True
def NP : Value → Prop
 | .agg cs => ∀ c ∈ cs.toList, NPc c
 | v => NPc v
theorem NPc.np {v : Value} (h : NPc v) : NP v := by cases v <;> first | exact h | exact h.elim
theorem zdX {t : TypeId} {cs : Array Value} {off : Nat} {x : Value} {w' : World} (h : NP (.agg cs)) (hr : (part t cs off).run P w = .ok x w') : NP x := by
 unfold part at hr
 rw [Sem.run_bind] at hr
 cases hx : (isAgg t).run P w with
 | halt a b => rw [hx] at hr; simp at hr
 | ok b w1 =>
  rw [hx] at hr
  simp only [Result.andThen_ok] at hr
  split at hr
  ·rw [Sem.run_bind] at hr
   cases hy : (sizeOf t).run P w1 with
   | halt a b => rw [hy] at hr; simp at hr
   | ok n w2 =>
    rw [hy] at hr
    simp only [Result.andThen_ok, Sem.run_pure] at hr
    injection hr with h1 h2
    subst h1
    intro c hc
    refine h c ?_
    simp only [Array.toList_extract] at hc
    exact List.mem_of_mem_drop (List.mem_of_mem_take (by simpa [List.extract_eq_take_drop] using hc))
  ·split at hr
   ·rename_i v hv
    simp only [Sem.run_pure] at hr
    injection hr with h1 h2
    subst h1
    exact (h _ (by rw [Array.mem_toList_iff]; exact Array.mem_of_getElem? hv)).np
   ·simp [stuck, Sem.run] at hr
theorem z1h {t : TypeId} {cs : Array Value} {off : Nat} {f : Value → Sem β} (h : NP (.agg cs)) (hf : ∀ x, NP x → Plain P (f x)) : Plain P (part t cs off >>= f) :=
 fun w y w' hr => z5M (zY _ _ _ w) (fun x w1 y w' h1 h2 => hf x (zdX h h1) w1 y w' h2) hr
theorem z3b : ∀ (d : Nat) (t : TypeId) (x y : Value), NP x → NP y → Plain P (Op.equalIn d t x y)
 | 0, t, x, y, _, _ => by unfold Op.equalIn; exact zo _
 | d + 1, t, x, y, hx, hy => by
  unfold Op.equalIn
  refine Plain.bind (za t) fun u => ?_
  split <;> first
   | exact zb _ | exact zk _ | exact zo _
   | (exact hx.elim) | (exact hy.elim)
   | (split <;> first | exact zb _ | exact zk _)
   | skip
  ·rename_i a b
   cases a with
   | some a => exact hx.elim
   | none => unfold samePointer; exact zb _
  ·rename_i fs xs ys
   refine Plain.bind zl fun p => ?_
   have loop : Plain P (do
     for f in fs do
      if f.name ≠ "_" then
       if !(← Op.equalIn d f.type (← part f.type xs f.offset) (← part f.type ys f.offset)) then return false
     pure true : Sem Bool) := by
    refine Plain.bind (z3p _ _ fun f b => ?_) fun r => ?_
    ·split
     ·refine z1h hx fun a ha => z1h hy fun b hb => Plain.bind (z3b d _ a b ha hb) fun e => ?_
      split <;> exact zb _
     ·exact zb _
    ·dsimp only; split <;> exact zb _
   split
   ·exact Plain.bind (zo _) fun _ => loop
   ·exact loop
  ·refine Plain.bind (zn _) fun n => ?_
   refine Plain.bind (z3q _ _ fun f b => ?_) fun r => ?_
   ·refine z1h hx fun a ha => z1h hy fun b hb => Plain.bind (z3b d _ a b ha hb) fun e => ?_
    split <;> exact zb _
   ·dsimp only; split <;> exact zb _
theorem z2q (t : TypeId) (x y : Value) (hx : NP x) (hy : NP y) : Plain P (Op.equal t x y) := z3b _ t x y hx hy
theorem z2r : ∀ (d : Nat) (t : TypeId) (x y : Value), Plain P (Op.eqGuardIn d t x y)
 | 0, t, x, y => by unfold Op.eqGuardIn; exact zo _
 | d + 1, t, x, y => by
  unfold Op.eqGuardIn
  refine Plain.bind (za t) fun u => ?_
  split
  ·exact zb _
  ·refine Plain.bind (z3p _ _ fun f b => ?_) fun r => ?_
   ·split
    ·refine Plain.bind (zY _ _ _) fun a => Plain.bind (zY _ _ _) fun b => Plain.bind (z2r d _ a b) fun e => ?_
     split <;> exact zb _
    ·exact zb _
   ·dsimp only; split <;> exact zb _
  ·refine Plain.bind (zn _) fun n => ?_
   refine Plain.bind (z3q _ _ fun f b => ?_) fun r => ?_
   ·refine Plain.bind (zY _ _ _) fun a => Plain.bind (zY _ _ _) fun b => Plain.bind (z2r d _ a b) fun e => ?_
    split <;> exact zb _
   ·dsimp only; split <;> exact zb _
  ·exact zb _
theorem z1c (op : BinOp) (t : TypeId) (x y : Operand) (a b : Value) : Plain P (eqGuard op t x y a b) := by
 unfold eqGuard
 repeat' (first
  | exact zb _ | exact zA _ | exact zk _ | exact zo _ | exact zB _ | exact zF _
  | exact ze _
  | exact zh _ _ _ _
  | exact zm _
  | exact zl
  | exact zg _
  | exact za _
  | exact zn _
  | exact z2r _ _ _ _
  | with_reducible refine Plain.bind ?_ (fun _ => ?_)
  | with_reducible refine Plain.map ?_
  | dsimp only
  | split
  | intro _)
theorem z1U (op : BinOp) (k : IntKind) (x : Int) (l : IntKind) (y : Int) : Plain P (Op.shift op k x l y) := by
 unfold Op.shift
 repeat' (first
  | exact zb _ | exact zA _ | exact zk _ | exact zo _ | exact zB _ | exact zF _
  | exact ze _
  | exact zh _ _ _ _
  | exact zm _
  | exact zl
  | exact zg _
  | exact za _
  | exact zn _
  | exact z1c _ _ _ _ _ _
  | with_reducible refine Plain.bind ?_ (fun _ => ?_)
  | with_reducible refine Plain.map ?_
  | dsimp only
  | split
  | intro _)
theorem z0j (op : BinOp) (k : IntKind) (x y : Int) : Plain P (Op.intArith op k x y) := by
 unfold Op.intArith
 repeat' (first
  | exact zb _ | exact zA _ | exact zk _ | exact zo _ | exact zB _ | exact zF _
  | exact ze _
  | exact zh _ _ _ _
  | exact zm _
  | exact zl
  | exact zg _
  | exact za _
  | exact zn _
  | exact z1c _ _ _ _ _ _
  | exact z1U _ _ _ _ _
  | with_reducible refine Plain.bind ?_ (fun _ => ?_)
  | with_reducible refine Plain.map ?_
  | dsimp only
  | split
  | intro _)
theorem z2E (op : BinOp) (k : IntKind) (x y : Int) : Plain P (Op.intDiv op k x y) := by
 unfold Op.intDiv
 repeat' (first
  | exact zb _ | exact zA _ | exact zk _ | exact zo _ | exact zB _ | exact zF _
  | exact ze _
  | exact zh _ _ _ _
  | exact zm _
  | exact zl
  | exact zg _
  | exact za _
  | exact zn _
  | exact z1c _ _ _ _ _ _
  | exact z1U _ _ _ _ _
  | exact z0j _ _ _ _
  | with_reducible refine Plain.bind ?_ (fun _ => ?_)
  | with_reducible refine Plain.map ?_
  | dsimp only
  | split
  | intro _)
theorem z0r (op : BinOp) (k : IntKind) (x y : Int) : Plain P (Op.intBits op k x y) := by
 unfold Op.intBits
 repeat' (first
  | exact zb _ | exact zA _ | exact zk _ | exact zo _ | exact zB _ | exact zF _
  | exact ze _
  | exact zh _ _ _ _
  | exact zm _
  | exact zl
  | exact zg _
  | exact za _
  | exact zn _
  | exact z1c _ _ _ _ _ _
  | exact z1U _ _ _ _ _
  | exact z0j _ _ _ _
  | exact z2E _ _ _ _
  | with_reducible refine Plain.bind ?_ (fun _ => ?_)
  | with_reducible refine Plain.map ?_
  | dsimp only
  | split
  | intro _)
theorem z4Z (op : BinOp) (x y : Int) : Plain P (Op.intCmp op x y) := by
 unfold Op.intCmp
 repeat' (first
  | exact zb _ | exact zA _ | exact zk _ | exact zo _ | exact zB _ | exact zF _
  | exact ze _
  | exact zh _ _ _ _
  | exact zm _
  | exact zl
  | exact zg _
  | exact za _
  | exact zn _
  | exact z1c _ _ _ _ _ _
  | exact z1U _ _ _ _ _
  | exact z0j _ _ _ _
  | exact z2E _ _ _ _
  | exact z0r _ _ _ _
  | with_reducible refine Plain.bind ?_ (fun _ => ?_)
  | with_reducible refine Plain.map ?_
  | dsimp only
  | split
  | intro _)
theorem z0w (op : BinOp) (x y : ByteArray) : Plain P (Op.stringOp op x y) := by
 unfold Op.stringOp
 repeat' (first
  | exact zb _ | exact zA _ | exact zk _ | exact zo _ | exact zB _ | exact zF _
  | exact ze _
  | exact zh _ _ _ _
  | exact zm _
  | exact zl
  | exact zg _
  | exact za _
  | exact zn _
  | exact z1c _ _ _ _ _ _
  | exact z1U _ _ _ _ _
  | exact z0j _ _ _ _
  | exact z2E _ _ _ _
  | exact z0r _ _ _ _
  | exact z4Z _ _ _
  | with_reducible refine Plain.bind ?_ (fun _ => ?_)
  | with_reducible refine Plain.map ?_
  | dsimp only
  | split
  | intro _)
theorem z5m (t : TypeId) (a : Option Addr) : Plain P (Op.equal t (.pointer a) (.pointer none)) := by
 cases a with
 | none => exact z2q _ _ _ trivial trivial
 | some a =>
  have : ∀ d, Plain P (Op.equalIn (d + 1) t (.pointer (some a)) (.pointer none)) := fun d => by
   unfold Op.equalIn
   refine Plain.bind (za t) fun u => ?_
   cases u <;> first | exact zb _ | exact zk _ | exact zo _ | (unfold samePointer; exact zb _)
  exact this 9999
inductive Simple : Value → Value → Prop
 | int (k l : IntKind) (a b : Int) : Simple (.int k a) (.int l b)
 | bool (a b : Bool) : Simple (.bool a) (.bool b)
 | str (a b : ByteArray) : Simple (.string a) (.string b)
 | slice (a b : Option Addr) (m n c d : Nat) : Simple (.slice a m c) (.slice b n d)
 | pnil (a : Option Addr) : Simple (.pointer a) (.pointer none)
 | agg (x y : Array Value) : NP (.agg x) → NP (.agg y) → Simple (.agg x) (.agg y)
theorem z9t (op : BinOp) (t : TypeId) (x y : Value) (h : Simple x y) : Plain P (binOp op t x y) := by
 cases h with
 | int k l a b =>
  unfold binOp
  cases op <;> (dsimp only; first | exact z1U _ _ _ _ _ | (split; exact zk _; first | exact z0j _ _ _ _ | exact z2E _ _ _ _ | exact z0r _ _ _ _ | exact z4Z _ _ _))
 | bool a b =>
  have he : Plain P (Op.equal t (.bool a) (.bool b)) := z2q _ _ _ trivial trivial
  unfold binOp
  cases op <;> first | exact zk _ | exact Plain.bind he fun _ => zb _
 | str a b => unfold binOp; cases op <;> exact z0w _ _ _
 | slice a b m n c d =>
  have he : Plain P (Op.equal t (.slice a m c) (.slice b n d)) := z2q _ _ _ trivial trivial
  unfold binOp
  cases op <;> first | exact zk _ | exact Plain.bind he fun _ => zb _
 | pnil a =>
  have he := z5m (P := P) t a
  unfold binOp
  cases a <;> cases op <;> dsimp only <;> first | exact zk _ | exact zo _ | exact Plain.bind he fun _ => zb _
 | agg x y hx hy =>
  have he : Plain P (Op.equal t (.agg x) (.agg y)) := z2q _ _ _ hx hy
  unfold binOp
  cases op <;> first | exact zk _ | exact Plain.bind he fun _ => zb _
end
end Go.Eng
namespace Go.Eng
open Go Go.RowKit
section
variable {α β : Type} {P : Program} {w : World}
theorem z0Q (op : UnOp) (x : Value) : Plain P (Op.unary op x) := by
 unfold Op.unary
 repeat' (first
  | exact zb _ | exact zA _ | exact zk _ | exact zo _ | exact zB _ | exact zF _
  | exact ze _
  | exact zh _ _ _ _
  | exact zm _
  | exact zl
  | exact zg _
  | exact za _
  | exact zn _
  | exact zK _
  | exact z0j _ _ _ _
  | exact z0r _ _ _ _
  | exact z0w _ _ _
  | exact zu _
  | exact zt _ _ trivial
  | exact zM _ trivial
  | with_reducible refine Plain.bind ?_ (fun _ => ?_)
  | with_reducible refine Plain.map ?_
  | dsimp only
  | split
  | intro _)
theorem z0z (k : IntKind) (n : Int) : Plain P (Conv.intToInt k n) := by
 unfold Conv.intToInt
 repeat' (first
  | exact zb _ | exact zA _ | exact zk _ | exact zo _ | exact zB _ | exact zF _
  | exact ze _
  | exact zh _ _ _ _
  | exact zm _
  | exact zl
  | exact zg _
  | exact za _
  | exact zn _
  | exact zK _
  | exact z0j _ _ _ _
  | exact z0r _ _ _ _
  | exact z0w _ _ _
  | exact zu _
  | exact zt _ _ trivial
  | exact zM _ trivial
  | exact z0Q _ _
  | with_reducible refine Plain.bind ?_ (fun _ => ?_)
  | with_reducible refine Plain.map ?_
  | dsimp only
  | split
  | intro _)
theorem z1o (x y : Value) : Plain P (Builtin.min2 x y) := by
 unfold Builtin.min2
 repeat' (first
  | exact zb _ | exact zA _ | exact zk _ | exact zo _ | exact zB _ | exact zF _
  | exact ze _
  | exact zh _ _ _ _
  | exact zm _
  | exact zl
  | exact zg _
  | exact za _
  | exact zn _
  | exact zK _
  | exact z0j _ _ _ _
  | exact z0r _ _ _ _
  | exact z0w _ _ _
  | exact zu _
  | exact zt _ _ trivial
  | exact zM _ trivial
  | exact z0Q _ _
  | exact z0z _ _
  | with_reducible refine Plain.bind ?_ (fun _ => ?_)
  | with_reducible refine Plain.map ?_
  | dsimp only
  | split
  | intro _)
theorem z1G (x y : Value) : Plain P (Builtin.max2 x y) := by
 unfold Builtin.max2
 repeat' (first
  | exact zb _ | exact zA _ | exact zk _ | exact zo _ | exact zB _ | exact zF _
  | exact ze _
  | exact zh _ _ _ _
  | exact zm _
  | exact zl
  | exact zg _
  | exact za _
  | exact zn _
  | exact zK _
  | exact z0j _ _ _ _
  | exact z0r _ _ _ _
  | exact z0w _ _ _
  | exact zu _
  | exact zt _ _ trivial
  | exact zM _ trivial
  | exact z0Q _ _
  | exact z0z _ _
  | exact z1o _ _
  | with_reducible refine Plain.bind ?_ (fun _ => ?_)
  | with_reducible refine Plain.map ?_
  | dsimp only
  | split
  | intro _)
theorem z3r {γ δ : Type} {f : δ → γ → Sem δ} (hf : ∀ x y, Plain P (f x y)) : ∀ (l : List γ) (x : δ), Plain P (l.foldlM f x)
 | [], x => by rw [List.foldlM_nil]; exact zb _
 | y :: l, x => by rw [List.foldlM_cons]; exact Plain.bind (hf _ _) fun _ => z3r hf l _
theorem zc6 (ts : Array TypeId) (t : TypeId) (x : Array Value) : Plain P (Builtin.min_ ts t x) := by
 unfold Builtin.min_
 split
 ·exact zk _
 ·exact z3r z1o _ _
theorem zc7 (ts : Array TypeId) (t : TypeId) (x : Array Value) : Plain P (Builtin.max_ ts t x) := by
 unfold Builtin.max_
 split
 ·exact zk _
 ·exact z3r z1G _ _
theorem z1p (l : Nat) : Plain P (Instr.getLoop l) := by
 unfold Instr.getLoop
 repeat' (first
  | exact zb _ | exact zA _ | exact zk _ | exact zo _ | exact zB _ | exact zF _
  | exact ze _
  | exact zh _ _ _ _
  | exact zm _
  | exact zl
  | exact zg _
  | exact za _
  | exact zn _
  | exact zK _
  | exact z0j _ _ _ _
  | exact z0r _ _ _ _
  | exact z0w _ _ _
  | exact zu _
  | exact zt _ _ trivial
  | exact zM _ trivial
  | exact z0Q _ _
  | exact z0z _ _
  | exact z1o _ _
  | exact z1G _ _
  | with_reducible refine Plain.bind ?_ (fun _ => ?_)
  | with_reducible refine Plain.map ?_
  | dsimp only
  | split
  | intro _)
theorem z16 (fn : FuncId) (t : Array Value) (ps : Array Tmp) (a b : Code) (r : Option Nat) : Plain P (Instr.enterLoop fn t ps a b r) := by
 unfold Instr.enterLoop
 repeat' (first
  | exact zb _ | exact zA _ | exact zk _ | exact zo _ | exact zB _ | exact zF _
  | exact ze _
  | exact zh _ _ _ _
  | exact zm _
  | exact zl
  | exact zg _
  | exact za _
  | exact zn _
  | exact zK _
  | exact z0j _ _ _ _
  | exact z0r _ _ _ _
  | exact z0w _ _ _
  | exact zu _
  | exact zt _ _ trivial
  | exact zM _ trivial
  | exact z0Q _ _
  | exact z0z _ _
  | exact z1o _ _
  | exact z1G _ _
  | exact z1p _
  | with_reducible refine Plain.bind ?_ (fun _ => ?_)
  | with_reducible refine Plain.map ?_
  | dsimp only
  | split
  | intro _)
theorem z2s (l : Nat) (x : Array Value) : Plain P (Instr.yield l x) := by
 unfold Instr.yield
 repeat' (first
  | exact zb _ | exact zA _ | exact zk _ | exact zo _ | exact zB _ | exact zF _
  | exact ze _
  | exact zh _ _ _ _
  | exact zm _
  | exact zl
  | exact zg _
  | exact za _
  | exact zn _
  | exact zK _
  | exact z0j _ _ _ _
  | exact z0r _ _ _ _
  | exact z0w _ _ _
  | exact zu _
  | exact zt _ _ trivial
  | exact zM _ trivial
  | exact z0Q _ _
  | exact z0z _ _
  | exact z1o _ _
  | exact z1G _ _
  | exact z1p _
  | exact z16 _ _ _ _ _ _
  | with_reducible refine Plain.bind ?_ (fun _ => ?_)
  | with_reducible refine Plain.map ?_
  | dsimp only
  | split
  | intro _)
theorem z1y (l : Nat) : Plain P (Instr.beginRound l) := by
 unfold Instr.beginRound
 repeat' (first
  | exact zb _ | exact zA _ | exact zk _ | exact zo _ | exact zB _ | exact zF _
  | exact ze _
  | exact zh _ _ _ _
  | exact zm _
  | exact zl
  | exact zg _
  | exact za _
  | exact zn _
  | exact zK _
  | exact z0j _ _ _ _
  | exact z0r _ _ _ _
  | exact z0w _ _ _
  | exact zu _
  | exact zt _ _ trivial
  | exact zM _ trivial
  | exact z0Q _ _
  | exact z0z _ _
  | exact z1o _ _
  | exact z1G _ _
  | exact z1p _
  | exact z16 _ _ _ _ _ _
  | exact z2s _ _
  | with_reducible refine Plain.bind ?_ (fun _ => ?_)
  | with_reducible refine Plain.map ?_
  | dsimp only
  | split
  | intro _)
theorem z1x (l : Nat) (j : Option Code) : Plain P (Instr.endRound l j) := by
 unfold Instr.endRound
 repeat' (first
  | exact zb _ | exact zA _ | exact zk _ | exact zo _ | exact zB _ | exact zF _
  | exact ze _
  | exact zh _ _ _ _
  | exact zm _
  | exact zl
  | exact zg _
  | exact za _
  | exact zn _
  | exact zK _
  | exact z0j _ _ _ _
  | exact z0r _ _ _ _
  | exact z0w _ _ _
  | exact zu _
  | exact zt _ _ trivial
  | exact zM _ trivial
  | exact z0Q _ _
  | exact z0z _ _
  | exact z1o _ _
  | exact z1G _ _
  | exact z1p _
  | exact z16 _ _ _ _ _ _
  | exact z2s _ _
  | exact z1y _
  | with_reducible refine Plain.bind ?_ (fun _ => ?_)
  | with_reducible refine Plain.map ?_
  | dsimp only
  | split
  | intro _)
theorem z4t (l : Nat) : Plain P (Instr.endLoop l) := by
 unfold Instr.endLoop
 repeat' (first
  | exact zb _ | exact zA _ | exact zk _ | exact zo _ | exact zB _ | exact zF _
  | exact ze _
  | exact zh _ _ _ _
  | exact zm _
  | exact zl
  | exact zg _
  | exact za _
  | exact zn _
  | exact zK _
  | exact z0j _ _ _ _
  | exact z0r _ _ _ _
  | exact z0w _ _ _
  | exact zu _
  | exact zt _ _ trivial
  | exact zM _ trivial
  | exact z0Q _ _
  | exact z0z _ _
  | exact z1o _ _
  | exact z1G _ _
  | exact z1p _
  | exact z16 _ _ _ _ _ _
  | exact z2s _ _
  | exact z1y _
  | exact z1x _ _
  | with_reducible refine Plain.bind ?_ (fun _ => ?_)
  | with_reducible refine Plain.map ?_
  | dsimp only
  | split
  | intro _)
theorem z4u (l : Nat) : Plain P (Instr.takeDeferred l) := by
 unfold Instr.takeDeferred
 repeat' (first
  | exact zb _ | exact zA _ | exact zk _ | exact zo _ | exact zB _ | exact zF _
  | exact ze _
  | exact zh _ _ _ _
  | exact zm _
  | exact zl
  | exact zg _
  | exact za _
  | exact zn _
  | exact zK _
  | exact z0j _ _ _ _
  | exact z0r _ _ _ _
  | exact z0w _ _ _
  | exact zu _
  | exact zt _ _ trivial
  | exact zM _ trivial
  | exact z0Q _ _
  | exact z0z _ _
  | exact z1o _ _
  | exact z1G _ _
  | exact z1p _
  | exact z16 _ _ _ _ _ _
  | exact z2s _ _
  | exact z1y _
  | exact z1x _ _
  | exact z4t _
  | with_reducible refine Plain.bind ?_ (fun _ => ?_)
  | with_reducible refine Plain.map ?_
  | dsimp only
  | split
  | intro _)
theorem z2d (em : Bool) : ∀ (n : Nat) (t : TypeId) (v : Value), NP v → Plain P (Instr.checkKey em n t v)
 | 0, t, v, _ => by unfold Instr.checkKey; exact zo _
 | n + 1, t, v, hv => by
  unfold Instr.checkKey
  refine Plain.bind (za t) fun u => ?_
  split
  ·exact hv.elim
  ·refine Plain.bind (z3q _ _ fun i b => ?_) fun _ => zb _
   refine Plain.bind (zn _) fun m => z1h hv fun x hx => Plain.bind (z2d em n _ x hx) fun _ => zb _
  ·refine Plain.bind (z3p _ _ fun f b => ?_) fun _ => zb _
   split
   ·exact z1h hv fun x hx => Plain.bind (z2d em n _ x hx) fun _ => zb _
   ·exact zb _
  ·exact zb _
  ·exact zk _
  ·exact zk _
  ·exact zk _
  ·exact zb _
theorem z3j (t : TypeId) (k : Value) (hk : NP k) : ∀ (es : List MapEntry) (i : Nat), (∀ e ∈ es, NP e.key) → Plain P (Instr.findAsking t k es i)
 | [], i, _ => by unfold Instr.findAsking; exact zb _
 | e :: es, i, h => by
  unfold Instr.findAsking
  refine Plain.bind (z2q _ _ _ hk (h e List.mem_cons_self)) fun b => ?_
  split
  ·exact zb _
  ·exact z3j t k hk es _ fun x hx => h x (List.mem_cons_of_mem _ hx)
theorem z4v (t : TypeId) (k : Value) (es : List MapEntry) (hk : NP k) (h : ∀ e ∈ es, NP e.key) : Plain P (Instr.findKey t k es) := by
 unfold Instr.findKey
 refine Plain.bind (za t) fun u => ?_
 split
 ·exact zb _
 ·exact z3j t k hk es _ h
theorem z4w (a b : Value) : Plain P (Instr.keyThatStays a b) := by
 unfold Instr.keyThatStays
 split
 ·exact zb _
 ·exact Plain.bind (zm _) fun _ => zb _
def Tame (P : Program) (s : Sem α) (w : World) : Prop := ∀ x w', s.run P w = .ok x w' → Fine P s w
theorem Plain.tame {s : Sem α} (h : Plain P s) (w : World) : Tame P s w := h w
theorem Tame.bind {s : Sem α} {f : α → Sem β} (hs : Tame P s w) (h : ∀ x w1, s.run P w = .ok x w1 → Tame P (f x) w1) : Tame P (s >>= f) w :=
 fun y w' hr => z5M hs (fun x w1 y w' h1 h2 => h x w1 h1 y w' h2) hr
theorem z3R {r : Nat} {o : Obj} {w1 : World} (h : (getObj r).run P w = .ok o w1) : w.heap[r]? = some o ∧ w1 = w := by
 obtain ⟨o', h1, h2, h3⟩ := z8m (k := Sem.pure) h
 simp only [Sem.run] at h3
 injection h3 with h4 h5; subst h4; subst h5
 exact ⟨h1, rfl⟩
theorem z0I {t : TypeId} {d : TypeDesc} {w1 : World} (h : (underlying t).run P w = .ok d w1) : P.underlying t = some d ∧ w1 = w := by
 unfold underlying at h
 simp only [program, Sem.run_bind, Sem.run, Result.andThen_ok] at h
 split at h
 ·rename_i x hx
  simp only [Sem.run_pure] at h
  injection h with h1 h2; subst h1; subst h2; exact ⟨hx, rfl⟩
 ·simp [stuck, Sem.run] at h
def MapNP (w : World) (v : Value) : Prop := ∀ r, v = .map (some r) → ∀ es cl, w.heap[r]? = some (.map es cl) → ∀ e ∈ es.toList, NP e.key
theorem z9u (t : TypeId) (x k : Value) (ok : Bool) (hk : NP k) (hm : MapNP w x) : Tame P (Instr.lookup t x k ok) w := by
 unfold Instr.lookup
 refine Tame.bind ((za t).tame w) fun u w1 hu => ?_
 obtain ⟨_, rfl⟩ := z0I hu
 split
 ·rename_i key elem _
  have hjp : ∀ es : Array MapEntry, (∀ e ∈ es.toList, NP e.key) → ∀ w, Tame P (do
    Instr.checkKey es.isEmpty 10000 key k
    let (v, okk) ← match ← Instr.findKey key k es.toList with
     | some (_, v) => pure (v, true)
     | none => pure (← zeroValue elem, false)
    pure (if ok then .tuple #[v, .bool okk] else v) : Sem Value) w := by
   intro es hes w
   refine Plain.tame ?_ w
   refine Plain.bind (z2d _ _ _ _ hk) fun _ => Plain.bind (z4v _ _ _ hk hes) fun r => ?_
   dsimp only
   split
   ·exact Plain.bind (zb _) fun _ => zb _
   ·exact Plain.bind (zw _) fun _ => Plain.bind (zb _) fun _ => zb _
  dsimp only
  split
  ·exact Tame.bind ((zb _).tame _) fun es w1 he => by
    simp only [Sem.run_pure] at he
    injection he with h1 h2; subst h1; subst h2
    exact hjp #[] (by simp) _
  ·rename_i r
   refine Tame.bind ((zu r).tame _) fun o w1 ho => ?_
   obtain ⟨ho, rfl⟩ := z3R ho
   split
   ·rename_i es cl _
    exact Tame.bind ((zb _).tame _) fun es' w1 he => by
     simp only [Sem.run_pure] at he
     injection he with h1 h2; subst h1; subst h2
     exact hjp es (hm r rfl es _ ho) _
   ·exact (zk _).tame _
  ·exact (zk _).tame _
 ·exact (zk _).tame _
theorem z6J (t : TypeId) (x k v : Value) (hk : NP k) (hm : MapNP w x) : Tame P (Instr.mapUpdate t x k v) w := by
 unfold Instr.mapUpdate
 refine Tame.bind ((za t).tame w) fun u w1 hu => ?_
 obtain ⟨_, rfl⟩ := z0I hu
 split
 ·split
  ·exact (ze _).tame _
  ·rename_i r
   refine Tame.bind ((zu r).tame _) fun o w1 ho => ?_
   obtain ⟨ho, rfl⟩ := z3R ho
   split
   ·rename_i es cl _
    refine Plain.tame ?_ _
    refine Plain.bind (z2d _ _ _ _ hk) fun _ => Plain.bind (z4v _ _ _ hk (hm r rfl es _ ho)) fun q => ?_
    split
    ·exact Plain.bind (z4w _ _) fun _ => zt _ _ trivial
    ·exact zt _ _ trivial
   ·exact (zk _).tame _
  ·exact (zk _).tame _
 ·exact (zk _).tame _
theorem z3s {k : IntKind} (s d : TypeId) (n : Int) (l : IntKind) (hd : P.underlying d = some (.int k)) : Tame P (convert s d (.int l n)) w := by
 unfold convert
 refine Tame.bind ((za s).tame w) fun u w1 hu => ?_
 obtain ⟨_, rfl⟩ := z0I hu
 refine Tame.bind ((za d).tame _) fun u2 w1 hu2 => ?_
 obtain ⟨h2, rfl⟩ := z0I hu2
 rw [hd] at h2
 injection h2 with h2; subst h2
 exact (z0z _ _).tame _
end
end Go.Eng
