/- Part of the evaluator, in company. -/
import Derived.Test.YtadmpiidofncpacCc
set_option linter.unusedSectionVars false
set_option linter.unusedSimpArgs false
set_option linter.unusedVariables false
namespace Go.Eng
open Go Go.RowKit
section
variable {α β : Type} {P : Program} {w : World}
theorem plain_load (a : Addr) (m : Mode) : Plain P (load a m) := fun w _ _ _ v _ => trivial
theorem plain_store (a : Addr) (v : Value) (m : Mode) : Plain P (store a v m) := fun w _ _ _ _ _ _ => trivial
theorem plain_new (o : Obj) (h : NotView o) : Plain P (newObj o) := fun w _ _ _ => ⟨h, trivial⟩
theorem plain_getObj (r : Nat) : Plain P (getObj r) := fun w _ _ _ o _ _ => trivial
theorem plain_setObj (r : Nat) (o : Obj) (h : NotView o) : Plain P (setObj r o) := fun w _ _ _ => ⟨h, fun _ => trivial⟩
theorem plain_choose (q : Question) : Plain P (choose q) := fun w _ _ _ => by
 show Fine P (Sem.choose q Sem.pure) w
 simp only [Fine]; split <;> trivial
theorem plain_program : Plain P program := fun w _ _ _ => trivial
theorem plain_noRoom : Plain P (mark .noRoom) := fun w _ _ _ => ⟨rfl, trivial⟩
theorem plain_typeInfo (t : TypeId) : Plain P (typeInfo t) := by
 unfold typeInfo
 repeat' (first
  | exact plain_pure _ | exact plain_pure' _ | exact plain_stuck _ | exact plain_unsup _ | exact plain_panic _ | exact plain_halt _
  | exact plain_load _ _
  | exact plain_store _ _ _
  | exact plain_new _ trivial
  | exact plain_getObj _
  | exact plain_setObj _ _ trivial
  | exact plain_choose _
  | exact plain_program
  | exact plain_noRoom
  | with_reducible refine Plain.bind ?_ (fun _ => ?_)
  | with_reducible refine Plain.map ?_
  | dsimp only
  | split
  | intro _)
theorem plain_underlying (t : TypeId) : Plain P (underlying t) := by
 unfold underlying
 repeat' (first
  | exact plain_pure _ | exact plain_pure' _ | exact plain_stuck _ | exact plain_unsup _ | exact plain_panic _ | exact plain_halt _
  | exact plain_load _ _
  | exact plain_store _ _ _
  | exact plain_new _ trivial
  | exact plain_getObj _
  | exact plain_setObj _ _ trivial
  | exact plain_choose _
  | exact plain_program
  | exact plain_noRoom
  | exact plain_typeInfo _
  | with_reducible refine Plain.bind ?_ (fun _ => ?_)
  | with_reducible refine Plain.map ?_
  | dsimp only
  | split
  | intro _)
theorem plain_sizeOf (t : TypeId) : Plain P (sizeOf t) := by
 unfold sizeOf
 repeat' (first
  | exact plain_pure _ | exact plain_pure' _ | exact plain_stuck _ | exact plain_unsup _ | exact plain_panic _ | exact plain_halt _
  | exact plain_load _ _
  | exact plain_store _ _ _
  | exact plain_new _ trivial
  | exact plain_getObj _
  | exact plain_setObj _ _ trivial
  | exact plain_choose _
  | exact plain_program
  | exact plain_noRoom
  | exact plain_typeInfo _
  | exact plain_underlying _
  | with_reducible refine Plain.bind ?_ (fun _ => ?_)
  | with_reducible refine Plain.map ?_
  | dsimp only
  | split
  | intro _)
theorem plain_zeroValue (t : TypeId) : Plain P (zeroValue t) := by
 unfold zeroValue
 repeat' (first
  | exact plain_pure _ | exact plain_pure' _ | exact plain_stuck _ | exact plain_unsup _ | exact plain_panic _ | exact plain_halt _
  | exact plain_load _ _
  | exact plain_store _ _ _
  | exact plain_new _ trivial
  | exact plain_getObj _
  | exact plain_setObj _ _ trivial
  | exact plain_choose _
  | exact plain_program
  | exact plain_noRoom
  | exact plain_typeInfo _
  | exact plain_underlying _
  | exact plain_sizeOf _
  | with_reducible refine Plain.bind ?_ (fun _ => ?_)
  | with_reducible refine Plain.map ?_
  | dsimp only
  | split
  | intro _)
theorem plain_isAgg (t : TypeId) : Plain P (isAgg t) := by
 unfold isAgg
 repeat' (first
  | exact plain_pure _ | exact plain_pure' _ | exact plain_stuck _ | exact plain_unsup _ | exact plain_panic _ | exact plain_halt _
  | exact plain_load _ _
  | exact plain_store _ _ _
  | exact plain_new _ trivial
  | exact plain_getObj _
  | exact plain_setObj _ _ trivial
  | exact plain_choose _
  | exact plain_program
  | exact plain_noRoom
  | exact plain_typeInfo _
  | exact plain_underlying _
  | exact plain_sizeOf _
  | exact plain_zeroValue _
  | with_reducible refine Plain.bind ?_ (fun _ => ?_)
  | with_reducible refine Plain.map ?_
  | dsimp only
  | split
  | intro _)
theorem plain_loadCellsFrom (a : Addr) : ∀ (n i : Nat) (acc : Array Value), Plain P (loadCellsFrom a i n acc) := by
 intro n
 induction n with
 | zero => intro i acc; unfold loadCellsFrom; exact plain_pure _
 | succ n ih =>
  intro i acc
  unfold loadCellsFrom
  exact Plain.bind (plain_load _ _) fun v => ih _ _
theorem plain_loadCells (a : Addr) (n : Nat) : Plain P (loadCells a n) := plain_loadCellsFrom a n 0 #[]
theorem plain_storeCells (a : Addr) : ∀ (vs : List Value) (i : Nat), Plain P (storeCells a vs i)
 | [], i => by unfold storeCells; exact plain_pure _
 | v :: vs, i => by unfold storeCells; exact Plain.bind (plain_store _ _ _) fun _ => plain_storeCells a vs _
theorem plain_mapM {γ δ : Type} {f : γ → Sem δ} (hf : ∀ x, Plain P (f x)) : ∀ l : List γ, Plain P (l.mapM f)
 | [] => by rw [List.mapM_nil]; exact plain_pure _
 | x :: l => by rw [List.mapM_cons]; exact Plain.bind (hf x) fun _ => Plain.bind (plain_mapM hf l) fun _ => plain_pure _
theorem plain_mapMA {γ δ : Type} {f : γ → Sem δ} (l : Array γ) (hf : ∀ x, Plain P (f x)) : Plain P (l.mapM f) := by
 rw [Array.mapM_eq_mapM_toList]; exact Plain.map (plain_mapM hf _)
theorem plain_loadVar (t : TypeId) (a : Addr) : Plain P (loadVar t a) := by
 unfold loadVar
 repeat' (first
  | exact plain_pure _ | exact plain_pure' _ | exact plain_stuck _ | exact plain_unsup _ | exact plain_panic _ | exact plain_halt _
  | exact plain_load _ _
  | exact plain_store _ _ _
  | exact plain_new _ trivial
  | exact plain_getObj _
  | exact plain_setObj _ _ trivial
  | exact plain_choose _
  | exact plain_program
  | exact plain_noRoom
  | exact plain_typeInfo _
  | exact plain_underlying _
  | exact plain_sizeOf _
  | exact plain_zeroValue _
  | exact plain_isAgg _
  | exact plain_loadCells _ _
  | exact plain_storeCells _ _ _
  | with_reducible refine Plain.bind ?_ (fun _ => ?_)
  | with_reducible refine Plain.map ?_
  | dsimp only
  | split
  | intro _)
theorem plain_storeVar (t : TypeId) (a : Addr) (v : Value) : Plain P (storeVar t a v) := by
 unfold storeVar
 repeat' (first
  | exact plain_pure _ | exact plain_pure' _ | exact plain_stuck _ | exact plain_unsup _ | exact plain_panic _ | exact plain_halt _
  | exact plain_load _ _
  | exact plain_store _ _ _
  | exact plain_new _ trivial
  | exact plain_getObj _
  | exact plain_setObj _ _ trivial
  | exact plain_choose _
  | exact plain_program
  | exact plain_noRoom
  | exact plain_typeInfo _
  | exact plain_underlying _
  | exact plain_sizeOf _
  | exact plain_zeroValue _
  | exact plain_isAgg _
  | exact plain_loadCells _ _
  | exact plain_storeCells _ _ _
  | exact plain_loadVar _ _
  | with_reducible refine Plain.bind ?_ (fun _ => ?_)
  | with_reducible refine Plain.map ?_
  | dsimp only
  | split
  | intro _)
theorem plain_newRow (t : TypeId) (c : Array Value) : Plain P (newRow t c) := by
 unfold newRow
 repeat' (first
  | exact plain_pure _ | exact plain_pure' _ | exact plain_stuck _ | exact plain_unsup _ | exact plain_panic _ | exact plain_halt _
  | exact plain_load _ _
  | exact plain_store _ _ _
  | exact plain_new _ trivial
  | exact plain_getObj _
  | exact plain_setObj _ _ trivial
  | exact plain_choose _
  | exact plain_program
  | exact plain_noRoom
  | exact plain_typeInfo _
  | exact plain_underlying _
  | exact plain_sizeOf _
  | exact plain_zeroValue _
  | exact plain_isAgg _
  | exact plain_loadCells _ _
  | exact plain_storeCells _ _ _
  | exact plain_loadVar _ _
  | exact plain_storeVar _ _ _
  | with_reducible refine Plain.bind ?_ (fun _ => ?_)
  | with_reducible refine Plain.map ?_
  | dsimp only
  | split
  | intro _)
theorem plain_newVar (t : TypeId) (v : Value) : Plain P (newVar t v) := by
 unfold newVar
 repeat' (first
  | exact plain_pure _ | exact plain_pure' _ | exact plain_stuck _ | exact plain_unsup _ | exact plain_panic _ | exact plain_halt _
  | exact plain_load _ _
  | exact plain_store _ _ _
  | exact plain_new _ trivial
  | exact plain_getObj _
  | exact plain_setObj _ _ trivial
  | exact plain_choose _
  | exact plain_program
  | exact plain_noRoom
  | exact plain_typeInfo _
  | exact plain_underlying _
  | exact plain_sizeOf _
  | exact plain_zeroValue _
  | exact plain_isAgg _
  | exact plain_loadCells _ _
  | exact plain_storeCells _ _ _
  | exact plain_loadVar _ _
  | exact plain_storeVar _ _ _
  | exact plain_newRow _ _
  | with_reducible refine Plain.bind ?_ (fun _ => ?_)
  | with_reducible refine Plain.map ?_
  | dsimp only
  | split
  | intro _)
theorem plain_elemOf (t : TypeId) : Plain P (elemOf t) := by
 unfold elemOf
 repeat' (first
  | exact plain_pure _ | exact plain_pure' _ | exact plain_stuck _ | exact plain_unsup _ | exact plain_panic _ | exact plain_halt _
  | exact plain_load _ _
  | exact plain_store _ _ _
  | exact plain_new _ trivial
  | exact plain_getObj _
  | exact plain_setObj _ _ trivial
  | exact plain_choose _
  | exact plain_program
  | exact plain_noRoom
  | exact plain_typeInfo _
  | exact plain_underlying _
  | exact plain_sizeOf _
  | exact plain_zeroValue _
  | exact plain_isAgg _
  | exact plain_loadCells _ _
  | exact plain_storeCells _ _ _
  | exact plain_loadVar _ _
  | exact plain_storeVar _ _ _
  | exact plain_newRow _ _
  | exact plain_newVar _ _
  | with_reducible refine Plain.bind ?_ (fun _ => ?_)
  | with_reducible refine Plain.map ?_
  | dsimp only
  | split
  | intro _)
theorem plain_part (t : TypeId) (cs : Array Value) (off : Nat) : Plain P (part t cs off) := by
 unfold part
 repeat' (first
  | exact plain_pure _ | exact plain_pure' _ | exact plain_stuck _ | exact plain_unsup _ | exact plain_panic _ | exact plain_halt _
  | exact plain_load _ _
  | exact plain_store _ _ _
  | exact plain_new _ trivial
  | exact plain_getObj _
  | exact plain_setObj _ _ trivial
  | exact plain_choose _
  | exact plain_program
  | exact plain_noRoom
  | exact plain_typeInfo _
  | exact plain_underlying _
  | exact plain_sizeOf _
  | exact plain_zeroValue _
  | exact plain_isAgg _
  | exact plain_loadCells _ _
  | exact plain_storeCells _ _ _
  | exact plain_loadVar _ _
  | exact plain_storeVar _ _ _
  | exact plain_newRow _ _
  | exact plain_newVar _ _
  | exact plain_elemOf _
  | with_reducible refine Plain.bind ?_ (fun _ => ?_)
  | with_reducible refine Plain.map ?_
  | dsimp only
  | split
  | intro _)
theorem plain_runtimePanic (e : RuntimeError) : Plain P (runtimePanic (α := α) e) := by
 unfold runtimePanic
 repeat' (first
  | exact plain_pure _ | exact plain_pure' _ | exact plain_stuck _ | exact plain_unsup _ | exact plain_panic _ | exact plain_halt _
  | exact plain_load _ _
  | exact plain_store _ _ _
  | exact plain_new _ trivial
  | exact plain_getObj _
  | exact plain_setObj _ _ trivial
  | exact plain_choose _
  | exact plain_program
  | exact plain_noRoom
  | exact plain_typeInfo _
  | exact plain_underlying _
  | exact plain_sizeOf _
  | exact plain_zeroValue _
  | exact plain_isAgg _
  | exact plain_loadCells _ _
  | exact plain_storeCells _ _ _
  | exact plain_loadVar _ _
  | exact plain_storeVar _ _ _
  | exact plain_newRow _ _
  | exact plain_newVar _ _
  | exact plain_elemOf _
  | exact plain_part _ _ _
  | with_reducible refine Plain.bind ?_ (fun _ => ?_)
  | with_reducible refine Plain.map ?_
  | dsimp only
  | split
  | intro _)
theorem plain_boundsPanic (k : IntKind) (x y : Int) (c : BoundsCode) : Plain P (boundsPanic (α := α) k x y c) := by
 unfold boundsPanic
 repeat' (first
  | exact plain_pure _ | exact plain_pure' _ | exact plain_stuck _ | exact plain_unsup _ | exact plain_panic _ | exact plain_halt _
  | exact plain_load _ _
  | exact plain_store _ _ _
  | exact plain_new _ trivial
  | exact plain_getObj _
  | exact plain_setObj _ _ trivial
  | exact plain_choose _
  | exact plain_program
  | exact plain_noRoom
  | exact plain_typeInfo _
  | exact plain_underlying _
  | exact plain_sizeOf _
  | exact plain_zeroValue _
  | exact plain_isAgg _
  | exact plain_loadCells _ _
  | exact plain_storeCells _ _ _
  | exact plain_loadVar _ _
  | exact plain_storeVar _ _ _
  | exact plain_newRow _ _
  | exact plain_newVar _ _
  | exact plain_elemOf _
  | exact plain_part _ _ _
  | exact plain_runtimePanic _
  | with_reducible refine Plain.bind ?_ (fun _ => ?_)
  | with_reducible refine Plain.map ?_
  | dsimp only
  | split
  | intro _)
theorem plain_asIntOf (v : Value) : Plain P (asIntOf v) := by
 unfold asIntOf
 repeat' (first
  | exact plain_pure _ | exact plain_pure' _ | exact plain_stuck _ | exact plain_unsup _ | exact plain_panic _ | exact plain_halt _
  | exact plain_load _ _
  | exact plain_store _ _ _
  | exact plain_new _ trivial
  | exact plain_getObj _
  | exact plain_setObj _ _ trivial
  | exact plain_choose _
  | exact plain_program
  | exact plain_noRoom
  | exact plain_typeInfo _
  | exact plain_underlying _
  | exact plain_sizeOf _
  | exact plain_zeroValue _
  | exact plain_isAgg _
  | exact plain_loadCells _ _
  | exact plain_storeCells _ _ _
  | exact plain_loadVar _ _
  | exact plain_storeVar _ _ _
  | exact plain_newRow _ _
  | exact plain_newVar _ _
  | exact plain_elemOf _
  | exact plain_part _ _ _
  | exact plain_runtimePanic _
  | exact plain_boundsPanic _ _ _ _
  | with_reducible refine Plain.bind ?_ (fun _ => ?_)
  | with_reducible refine Plain.map ?_
  | dsimp only
  | split
  | intro _)
theorem plain_asInt (v : Value) : Plain P (asInt v) := by
 unfold asInt
 repeat' (first
  | exact plain_pure _ | exact plain_pure' _ | exact plain_stuck _ | exact plain_unsup _ | exact plain_panic _ | exact plain_halt _
  | exact plain_load _ _
  | exact plain_store _ _ _
  | exact plain_new _ trivial
  | exact plain_getObj _
  | exact plain_setObj _ _ trivial
  | exact plain_choose _
  | exact plain_program
  | exact plain_noRoom
  | exact plain_typeInfo _
  | exact plain_underlying _
  | exact plain_sizeOf _
  | exact plain_zeroValue _
  | exact plain_isAgg _
  | exact plain_loadCells _ _
  | exact plain_storeCells _ _ _
  | exact plain_loadVar _ _
  | exact plain_storeVar _ _ _
  | exact plain_newRow _ _
  | exact plain_newVar _ _
  | exact plain_elemOf _
  | exact plain_part _ _ _
  | exact plain_runtimePanic _
  | exact plain_boundsPanic _ _ _ _
  | exact plain_asIntOf _
  | with_reducible refine Plain.bind ?_ (fun _ => ?_)
  | with_reducible refine Plain.map ?_
  | dsimp only
  | split
  | intro _)
theorem plain_asBool (v : Value) : Plain P (asBool v) := by
 unfold asBool
 repeat' (first
  | exact plain_pure _ | exact plain_pure' _ | exact plain_stuck _ | exact plain_unsup _ | exact plain_panic _ | exact plain_halt _
  | exact plain_load _ _
  | exact plain_store _ _ _
  | exact plain_new _ trivial
  | exact plain_getObj _
  | exact plain_setObj _ _ trivial
  | exact plain_choose _
  | exact plain_program
  | exact plain_noRoom
  | exact plain_typeInfo _
  | exact plain_underlying _
  | exact plain_sizeOf _
  | exact plain_zeroValue _
  | exact plain_isAgg _
  | exact plain_loadCells _ _
  | exact plain_storeCells _ _ _
  | exact plain_loadVar _ _
  | exact plain_storeVar _ _ _
  | exact plain_newRow _ _
  | exact plain_newVar _ _
  | exact plain_elemOf _
  | exact plain_part _ _ _
  | exact plain_runtimePanic _
  | exact plain_boundsPanic _ _ _ _
  | exact plain_asIntOf _
  | exact plain_asInt _
  | with_reducible refine Plain.bind ?_ (fun _ => ?_)
  | with_reducible refine Plain.map ?_
  | dsimp only
  | split
  | intro _)
theorem plain_asAddr (v : Value) : Plain P (asAddr v) := by
 unfold asAddr
 repeat' (first
  | exact plain_pure _ | exact plain_pure' _ | exact plain_stuck _ | exact plain_unsup _ | exact plain_panic _ | exact plain_halt _
  | exact plain_load _ _
  | exact plain_store _ _ _
  | exact plain_new _ trivial
  | exact plain_getObj _
  | exact plain_setObj _ _ trivial
  | exact plain_choose _
  | exact plain_program
  | exact plain_noRoom
  | exact plain_typeInfo _
  | exact plain_underlying _
  | exact plain_sizeOf _
  | exact plain_zeroValue _
  | exact plain_isAgg _
  | exact plain_loadCells _ _
  | exact plain_storeCells _ _ _
  | exact plain_loadVar _ _
  | exact plain_storeVar _ _ _
  | exact plain_newRow _ _
  | exact plain_newVar _ _
  | exact plain_elemOf _
  | exact plain_part _ _ _
  | exact plain_runtimePanic _
  | exact plain_boundsPanic _ _ _ _
  | exact plain_asIntOf _
  | exact plain_asInt _
  | exact plain_asBool _
  | with_reducible refine Plain.bind ?_ (fun _ => ?_)
  | with_reducible refine Plain.map ?_
  | dsimp only
  | split
  | intro _)
theorem plain_asAgg (v : Value) : Plain P (asAgg v) := by
 unfold asAgg
 repeat' (first
  | exact plain_pure _ | exact plain_pure' _ | exact plain_stuck _ | exact plain_unsup _ | exact plain_panic _ | exact plain_halt _
  | exact plain_load _ _
  | exact plain_store _ _ _
  | exact plain_new _ trivial
  | exact plain_getObj _
  | exact plain_setObj _ _ trivial
  | exact plain_choose _
  | exact plain_program
  | exact plain_noRoom
  | exact plain_typeInfo _
  | exact plain_underlying _
  | exact plain_sizeOf _
  | exact plain_zeroValue _
  | exact plain_isAgg _
  | exact plain_loadCells _ _
  | exact plain_storeCells _ _ _
  | exact plain_loadVar _ _
  | exact plain_storeVar _ _ _
  | exact plain_newRow _ _
  | exact plain_newVar _ _
  | exact plain_elemOf _
  | exact plain_part _ _ _
  | exact plain_runtimePanic _
  | exact plain_boundsPanic _ _ _ _
  | exact plain_asIntOf _
  | exact plain_asInt _
  | exact plain_asBool _
  | exact plain_asAddr _
  | with_reducible refine Plain.bind ?_ (fun _ => ?_)
  | with_reducible refine Plain.map ?_
  | dsimp only
  | split
  | intro _)
theorem plain_sureAddr (v : Value) : Plain P (Instr.sureAddr v) := by
 unfold Instr.sureAddr
 repeat' (first
  | exact plain_pure _ | exact plain_pure' _ | exact plain_stuck _ | exact plain_unsup _ | exact plain_panic _ | exact plain_halt _
  | exact plain_load _ _
  | exact plain_store _ _ _
  | exact plain_new _ trivial
  | exact plain_getObj _
  | exact plain_setObj _ _ trivial
  | exact plain_choose _
  | exact plain_program
  | exact plain_noRoom
  | exact plain_typeInfo _
  | exact plain_underlying _
  | exact plain_sizeOf _
  | exact plain_zeroValue _
  | exact plain_isAgg _
  | exact plain_loadCells _ _
  | exact plain_storeCells _ _ _
  | exact plain_loadVar _ _
  | exact plain_storeVar _ _ _
  | exact plain_newRow _ _
  | exact plain_newVar _ _
  | exact plain_elemOf _
  | exact plain_part _ _ _
  | exact plain_runtimePanic _
  | exact plain_boundsPanic _ _ _ _
  | exact plain_asIntOf _
  | exact plain_asInt _
  | exact plain_asBool _
  | exact plain_asAddr _
  | exact plain_asAgg _
  | with_reducible refine Plain.bind ?_ (fun _ => ?_)
  | with_reducible refine Plain.map ?_
  | dsimp only
  | split
  | intro _)
theorem plain_askRoom (n : Nat) : Plain P (askRoom n) := by
 unfold askRoom
 repeat' (first
  | exact plain_pure _ | exact plain_pure' _ | exact plain_stuck _ | exact plain_unsup _ | exact plain_panic _ | exact plain_halt _
  | exact plain_load _ _
  | exact plain_store _ _ _
  | exact plain_new _ trivial
  | exact plain_getObj _
  | exact plain_setObj _ _ trivial
  | exact plain_choose _
  | exact plain_program
  | exact plain_noRoom
  | exact plain_typeInfo _
  | exact plain_underlying _
  | exact plain_sizeOf _
  | exact plain_zeroValue _
  | exact plain_isAgg _
  | exact plain_loadCells _ _
  | exact plain_storeCells _ _ _
  | exact plain_loadVar _ _
  | exact plain_storeVar _ _ _
  | exact plain_newRow _ _
  | exact plain_newVar _ _
  | exact plain_elemOf _
  | exact plain_part _ _ _
  | exact plain_runtimePanic _
  | exact plain_boundsPanic _ _ _ _
  | exact plain_asIntOf _
  | exact plain_asInt _
  | exact plain_asBool _
  | exact plain_asAddr _
  | exact plain_asAgg _
  | exact plain_sureAddr _
  | with_reducible refine Plain.bind ?_ (fun _ => ?_)
  | with_reducible refine Plain.map ?_
  | dsimp only
  | split
  | intro _)
theorem plain_loadAt (t : TypeId) (v : Value) : Plain P (Instr.loadAt t v) := by
 unfold Instr.loadAt
 repeat' (first
  | exact plain_pure _ | exact plain_pure' _ | exact plain_stuck _ | exact plain_unsup _ | exact plain_panic _ | exact plain_halt _
  | exact plain_load _ _
  | exact plain_store _ _ _
  | exact plain_new _ trivial
  | exact plain_getObj _
  | exact plain_setObj _ _ trivial
  | exact plain_choose _
  | exact plain_program
  | exact plain_noRoom
  | exact plain_typeInfo _
  | exact plain_underlying _
  | exact plain_sizeOf _
  | exact plain_zeroValue _
  | exact plain_isAgg _
  | exact plain_loadCells _ _
  | exact plain_storeCells _ _ _
  | exact plain_loadVar _ _
  | exact plain_storeVar _ _ _
  | exact plain_newRow _ _
  | exact plain_newVar _ _
  | exact plain_elemOf _
  | exact plain_part _ _ _
  | exact plain_runtimePanic _
  | exact plain_boundsPanic _ _ _ _
  | exact plain_asIntOf _
  | exact plain_asInt _
  | exact plain_asBool _
  | exact plain_asAddr _
  | exact plain_asAgg _
  | exact plain_sureAddr _
  | exact plain_askRoom _
  | with_reducible refine Plain.bind ?_ (fun _ => ?_)
  | with_reducible refine Plain.map ?_
  | dsimp only
  | split
  | intro _)
theorem plain_storeAt (t : TypeId) (v x : Value) : Plain P (Instr.storeAt t v x) := by
 unfold Instr.storeAt
 repeat' (first
  | exact plain_pure _ | exact plain_pure' _ | exact plain_stuck _ | exact plain_unsup _ | exact plain_panic _ | exact plain_halt _
  | exact plain_load _ _
  | exact plain_store _ _ _
  | exact plain_new _ trivial
  | exact plain_getObj _
  | exact plain_setObj _ _ trivial
  | exact plain_choose _
  | exact plain_program
  | exact plain_noRoom
  | exact plain_typeInfo _
  | exact plain_underlying _
  | exact plain_sizeOf _
  | exact plain_zeroValue _
  | exact plain_isAgg _
  | exact plain_loadCells _ _
  | exact plain_storeCells _ _ _
  | exact plain_loadVar _ _
  | exact plain_storeVar _ _ _
  | exact plain_newRow _ _
  | exact plain_newVar _ _
  | exact plain_elemOf _
  | exact plain_part _ _ _
  | exact plain_runtimePanic _
  | exact plain_boundsPanic _ _ _ _
  | exact plain_asIntOf _
  | exact plain_asInt _
  | exact plain_asBool _
  | exact plain_asAddr _
  | exact plain_asAgg _
  | exact plain_sureAddr _
  | exact plain_askRoom _
  | exact plain_loadAt _ _
  | with_reducible refine Plain.bind ?_ (fun _ => ?_)
  | with_reducible refine Plain.map ?_
  | dsimp only
  | split
  | intro _)
theorem plain_alloc (t : TypeId) (b : Bool) (v : Value) : Plain P (Instr.alloc t b v) := by
 unfold Instr.alloc
 repeat' (first
  | exact plain_pure _ | exact plain_pure' _ | exact plain_stuck _ | exact plain_unsup _ | exact plain_panic _ | exact plain_halt _
  | exact plain_load _ _
  | exact plain_store _ _ _
  | exact plain_new _ trivial
  | exact plain_getObj _
  | exact plain_setObj _ _ trivial
  | exact plain_choose _
  | exact plain_program
  | exact plain_noRoom
  | exact plain_typeInfo _
  | exact plain_underlying _
  | exact plain_sizeOf _
  | exact plain_zeroValue _
  | exact plain_isAgg _
  | exact plain_loadCells _ _
  | exact plain_storeCells _ _ _
  | exact plain_loadVar _ _
  | exact plain_storeVar _ _ _
  | exact plain_newRow _ _
  | exact plain_newVar _ _
  | exact plain_elemOf _
  | exact plain_part _ _ _
  | exact plain_runtimePanic _
  | exact plain_boundsPanic _ _ _ _
  | exact plain_asIntOf _
  | exact plain_asInt _
  | exact plain_asBool _
  | exact plain_asAddr _
  | exact plain_asAgg _
  | exact plain_sureAddr _
  | exact plain_askRoom _
  | exact plain_loadAt _ _
  | exact plain_storeAt _ _ _
  | with_reducible refine Plain.bind ?_ (fun _ => ?_)
  | with_reducible refine Plain.map ?_
  | dsimp only
  | split
  | intro _)
theorem plain_box (t : TypeId) (v : Value) : Plain P (Instr.box t v) := by
 unfold Instr.box
 repeat' (first
  | exact plain_pure _ | exact plain_pure' _ | exact plain_stuck _ | exact plain_unsup _ | exact plain_panic _ | exact plain_halt _
  | exact plain_load _ _
  | exact plain_store _ _ _
  | exact plain_new _ trivial
  | exact plain_getObj _
  | exact plain_setObj _ _ trivial
  | exact plain_choose _
  | exact plain_program
  | exact plain_noRoom
  | exact plain_typeInfo _
  | exact plain_underlying _
  | exact plain_sizeOf _
  | exact plain_zeroValue _
  | exact plain_isAgg _
  | exact plain_loadCells _ _
  | exact plain_storeCells _ _ _
  | exact plain_loadVar _ _
  | exact plain_storeVar _ _ _
  | exact plain_newRow _ _
  | exact plain_newVar _ _
  | exact plain_elemOf _
  | exact plain_part _ _ _
  | exact plain_runtimePanic _
  | exact plain_boundsPanic _ _ _ _
  | exact plain_asIntOf _
  | exact plain_asInt _
  | exact plain_asBool _
  | exact plain_asAddr _
  | exact plain_asAgg _
  | exact plain_sureAddr _
  | exact plain_askRoom _
  | exact plain_loadAt _ _
  | exact plain_storeAt _ _ _
  | exact plain_alloc _ _ _
  | with_reducible refine Plain.bind ?_ (fun _ => ?_)
  | with_reducible refine Plain.map ?_
  | dsimp only
  | split
  | intro _)
theorem plain_build (t : TypeId) (ps : Array (Nat × Value)) : Plain P (Instr.build t ps) := by
 unfold Instr.build
 repeat' (first
  | exact plain_pure _ | exact plain_pure' _ | exact plain_stuck _ | exact plain_unsup _ | exact plain_panic _ | exact plain_halt _
  | exact plain_load _ _
  | exact plain_store _ _ _
  | exact plain_new _ trivial
  | exact plain_getObj _
  | exact plain_setObj _ _ trivial
  | exact plain_choose _
  | exact plain_program
  | exact plain_noRoom
  | exact plain_typeInfo _
  | exact plain_underlying _
  | exact plain_sizeOf _
  | exact plain_zeroValue _
  | exact plain_isAgg _
  | exact plain_loadCells _ _
  | exact plain_storeCells _ _ _
  | exact plain_loadVar _ _
  | exact plain_storeVar _ _ _
  | exact plain_newRow _ _
  | exact plain_newVar _ _
  | exact plain_elemOf _
  | exact plain_part _ _ _
  | exact plain_runtimePanic _
  | exact plain_boundsPanic _ _ _ _
  | exact plain_asIntOf _
  | exact plain_asInt _
  | exact plain_asBool _
  | exact plain_asAddr _
  | exact plain_asAgg _
  | exact plain_sureAddr _
  | exact plain_askRoom _
  | exact plain_loadAt _ _
  | exact plain_storeAt _ _ _
  | exact plain_alloc _ _ _
  | exact plain_box _ _
  | refine plain_mapMA _ ?_
  | with_reducible refine Plain.bind ?_ (fun _ => ?_)
  | with_reducible refine Plain.map ?_
  | dsimp only
  | split
  | intro _)
theorem plain_buildSlice (t : TypeId) (len : Nat) (ps : Array (Nat × Value)) : Plain P (Instr.buildSlice t len ps) := by
 unfold Instr.buildSlice
 repeat' (first
  | exact plain_pure _ | exact plain_pure' _ | exact plain_stuck _ | exact plain_unsup _ | exact plain_panic _ | exact plain_halt _
  | exact plain_load _ _
  | exact plain_store _ _ _
  | exact plain_new _ trivial
  | exact plain_getObj _
  | exact plain_setObj _ _ trivial
  | exact plain_choose _
  | exact plain_program
  | exact plain_noRoom
  | exact plain_typeInfo _
  | exact plain_underlying _
  | exact plain_sizeOf _
  | exact plain_zeroValue _
  | exact plain_isAgg _
  | exact plain_loadCells _ _
  | exact plain_storeCells _ _ _
  | exact plain_loadVar _ _
  | exact plain_storeVar _ _ _
  | exact plain_newRow _ _
  | exact plain_newVar _ _
  | exact plain_elemOf _
  | exact plain_part _ _ _
  | exact plain_runtimePanic _
  | exact plain_boundsPanic _ _ _ _
  | exact plain_asIntOf _
  | exact plain_asInt _
  | exact plain_asBool _
  | exact plain_asAddr _
  | exact plain_asAgg _
  | exact plain_sureAddr _
  | exact plain_askRoom _
  | exact plain_loadAt _ _
  | exact plain_storeAt _ _ _
  | exact plain_alloc _ _ _
  | exact plain_box _ _
  | exact plain_build _ _
  | with_reducible refine Plain.bind ?_ (fun _ => ?_)
  | with_reducible refine Plain.map ?_
  | dsimp only
  | split
  | intro _)
theorem plain_indexAt (t : TypeId) (x i : Value) : Plain P (Instr.indexAt t x i) := by
 unfold Instr.indexAt
 repeat' (first
  | exact plain_pure _ | exact plain_pure' _ | exact plain_stuck _ | exact plain_unsup _ | exact plain_panic _ | exact plain_halt _
  | exact plain_load _ _
  | exact plain_store _ _ _
  | exact plain_new _ trivial
  | exact plain_getObj _
  | exact plain_setObj _ _ trivial
  | exact plain_choose _
  | exact plain_program
  | exact plain_noRoom
  | exact plain_typeInfo _
  | exact plain_underlying _
  | exact plain_sizeOf _
  | exact plain_zeroValue _
  | exact plain_isAgg _
  | exact plain_loadCells _ _
  | exact plain_storeCells _ _ _
  | exact plain_loadVar _ _
  | exact plain_storeVar _ _ _
  | exact plain_newRow _ _
  | exact plain_newVar _ _
  | exact plain_elemOf _
  | exact plain_part _ _ _
  | exact plain_runtimePanic _
  | exact plain_boundsPanic _ _ _ _
  | exact plain_asIntOf _
  | exact plain_asInt _
  | exact plain_asBool _
  | exact plain_asAddr _
  | exact plain_asAgg _
  | exact plain_sureAddr _
  | exact plain_askRoom _
  | exact plain_loadAt _ _
  | exact plain_storeAt _ _ _
  | exact plain_alloc _ _ _
  | exact plain_box _ _
  | exact plain_build _ _
  | exact plain_buildSlice _ _ _
  | with_reducible refine Plain.bind ?_ (fun _ => ?_)
  | with_reducible refine Plain.map ?_
  | dsimp only
  | split
  | intro _)
theorem plain_sliceBound (x : Value) (y : Nat) (c : BoundsCode) : Plain P (Instr.sliceBound x y c) := by
 unfold Instr.sliceBound
 repeat' (first
  | exact plain_pure _ | exact plain_pure' _ | exact plain_stuck _ | exact plain_unsup _ | exact plain_panic _ | exact plain_halt _
  | exact plain_load _ _
  | exact plain_store _ _ _
  | exact plain_new _ trivial
  | exact plain_getObj _
  | exact plain_setObj _ _ trivial
  | exact plain_choose _
  | exact plain_program
  | exact plain_noRoom
  | exact plain_typeInfo _
  | exact plain_underlying _
  | exact plain_sizeOf _
  | exact plain_zeroValue _
  | exact plain_isAgg _
  | exact plain_loadCells _ _
  | exact plain_storeCells _ _ _
  | exact plain_loadVar _ _
  | exact plain_storeVar _ _ _
  | exact plain_newRow _ _
  | exact plain_newVar _ _
  | exact plain_elemOf _
  | exact plain_part _ _ _
  | exact plain_runtimePanic _
  | exact plain_boundsPanic _ _ _ _
  | exact plain_asIntOf _
  | exact plain_asInt _
  | exact plain_asBool _
  | exact plain_asAddr _
  | exact plain_asAgg _
  | exact plain_sureAddr _
  | exact plain_askRoom _
  | exact plain_loadAt _ _
  | exact plain_storeAt _ _ _
  | exact plain_alloc _ _ _
  | exact plain_box _ _
  | exact plain_build _ _
  | exact plain_buildSlice _ _ _
  | exact plain_indexAt _ _ _
  | with_reducible refine Plain.bind ?_ (fun _ => ?_)
  | with_reducible refine Plain.map ?_
  | dsimp only
  | split
  | intro _)
theorem plain_sliceBounds (b : Bool) (n m : Nat) (x y z : Option Value) : Plain P (Instr.sliceBounds b n m x y z) := by
 unfold Instr.sliceBounds
 repeat' (first
  | exact plain_pure _ | exact plain_pure' _ | exact plain_stuck _ | exact plain_unsup _ | exact plain_panic _ | exact plain_halt _
  | exact plain_load _ _
  | exact plain_store _ _ _
  | exact plain_new _ trivial
  | exact plain_getObj _
  | exact plain_setObj _ _ trivial
  | exact plain_choose _
  | exact plain_program
  | exact plain_noRoom
  | exact plain_typeInfo _
  | exact plain_underlying _
  | exact plain_sizeOf _
  | exact plain_zeroValue _
  | exact plain_isAgg _
  | exact plain_loadCells _ _
  | exact plain_storeCells _ _ _
  | exact plain_loadVar _ _
  | exact plain_storeVar _ _ _
  | exact plain_newRow _ _
  | exact plain_newVar _ _
  | exact plain_elemOf _
  | exact plain_part _ _ _
  | exact plain_runtimePanic _
  | exact plain_boundsPanic _ _ _ _
  | exact plain_asIntOf _
  | exact plain_asInt _
  | exact plain_asBool _
  | exact plain_asAddr _
  | exact plain_asAgg _
  | exact plain_sureAddr _
  | exact plain_askRoom _
  | exact plain_loadAt _ _
  | exact plain_storeAt _ _ _
  | exact plain_alloc _ _ _
  | exact plain_box _ _
  | exact plain_build _ _
  | exact plain_buildSlice _ _ _
  | exact plain_indexAt _ _ _
  | exact plain_sliceBound _ _ _
  | with_reducible refine Plain.bind ?_ (fun _ => ?_)
  | with_reducible refine Plain.map ?_
  | dsimp only
  | split
  | intro _)
theorem plain_slice (t : TypeId) (v : Value) (x y z : Option Value) : Plain P (Instr.slice t v x y z) := by
 unfold Instr.slice
 repeat' (first
  | exact plain_pure _ | exact plain_pure' _ | exact plain_stuck _ | exact plain_unsup _ | exact plain_panic _ | exact plain_halt _
  | exact plain_load _ _
  | exact plain_store _ _ _
  | exact plain_new _ trivial
  | exact plain_getObj _
  | exact plain_setObj _ _ trivial
  | exact plain_choose _
  | exact plain_program
  | exact plain_noRoom
  | exact plain_typeInfo _
  | exact plain_underlying _
  | exact plain_sizeOf _
  | exact plain_zeroValue _
  | exact plain_isAgg _
  | exact plain_loadCells _ _
  | exact plain_storeCells _ _ _
  | exact plain_loadVar _ _
  | exact plain_storeVar _ _ _
  | exact plain_newRow _ _
  | exact plain_newVar _ _
  | exact plain_elemOf _
  | exact plain_part _ _ _
  | exact plain_runtimePanic _
  | exact plain_boundsPanic _ _ _ _
  | exact plain_asIntOf _
  | exact plain_asInt _
  | exact plain_asBool _
  | exact plain_asAddr _
  | exact plain_asAgg _
  | exact plain_sureAddr _
  | exact plain_askRoom _
  | exact plain_loadAt _ _
  | exact plain_storeAt _ _ _
  | exact plain_alloc _ _ _
  | exact plain_box _ _
  | exact plain_build _ _
  | exact plain_buildSlice _ _ _
  | exact plain_indexAt _ _ _
  | exact plain_sliceBound _ _ _
  | exact plain_sliceBounds _ _ _ _ _ _
  | with_reducible refine Plain.bind ?_ (fun _ => ?_)
  | with_reducible refine Plain.map ?_
  | dsimp only
  | split
  | intro _)
theorem plain_sliceAt (t : TypeId) (v : Value) (x y z : Option Value) : Plain P (Instr.sliceAt t v x y z) := by
 unfold Instr.sliceAt
 repeat' (first
  | exact plain_pure _ | exact plain_pure' _ | exact plain_stuck _ | exact plain_unsup _ | exact plain_panic _ | exact plain_halt _
  | exact plain_load _ _
  | exact plain_store _ _ _
  | exact plain_new _ trivial
  | exact plain_getObj _
  | exact plain_setObj _ _ trivial
  | exact plain_choose _
  | exact plain_program
  | exact plain_noRoom
  | exact plain_typeInfo _
  | exact plain_underlying _
  | exact plain_sizeOf _
  | exact plain_zeroValue _
  | exact plain_isAgg _
  | exact plain_loadCells _ _
  | exact plain_storeCells _ _ _
  | exact plain_loadVar _ _
  | exact plain_storeVar _ _ _
  | exact plain_newRow _ _
  | exact plain_newVar _ _
  | exact plain_elemOf _
  | exact plain_part _ _ _
  | exact plain_runtimePanic _
  | exact plain_boundsPanic _ _ _ _
  | exact plain_asIntOf _
  | exact plain_asInt _
  | exact plain_asBool _
  | exact plain_asAddr _
  | exact plain_asAgg _
  | exact plain_sureAddr _
  | exact plain_askRoom _
  | exact plain_loadAt _ _
  | exact plain_storeAt _ _ _
  | exact plain_alloc _ _ _
  | exact plain_box _ _
  | exact plain_build _ _
  | exact plain_buildSlice _ _ _
  | exact plain_indexAt _ _ _
  | exact plain_sliceBound _ _ _
  | exact plain_sliceBounds _ _ _ _ _ _
  | exact plain_slice _ _ _ _ _
  | with_reducible refine Plain.bind ?_ (fun _ => ?_)
  | with_reducible refine Plain.map ?_
  | dsimp only
  | split
  | intro _)
theorem plain_field (t : TypeId) (v : Value) (n : Nat) : Plain P (Instr.field t v n) := by
 unfold Instr.field
 repeat' (first
  | exact plain_pure _ | exact plain_pure' _ | exact plain_stuck _ | exact plain_unsup _ | exact plain_panic _ | exact plain_halt _
  | exact plain_load _ _
  | exact plain_store _ _ _
  | exact plain_new _ trivial
  | exact plain_getObj _
  | exact plain_setObj _ _ trivial
  | exact plain_choose _
  | exact plain_program
  | exact plain_noRoom
  | exact plain_typeInfo _
  | exact plain_underlying _
  | exact plain_sizeOf _
  | exact plain_zeroValue _
  | exact plain_isAgg _
  | exact plain_loadCells _ _
  | exact plain_storeCells _ _ _
  | exact plain_loadVar _ _
  | exact plain_storeVar _ _ _
  | exact plain_newRow _ _
  | exact plain_newVar _ _
  | exact plain_elemOf _
  | exact plain_part _ _ _
  | exact plain_runtimePanic _
  | exact plain_boundsPanic _ _ _ _
  | exact plain_asIntOf _
  | exact plain_asInt _
  | exact plain_asBool _
  | exact plain_asAddr _
  | exact plain_asAgg _
  | exact plain_sureAddr _
  | exact plain_askRoom _
  | exact plain_loadAt _ _
  | exact plain_storeAt _ _ _
  | exact plain_alloc _ _ _
  | exact plain_box _ _
  | exact plain_build _ _
  | exact plain_buildSlice _ _ _
  | exact plain_indexAt _ _ _
  | exact plain_sliceBound _ _ _
  | exact plain_sliceBounds _ _ _ _ _ _
  | exact plain_slice _ _ _ _ _
  | exact plain_sliceAt _ _ _ _ _
  | with_reducible refine Plain.bind ?_ (fun _ => ?_)
  | with_reducible refine Plain.map ?_
  | dsimp only
  | split
  | intro _)
theorem plain_index (t : TypeId) (v i : Value) : Plain P (Instr.index t v i) := by
 unfold Instr.index
 repeat' (first
  | exact plain_pure _ | exact plain_pure' _ | exact plain_stuck _ | exact plain_unsup _ | exact plain_panic _ | exact plain_halt _
  | exact plain_load _ _
  | exact plain_store _ _ _
  | exact plain_new _ trivial
  | exact plain_getObj _
  | exact plain_setObj _ _ trivial
  | exact plain_choose _
  | exact plain_program
  | exact plain_noRoom
  | exact plain_typeInfo _
  | exact plain_underlying _
  | exact plain_sizeOf _
  | exact plain_zeroValue _
  | exact plain_isAgg _
  | exact plain_loadCells _ _
  | exact plain_storeCells _ _ _
  | exact plain_loadVar _ _
  | exact plain_storeVar _ _ _
  | exact plain_newRow _ _
  | exact plain_newVar _ _
  | exact plain_elemOf _
  | exact plain_part _ _ _
  | exact plain_runtimePanic _
  | exact plain_boundsPanic _ _ _ _
  | exact plain_asIntOf _
  | exact plain_asInt _
  | exact plain_asBool _
  | exact plain_asAddr _
  | exact plain_asAgg _
  | exact plain_sureAddr _
  | exact plain_askRoom _
  | exact plain_loadAt _ _
  | exact plain_storeAt _ _ _
  | exact plain_alloc _ _ _
  | exact plain_box _ _
  | exact plain_build _ _
  | exact plain_buildSlice _ _ _
  | exact plain_indexAt _ _ _
  | exact plain_sliceBound _ _ _
  | exact plain_sliceBounds _ _ _ _ _ _
  | exact plain_slice _ _ _ _ _
  | exact plain_sliceAt _ _ _ _ _
  | exact plain_field _ _ _
  | with_reducible refine Plain.bind ?_ (fun _ => ?_)
  | with_reducible refine Plain.map ?_
  | dsimp only
  | split
  | intro _)
theorem plain_makeFunc (f : Fn) (x y : Array Value) : Plain P (Instr.makeFunc f x y) := by
 unfold Instr.makeFunc
 repeat' (first
  | exact plain_pure _ | exact plain_pure' _ | exact plain_stuck _ | exact plain_unsup _ | exact plain_panic _ | exact plain_halt _
  | exact plain_load _ _
  | exact plain_store _ _ _
  | exact plain_new _ trivial
  | exact plain_getObj _
  | exact plain_setObj _ _ trivial
  | exact plain_choose _
  | exact plain_program
  | exact plain_noRoom
  | exact plain_typeInfo _
  | exact plain_underlying _
  | exact plain_sizeOf _
  | exact plain_zeroValue _
  | exact plain_isAgg _
  | exact plain_loadCells _ _
  | exact plain_storeCells _ _ _
  | exact plain_loadVar _ _
  | exact plain_storeVar _ _ _
  | exact plain_newRow _ _
  | exact plain_newVar _ _
  | exact plain_elemOf _
  | exact plain_part _ _ _
  | exact plain_runtimePanic _
  | exact plain_boundsPanic _ _ _ _
  | exact plain_asIntOf _
  | exact plain_asInt _
  | exact plain_asBool _
  | exact plain_asAddr _
  | exact plain_asAgg _
  | exact plain_sureAddr _
  | exact plain_askRoom _
  | exact plain_loadAt _ _
  | exact plain_storeAt _ _ _
  | exact plain_alloc _ _ _
  | exact plain_box _ _
  | exact plain_build _ _
  | exact plain_buildSlice _ _ _
  | exact plain_indexAt _ _ _
  | exact plain_sliceBound _ _ _
  | exact plain_sliceBounds _ _ _ _ _ _
  | exact plain_slice _ _ _ _ _
  | exact plain_sliceAt _ _ _ _ _
  | exact plain_field _ _ _
  | exact plain_index _ _ _
  | with_reducible refine Plain.bind ?_ (fun _ => ?_)
  | with_reducible refine Plain.map ?_
  | dsimp only
  | split
  | intro _)
theorem plain_makeMap (t : TypeId) (r : Option Value) : Plain P (Instr.makeMap t r) := by
 unfold Instr.makeMap
 repeat' (first
  | exact plain_pure _ | exact plain_pure' _ | exact plain_stuck _ | exact plain_unsup _ | exact plain_panic _ | exact plain_halt _
  | exact plain_load _ _
  | exact plain_store _ _ _
  | exact plain_new _ trivial
  | exact plain_getObj _
  | exact plain_setObj _ _ trivial
  | exact plain_choose _
  | exact plain_program
  | exact plain_noRoom
  | exact plain_typeInfo _
  | exact plain_underlying _
  | exact plain_sizeOf _
  | exact plain_zeroValue _
  | exact plain_isAgg _
  | exact plain_loadCells _ _
  | exact plain_storeCells _ _ _
  | exact plain_loadVar _ _
  | exact plain_storeVar _ _ _
  | exact plain_newRow _ _
  | exact plain_newVar _ _
  | exact plain_elemOf _
  | exact plain_part _ _ _
  | exact plain_runtimePanic _
  | exact plain_boundsPanic _ _ _ _
  | exact plain_asIntOf _
  | exact plain_asInt _
  | exact plain_asBool _
  | exact plain_asAddr _
  | exact plain_asAgg _
  | exact plain_sureAddr _
  | exact plain_askRoom _
  | exact plain_loadAt _ _
  | exact plain_storeAt _ _ _
  | exact plain_alloc _ _ _
  | exact plain_box _ _
  | exact plain_build _ _
  | exact plain_buildSlice _ _ _
  | exact plain_indexAt _ _ _
  | exact plain_sliceBound _ _ _
  | exact plain_sliceBounds _ _ _ _ _ _
  | exact plain_slice _ _ _ _ _
  | exact plain_sliceAt _ _ _ _ _
  | exact plain_field _ _ _
  | exact plain_index _ _ _
  | exact plain_makeFunc _ _ _
  | with_reducible refine Plain.bind ?_ (fun _ => ?_)
  | with_reducible refine Plain.map ?_
  | dsimp only
  | split
  | intro _)
theorem plain_have {γ δ : Type} (v : γ → Sem δ) (f : (γ → Sem δ) → Sem β) (hv : ∀ z, Plain P (v z)) (h : ∀ g : γ → Sem δ, (∀ z, Plain P (g z)) → Plain P (f g)) : Plain P (have g := v; f g) := h v hv
theorem plain_let {γ : Type} (v : γ) (f : γ → Sem β) (h : Plain P (f v)) : Plain P (have g := v; f g) := h
def makeRest (elem : TypeId) (bytes : Nat) (l c : Int) : Sem Value := do
 askRoom (c.toNat * bytes)
 let n := c.toNat * (← sizeOf elem)
 let zero ← if n = 0 then pure #[] else do pure (← zeroValue elem).cells
 let a ← newRow elem ((Array.range n).map (zero[· % zero.size]!))
 pure (.slice (some a) l.toNat c.toNat)
theorem plain_makeRest (elem : TypeId) (bytes : Nat) (l c : Int) : Plain P (makeRest elem bytes l c) := by
 unfold makeRest
 repeat' (first
  | exact plain_pure _ | exact plain_pure' _ | exact plain_stuck _ | exact plain_unsup _ | exact plain_panic _ | exact plain_halt _
  | exact plain_load _ _
  | exact plain_store _ _ _
  | exact plain_new _ trivial
  | exact plain_getObj _
  | exact plain_setObj _ _ trivial
  | exact plain_choose _
  | exact plain_program
  | exact plain_noRoom
  | exact plain_typeInfo _
  | exact plain_underlying _
  | exact plain_sizeOf _
  | exact plain_zeroValue _
  | exact plain_isAgg _
  | exact plain_loadCells _ _
  | exact plain_storeCells _ _ _
  | exact plain_loadVar _ _
  | exact plain_storeVar _ _ _
  | exact plain_newRow _ _
  | exact plain_newVar _ _
  | exact plain_elemOf _
  | exact plain_part _ _ _
  | exact plain_runtimePanic _
  | exact plain_boundsPanic _ _ _ _
  | exact plain_asIntOf _
  | exact plain_asInt _
  | exact plain_asBool _
  | exact plain_asAddr _
  | exact plain_asAgg _
  | exact plain_sureAddr _
  | exact plain_askRoom _
  | exact plain_loadAt _ _
  | exact plain_storeAt _ _ _
  | exact plain_alloc _ _ _
  | exact plain_box _ _
  | exact plain_build _ _
  | exact plain_buildSlice _ _ _
  | exact plain_indexAt _ _ _
  | exact plain_sliceBound _ _ _
  | exact plain_sliceBounds _ _ _ _ _ _
  | exact plain_slice _ _ _ _ _
  | exact plain_sliceAt _ _ _ _ _
  | exact plain_field _ _ _
  | exact plain_index _ _ _
  | exact plain_makeFunc _ _ _
  | exact plain_makeMap _ _
  | with_reducible refine Plain.bind ?_ (fun _ => ?_)
  | with_reducible refine Plain.map ?_
  | dsimp only
  | split
  | intro _)
theorem plain_makeSlice (t : TypeId) (x y : Value) : Plain P (Instr.makeSlice t x y) := by
 unfold Instr.makeSlice
 refine Plain.bind (plain_underlying _) fun u => ?_
 split
 ·refine Plain.bind (plain_asInt _) fun len => Plain.bind (plain_asInt _) fun cap => Plain.bind (plain_typeInfo _) fun i => ?_
  rename_i elem
  have hr : ∀ l c, Plain P (makeRest elem i.bytes l c) := fun l c => plain_makeRest _ _ _ _
  refine plain_let _ _ (plain_let _ _ (plain_let _ _ (plain_let _ _ ?_)))
  split
  ·split
   ·exact Plain.bind (plain_runtimePanic _) fun _ => hr _ _
   ·split
    ·exact Plain.bind (plain_runtimePanic _) fun _ => hr _ _
    ·exact Plain.bind (plain_choose _) fun _ => Plain.bind (plain_runtimePanic _) fun _ => hr _ _
  ·exact hr _ _
 ·exact plain_stuck _
theorem plain_makeInterface (t : TypeId) (x : Value) : Plain P (Instr.makeInterface t x) := by
 unfold Instr.makeInterface
 repeat' (first
  | exact plain_pure _ | exact plain_pure' _ | exact plain_stuck _ | exact plain_unsup _ | exact plain_panic _ | exact plain_halt _
  | exact plain_load _ _
  | exact plain_store _ _ _
  | exact plain_new _ trivial
  | exact plain_getObj _
  | exact plain_setObj _ _ trivial
  | exact plain_choose _
  | exact plain_program
  | exact plain_noRoom
  | exact plain_typeInfo _
  | exact plain_underlying _
  | exact plain_sizeOf _
  | exact plain_zeroValue _
  | exact plain_isAgg _
  | exact plain_loadCells _ _
  | exact plain_storeCells _ _ _
  | exact plain_loadVar _ _
  | exact plain_storeVar _ _ _
  | exact plain_newRow _ _
  | exact plain_newVar _ _
  | exact plain_elemOf _
  | exact plain_part _ _ _
  | exact plain_runtimePanic _
  | exact plain_boundsPanic _ _ _ _
  | exact plain_asIntOf _
  | exact plain_asInt _
  | exact plain_asBool _
  | exact plain_asAddr _
  | exact plain_asAgg _
  | exact plain_sureAddr _
  | exact plain_askRoom _
  | exact plain_loadAt _ _
  | exact plain_storeAt _ _ _
  | exact plain_alloc _ _ _
  | exact plain_box _ _
  | exact plain_build _ _
  | exact plain_buildSlice _ _ _
  | exact plain_indexAt _ _ _
  | exact plain_sliceBound _ _ _
  | exact plain_sliceBounds _ _ _ _ _ _
  | exact plain_slice _ _ _ _ _
  | exact plain_sliceAt _ _ _ _ _
  | exact plain_field _ _ _
  | exact plain_index _ _ _
  | exact plain_makeFunc _ _ _
  | exact plain_makeMap _ _
  | exact plain_makeSlice _ _ _
  | with_reducible refine Plain.bind ?_ (fun _ => ?_)
  | with_reducible refine Plain.map ?_
  | dsimp only
  | split
  | intro _)
theorem plain_extract (x : Value) (n : Nat) : Plain P (Instr.extract x n) := by
 unfold Instr.extract
 repeat' (first
  | exact plain_pure _ | exact plain_pure' _ | exact plain_stuck _ | exact plain_unsup _ | exact plain_panic _ | exact plain_halt _
  | exact plain_load _ _
  | exact plain_store _ _ _
  | exact plain_new _ trivial
  | exact plain_getObj _
  | exact plain_setObj _ _ trivial
  | exact plain_choose _
  | exact plain_program
  | exact plain_noRoom
  | exact plain_typeInfo _
  | exact plain_underlying _
  | exact plain_sizeOf _
  | exact plain_zeroValue _
  | exact plain_isAgg _
  | exact plain_loadCells _ _
  | exact plain_storeCells _ _ _
  | exact plain_loadVar _ _
  | exact plain_storeVar _ _ _
  | exact plain_newRow _ _
  | exact plain_newVar _ _
  | exact plain_elemOf _
  | exact plain_part _ _ _
  | exact plain_runtimePanic _
  | exact plain_boundsPanic _ _ _ _
  | exact plain_asIntOf _
  | exact plain_asInt _
  | exact plain_asBool _
  | exact plain_asAddr _
  | exact plain_asAgg _
  | exact plain_sureAddr _
  | exact plain_askRoom _
  | exact plain_loadAt _ _
  | exact plain_storeAt _ _ _
  | exact plain_alloc _ _ _
  | exact plain_box _ _
  | exact plain_build _ _
  | exact plain_buildSlice _ _ _
  | exact plain_indexAt _ _ _
  | exact plain_sliceBound _ _ _
  | exact plain_sliceBounds _ _ _ _ _ _
  | exact plain_slice _ _ _ _ _
  | exact plain_sliceAt _ _ _ _ _
  | exact plain_field _ _ _
  | exact plain_index _ _ _
  | exact plain_makeFunc _ _ _
  | exact plain_makeMap _ _
  | exact plain_makeSlice _ _ _
  | exact plain_makeInterface _ _
  | with_reducible refine Plain.bind ?_ (fun _ => ?_)
  | with_reducible refine Plain.map ?_
  | dsimp only
  | split
  | intro _)
theorem plain_lenOf (x : Value) : Plain P (Builtin.lenOf x) := by
 unfold Builtin.lenOf
 repeat' (first
  | exact plain_pure _ | exact plain_pure' _ | exact plain_stuck _ | exact plain_unsup _ | exact plain_panic _ | exact plain_halt _
  | exact plain_load _ _
  | exact plain_store _ _ _
  | exact plain_new _ trivial
  | exact plain_getObj _
  | exact plain_setObj _ _ trivial
  | exact plain_choose _
  | exact plain_program
  | exact plain_noRoom
  | exact plain_typeInfo _
  | exact plain_underlying _
  | exact plain_sizeOf _
  | exact plain_zeroValue _
  | exact plain_isAgg _
  | exact plain_loadCells _ _
  | exact plain_storeCells _ _ _
  | exact plain_loadVar _ _
  | exact plain_storeVar _ _ _
  | exact plain_newRow _ _
  | exact plain_newVar _ _
  | exact plain_elemOf _
  | exact plain_part _ _ _
  | exact plain_runtimePanic _
  | exact plain_boundsPanic _ _ _ _
  | exact plain_asIntOf _
  | exact plain_asInt _
  | exact plain_asBool _
  | exact plain_asAddr _
  | exact plain_asAgg _
  | exact plain_sureAddr _
  | exact plain_askRoom _
  | exact plain_loadAt _ _
  | exact plain_storeAt _ _ _
  | exact plain_alloc _ _ _
  | exact plain_box _ _
  | exact plain_build _ _
  | exact plain_buildSlice _ _ _
  | exact plain_indexAt _ _ _
  | exact plain_sliceBound _ _ _
  | exact plain_sliceBounds _ _ _ _ _ _
  | exact plain_slice _ _ _ _ _
  | exact plain_sliceAt _ _ _ _ _
  | exact plain_field _ _ _
  | exact plain_index _ _ _
  | exact plain_makeFunc _ _ _
  | exact plain_makeMap _ _
  | exact plain_makeSlice _ _ _
  | exact plain_makeInterface _ _
  | exact plain_extract _ _
  | with_reducible refine Plain.bind ?_ (fun _ => ?_)
  | with_reducible refine Plain.map ?_
  | dsimp only
  | split
  | intro _)
theorem plain_firstCells (s n : Nat) (x : Value) : Plain P (Builtin.firstCells s n x) := by
 unfold Builtin.firstCells
 repeat' (first
  | exact plain_pure _ | exact plain_pure' _ | exact plain_stuck _ | exact plain_unsup _ | exact plain_panic _ | exact plain_halt _
  | exact plain_load _ _
  | exact plain_store _ _ _
  | exact plain_new _ trivial
  | exact plain_getObj _
  | exact plain_setObj _ _ trivial
  | exact plain_choose _
  | exact plain_program
  | exact plain_noRoom
  | exact plain_typeInfo _
  | exact plain_underlying _
  | exact plain_sizeOf _
  | exact plain_zeroValue _
  | exact plain_isAgg _
  | exact plain_loadCells _ _
  | exact plain_storeCells _ _ _
  | exact plain_loadVar _ _
  | exact plain_storeVar _ _ _
  | exact plain_newRow _ _
  | exact plain_newVar _ _
  | exact plain_elemOf _
  | exact plain_part _ _ _
  | exact plain_runtimePanic _
  | exact plain_boundsPanic _ _ _ _
  | exact plain_asIntOf _
  | exact plain_asInt _
  | exact plain_asBool _
  | exact plain_asAddr _
  | exact plain_asAgg _
  | exact plain_sureAddr _
  | exact plain_askRoom _
  | exact plain_loadAt _ _
  | exact plain_storeAt _ _ _
  | exact plain_alloc _ _ _
  | exact plain_box _ _
  | exact plain_build _ _
  | exact plain_buildSlice _ _ _
  | exact plain_indexAt _ _ _
  | exact plain_sliceBound _ _ _
  | exact plain_sliceBounds _ _ _ _ _ _
  | exact plain_slice _ _ _ _ _
  | exact plain_sliceAt _ _ _ _ _
  | exact plain_field _ _ _
  | exact plain_index _ _ _
  | exact plain_makeFunc _ _ _
  | exact plain_makeMap _ _
  | exact plain_makeSlice _ _ _
  | exact plain_makeInterface _ _
  | exact plain_extract _ _
  | exact plain_lenOf _
  | with_reducible refine Plain.bind ?_ (fun _ => ?_)
  | with_reducible refine Plain.map ?_
  | dsimp only
  | split
  | intro _)
theorem plain_copy (ts : Array TypeId) (t : TypeId) (x : Array Value) : Plain P (Builtin.copy_ ts t x) := by
 unfold Builtin.copy_
 repeat' (first
  | exact plain_pure _ | exact plain_pure' _ | exact plain_stuck _ | exact plain_unsup _ | exact plain_panic _ | exact plain_halt _
  | exact plain_load _ _
  | exact plain_store _ _ _
  | exact plain_new _ trivial
  | exact plain_getObj _
  | exact plain_setObj _ _ trivial
  | exact plain_choose _
  | exact plain_program
  | exact plain_noRoom
  | exact plain_typeInfo _
  | exact plain_underlying _
  | exact plain_sizeOf _
  | exact plain_zeroValue _
  | exact plain_isAgg _
  | exact plain_loadCells _ _
  | exact plain_storeCells _ _ _
  | exact plain_loadVar _ _
  | exact plain_storeVar _ _ _
  | exact plain_newRow _ _
  | exact plain_newVar _ _
  | exact plain_elemOf _
  | exact plain_part _ _ _
  | exact plain_runtimePanic _
  | exact plain_boundsPanic _ _ _ _
  | exact plain_asIntOf _
  | exact plain_asInt _
  | exact plain_asBool _
  | exact plain_asAddr _
  | exact plain_asAgg _
  | exact plain_sureAddr _
  | exact plain_askRoom _
  | exact plain_loadAt _ _
  | exact plain_storeAt _ _ _
  | exact plain_alloc _ _ _
  | exact plain_box _ _
  | exact plain_build _ _
  | exact plain_buildSlice _ _ _
  | exact plain_indexAt _ _ _
  | exact plain_sliceBound _ _ _
  | exact plain_sliceBounds _ _ _ _ _ _
  | exact plain_slice _ _ _ _ _
  | exact plain_sliceAt _ _ _ _ _
  | exact plain_field _ _ _
  | exact plain_index _ _ _
  | exact plain_makeFunc _ _ _
  | exact plain_makeMap _ _
  | exact plain_makeSlice _ _ _
  | exact plain_makeInterface _ _
  | exact plain_extract _ _
  | exact plain_lenOf _
  | exact plain_firstCells _ _ _
  | with_reducible refine Plain.bind ?_ (fun _ => ?_)
  | with_reducible refine Plain.map ?_
  | dsimp only
  | split
  | intro _)
theorem plain_len (ts : Array TypeId) (t : TypeId) (x : Array Value) : Plain P (Builtin.len_ ts t x) := by
 unfold Builtin.len_
 repeat' (first
  | exact plain_pure _ | exact plain_pure' _ | exact plain_stuck _ | exact plain_unsup _ | exact plain_panic _ | exact plain_halt _
  | exact plain_load _ _
  | exact plain_store _ _ _
  | exact plain_new _ trivial
  | exact plain_getObj _
  | exact plain_setObj _ _ trivial
  | exact plain_choose _
  | exact plain_program
  | exact plain_noRoom
  | exact plain_typeInfo _
  | exact plain_underlying _
  | exact plain_sizeOf _
  | exact plain_zeroValue _
  | exact plain_isAgg _
  | exact plain_loadCells _ _
  | exact plain_storeCells _ _ _
  | exact plain_loadVar _ _
  | exact plain_storeVar _ _ _
  | exact plain_newRow _ _
  | exact plain_newVar _ _
  | exact plain_elemOf _
  | exact plain_part _ _ _
  | exact plain_runtimePanic _
  | exact plain_boundsPanic _ _ _ _
  | exact plain_asIntOf _
  | exact plain_asInt _
  | exact plain_asBool _
  | exact plain_asAddr _
  | exact plain_asAgg _
  | exact plain_sureAddr _
  | exact plain_askRoom _
  | exact plain_loadAt _ _
  | exact plain_storeAt _ _ _
  | exact plain_alloc _ _ _
  | exact plain_box _ _
  | exact plain_build _ _
  | exact plain_buildSlice _ _ _
  | exact plain_indexAt _ _ _
  | exact plain_sliceBound _ _ _
  | exact plain_sliceBounds _ _ _ _ _ _
  | exact plain_slice _ _ _ _ _
  | exact plain_sliceAt _ _ _ _ _
  | exact plain_field _ _ _
  | exact plain_index _ _ _
  | exact plain_makeFunc _ _ _
  | exact plain_makeMap _ _
  | exact plain_makeSlice _ _ _
  | exact plain_makeInterface _ _
  | exact plain_extract _ _
  | exact plain_lenOf _
  | exact plain_firstCells _ _ _
  | exact plain_copy _ _ _
  | with_reducible refine Plain.bind ?_ (fun _ => ?_)
  | with_reducible refine Plain.map ?_
  | dsimp only
  | split
  | intro _)
theorem plain_cap (ts : Array TypeId) (t : TypeId) (x : Array Value) : Plain P (Builtin.cap_ ts t x) := by
 unfold Builtin.cap_
 repeat' (first
  | exact plain_pure _ | exact plain_pure' _ | exact plain_stuck _ | exact plain_unsup _ | exact plain_panic _ | exact plain_halt _
  | exact plain_load _ _
  | exact plain_store _ _ _
  | exact plain_new _ trivial
  | exact plain_getObj _
  | exact plain_setObj _ _ trivial
  | exact plain_choose _
  | exact plain_program
  | exact plain_noRoom
  | exact plain_typeInfo _
  | exact plain_underlying _
  | exact plain_sizeOf _
  | exact plain_zeroValue _
  | exact plain_isAgg _
  | exact plain_loadCells _ _
  | exact plain_storeCells _ _ _
  | exact plain_loadVar _ _
  | exact plain_storeVar _ _ _
  | exact plain_newRow _ _
  | exact plain_newVar _ _
  | exact plain_elemOf _
  | exact plain_part _ _ _
  | exact plain_runtimePanic _
  | exact plain_boundsPanic _ _ _ _
  | exact plain_asIntOf _
  | exact plain_asInt _
  | exact plain_asBool _
  | exact plain_asAddr _
  | exact plain_asAgg _
  | exact plain_sureAddr _
  | exact plain_askRoom _
  | exact plain_loadAt _ _
  | exact plain_storeAt _ _ _
  | exact plain_alloc _ _ _
  | exact plain_box _ _
  | exact plain_build _ _
  | exact plain_buildSlice _ _ _
  | exact plain_indexAt _ _ _
  | exact plain_sliceBound _ _ _
  | exact plain_sliceBounds _ _ _ _ _ _
  | exact plain_slice _ _ _ _ _
  | exact plain_sliceAt _ _ _ _ _
  | exact plain_field _ _ _
  | exact plain_index _ _ _
  | exact plain_makeFunc _ _ _
  | exact plain_makeMap _ _
  | exact plain_makeSlice _ _ _
  | exact plain_makeInterface _ _
  | exact plain_extract _ _
  | exact plain_lenOf _
  | exact plain_firstCells _ _ _
  | exact plain_copy _ _ _
  | exact plain_len _ _ _
  | with_reducible refine Plain.bind ?_ (fun _ => ?_)
  | with_reducible refine Plain.map ?_
  | dsimp only
  | split
  | intro _)
theorem plain_clear (ts : Array TypeId) (t : TypeId) (x : Array Value) : Plain P (Builtin.clear_ ts t x) := by
 unfold Builtin.clear_
 repeat' (first
  | exact plain_pure _ | exact plain_pure' _ | exact plain_stuck _ | exact plain_unsup _ | exact plain_panic _ | exact plain_halt _
  | exact plain_load _ _
  | exact plain_store _ _ _
  | exact plain_new _ trivial
  | exact plain_getObj _
  | exact plain_setObj _ _ trivial
  | exact plain_choose _
  | exact plain_program
  | exact plain_noRoom
  | exact plain_typeInfo _
  | exact plain_underlying _
  | exact plain_sizeOf _
  | exact plain_zeroValue _
  | exact plain_isAgg _
  | exact plain_loadCells _ _
  | exact plain_storeCells _ _ _
  | exact plain_loadVar _ _
  | exact plain_storeVar _ _ _
  | exact plain_newRow _ _
  | exact plain_newVar _ _
  | exact plain_elemOf _
  | exact plain_part _ _ _
  | exact plain_runtimePanic _
  | exact plain_boundsPanic _ _ _ _
  | exact plain_asIntOf _
  | exact plain_asInt _
  | exact plain_asBool _
  | exact plain_asAddr _
  | exact plain_asAgg _
  | exact plain_sureAddr _
  | exact plain_askRoom _
  | exact plain_loadAt _ _
  | exact plain_storeAt _ _ _
  | exact plain_alloc _ _ _
  | exact plain_box _ _
  | exact plain_build _ _
  | exact plain_buildSlice _ _ _
  | exact plain_indexAt _ _ _
  | exact plain_sliceBound _ _ _
  | exact plain_sliceBounds _ _ _ _ _ _
  | exact plain_slice _ _ _ _ _
  | exact plain_sliceAt _ _ _ _ _
  | exact plain_field _ _ _
  | exact plain_index _ _ _
  | exact plain_makeFunc _ _ _
  | exact plain_makeMap _ _
  | exact plain_makeSlice _ _ _
  | exact plain_makeInterface _ _
  | exact plain_extract _ _
  | exact plain_lenOf _
  | exact plain_firstCells _ _ _
  | exact plain_copy _ _ _
  | exact plain_len _ _ _
  | exact plain_cap _ _ _
  | with_reducible refine Plain.bind ?_ (fun _ => ?_)
  | with_reducible refine Plain.map ?_
  | dsimp only
  | split
  | intro _)
end
end Go.Eng
namespace Go.Eng
open Go Go.RowKit
section
variable {α β : Type} {P : Program} {w : World}
def appGrow (elem : TypeId) (size need : Nat) (sLen sCap : Nat) (s : Value) (appended : Sem (Array Value)) : Sem Value := do
 let newCap ← choose (.appendCap need sCap elem)
 askRoom (newCap * (← typeInfo elem).bytes)
 let old ← Builtin.firstCells size sLen s
 let new ← appended
 let rest := Builtin.zeroCells (← zeroValue elem).cells (newCap - need)
 pure (.slice (some (← newRow elem (old ++ new ++ rest))) need newCap)
theorem plain_appGrow (elem : TypeId) (size need : Nat) (sLen sCap : Nat) (s : Value) (appended : Sem (Array Value)) (ha : Plain P appended) : Plain P (appGrow elem size need sLen sCap s appended) := by
 unfold appGrow
 repeat' (first
  | exact plain_pure _ | exact plain_pure' _ | exact plain_stuck _ | exact plain_unsup _ | exact plain_panic _ | exact plain_halt _
  | exact ha
  | exact plain_load _ _
  | exact plain_store _ _ _
  | exact plain_new _ trivial
  | exact plain_getObj _
  | exact plain_setObj _ _ trivial
  | exact plain_choose _
  | exact plain_program
  | exact plain_noRoom
  | exact plain_typeInfo _
  | exact plain_underlying _
  | exact plain_sizeOf _
  | exact plain_zeroValue _
  | exact plain_isAgg _
  | exact plain_loadCells _ _
  | exact plain_storeCells _ _ _
  | exact plain_loadVar _ _
  | exact plain_storeVar _ _ _
  | exact plain_newRow _ _
  | exact plain_newVar _ _
  | exact plain_elemOf _
  | exact plain_part _ _ _
  | exact plain_runtimePanic _
  | exact plain_boundsPanic _ _ _ _
  | exact plain_asIntOf _
  | exact plain_asInt _
  | exact plain_asBool _
  | exact plain_asAddr _
  | exact plain_asAgg _
  | exact plain_sureAddr _
  | exact plain_askRoom _
  | exact plain_loadAt _ _
  | exact plain_storeAt _ _ _
  | exact plain_alloc _ _ _
  | exact plain_box _ _
  | exact plain_build _ _
  | exact plain_buildSlice _ _ _
  | exact plain_indexAt _ _ _
  | exact plain_sliceBound _ _ _
  | exact plain_sliceBounds _ _ _ _ _ _
  | exact plain_slice _ _ _ _ _
  | exact plain_sliceAt _ _ _ _ _
  | exact plain_field _ _ _
  | exact plain_index _ _ _
  | exact plain_makeFunc _ _ _
  | exact plain_makeMap _ _
  | exact plain_makeSlice _ _ _
  | exact plain_makeInterface _ _
  | exact plain_extract _ _
  | exact plain_lenOf _
  | exact plain_firstCells _ _ _
  | exact plain_copy _ _ _
  | exact plain_len _ _ _
  | with_reducible refine Plain.bind ?_ (fun _ => ?_)
  | with_reducible refine Plain.map ?_
  | with_reducible refine plain_ite (fun _ => ?_) (fun _ => ?_)
  | exact plain_never (never_bind fun _ => never_bind fun _ => never_unsup _)
  | exact plain_never (never_bind fun _ => never_unsup _)
  | dsimp only
  | split)
def appTight (elem : TypeId) (zeros : Bool) (size n : Nat) (base : Option Addr) (sLen sCap need : Nat) (x : Value) (grow : Sem Value) : Sem Value := do
 if Builtin.nextslicecap need sCap * (← typeInfo elem).bytes > 2 ^ 48 then (if zeros then runtimePanic (.error "growslice: len out of range") else do
   if !(← Builtin.mayShare size sLen n base x) then mark .noRoom
   unsupported (.resourceLimit "append: a slice or a string whose bytes no memory bears"))
 grow
theorem plain_appTight (elem : TypeId) (zeros : Bool) (size n : Nat) (base : Option Addr) (sLen sCap need : Nat) (x : Value) (grow : Sem Value) (hg : Plain P grow) : Plain P (appTight elem zeros size n base sLen sCap need x grow) := by
 unfold appTight
 refine Plain.bind (plain_typeInfo _) fun i => ?_
 split
 ·refine plain_never (never_of_left ?_)
  intro w y w' hr
  split at hr
  ·exact never_panic _ _ _ _ hr
  ·refine never_bind (fun b => ?_) _ _ _ hr
   intro w y w' hr
   dsimp only at hr
   split at hr
   ·exact never_bind (fun _ => never_unsup _) _ _ _ hr
   ·exact never_unsup _ _ _ _ hr
 ·exact hg
def appMain (elem : TypeId) (zeros : Bool) (size n : Nat) (base : Option Addr) (sLen sCap : Nat) (x : Value) : Sem Value := do
 let appended : Sem (Array Value) :=
  if !zeros then Builtin.firstCells size n x
  else if n * size = 0 then pure #[]
  else do pure (Builtin.zeroCells (← zeroValue elem).cells n)
 let need := sLen + n
 if need ≤ sCap then
  let new ← appended
  if let some a := base then storeCells (a.add (sLen * size)) new.toList
  pure (.slice base need sCap)
 else
  if (need : Int) > IntKind.i64.max ∧ (zeros ∨ (← typeInfo elem).bytes = 0) then runtimePanic (.error "growslice: len out of range")
  appTight elem zeros size n base sLen sCap need x (appGrow elem size need sLen sCap (.slice base sLen sCap) appended)
theorem plain_appMain (elem : TypeId) (zeros : Bool) (size n : Nat) (base : Option Addr) (sLen sCap : Nat) (x : Value) : Plain P (appMain elem zeros size n base sLen sCap x) := by
 unfold appMain
 have ha : Plain P (if (!zeros) = true then Builtin.firstCells size n x else if n * size = 0 then pure #[] else do pure (Builtin.zeroCells (← zeroValue elem).cells n) : Sem (Array Value)) := by
  split
  ·exact plain_firstCells _ _ _
  ·split
   ·exact plain_pure _
   ·exact Plain.bind (plain_zeroValue _) fun _ => plain_pure _
 have hg := plain_appTight (P := P) elem zeros size n base sLen sCap (sLen + n) x _ (plain_appGrow elem size (sLen + n) sLen sCap (.slice base sLen sCap) _ ha)
 dsimp only
 split
 ·refine Plain.bind ha fun new => ?_
  split
  ·exact Plain.bind (plain_storeCells _ _ _) fun _ => plain_pure _
  ·exact plain_pure _
 ·refine Plain.bind (plain_typeInfo _) fun i => ?_
  split
  ·exact Plain.bind (plain_runtimePanic _) fun _ => hg
  ·exact hg
theorem plain_append (ts : Array TypeId) (t : TypeId) (x : Array Value) : Plain P (Builtin.append_ ts t x) := by
 unfold Builtin.append_
 split
 ·refine Plain.bind (plain_underlying _) fun u => ?_
  split
  ·split
   ·refine Plain.bind (plain_sizeOf _) fun size => ?_
    rename_i xv _ elem _ base sLen sCap _
    have hr : ∀ zeros n, Plain P (appMain elem zeros size n base sLen sCap xv) := fun _ _ => plain_appMain _ _ _ _ _ _ _ _
    refine plain_let _ _ ?_
    have hz : ∀ zeros : Bool, Plain P (do
      let n ← if zeros then do
        let l := IntKind.i64.wrap (← asInt xv)
        if l < 0 then runtimePanic (.error "makeslice: len out of range")
        if l * (← typeInfo elem).bytes > 2 ^ 48 then
         let made ← choose (.extern "append.ofMake.carriedOut" 2)
         runtimePanic (.error (if made == 1 then "makeslice: len out of range" else "growslice: len out of range"))
        pure l.toNat
       else Builtin.lenOf xv
      appMain elem zeros size n base sLen sCap xv : Sem Value) := by
     intro zeros
     dsimp only
     split
     ·refine Plain.bind (plain_asInt _) fun _ => ?_
      have h2 : ∀ l : Int, Plain P (do
        let i ← typeInfo elem
        if l * i.bytes > 2 ^ 48 then do
         let made ← choose (.extern "append.ofMake.carriedOut" 2)
         let _ ← (runtimePanic (.error (if made == 1 then "makeslice: len out of range" else "growslice: len out of range")) : Sem Unit)
         let n ← pure l.toNat
         appMain elem zeros size n base sLen sCap xv
        else do
         let n ← pure l.toNat
         appMain elem zeros size n base sLen sCap xv : Sem Value) := by
       intro l
       refine Plain.bind (plain_typeInfo _) fun i => ?_
       split
       ·exact Plain.bind (plain_choose _) fun _ => Plain.bind (plain_runtimePanic _) fun _ => Plain.bind (plain_pure _) fun _ => hr _ _
       ·exact Plain.bind (plain_pure _) fun _ => hr _ _
      split
      ·exact Plain.bind (plain_runtimePanic _) fun _ => h2 _
      ·exact h2 _
     ·exact Plain.bind (plain_lenOf _) fun _ => hr _ _
    split
    ·refine Plain.bind (plain_underlying _) fun _ => Plain.bind (plain_pure _) fun _ => ?_
     exact hz _
    ·refine Plain.bind (plain_pure _) fun _ => ?_
     exact hz _
   ·exact plain_stuck _
  ·exact plain_stuck _
 ·exact plain_stuck _
end
end Go.Eng
namespace Go.Eng
open Go Go.RowKit
section
variable {α β : Type} {P : Program} {w : World}
theorem plain_forInL {γ β : Type} {f : γ → β → Sem (ForInStep β)} (hf : ∀ x b, Plain P (f x b)) : ∀ (l : List γ) (b : β), Plain P (forIn l b f)
 | [], b => by rw [List.forIn_nil]; exact plain_pure _
 | x :: l, b => by
  rw [List.forIn_cons]
  refine Plain.bind (hf x b) fun r => ?_
  cases r with
  | done b => exact plain_pure _
  | yield b => exact plain_forInL hf l b
theorem plain_forInA {γ β : Type} {f : γ → β → Sem (ForInStep β)} (l : Array γ) (b : β) (hf : ∀ x b, Plain P (f x b)) : Plain P (forIn l b f) := by
 rw [← Array.forIn_toList]; exact plain_forInL hf _ _
theorem plain_forInR {β : Type} {f : Nat → β → Sem (ForInStep β)} (l : Std.Legacy.Range) (b : β) (hf : ∀ x b, Plain P (f x b)) : Plain P (forIn l b f) := by
 rw [Std.Legacy.Range.forIn_eq_forIn_range']; exact plain_forInL hf _ _
def NPc : Value → Prop
 | .pointer (some _) => False
 | .iface .. => False
 | .agg _ => False
 | _ => True
def NP : Value → Prop
 | .agg cs => ∀ c ∈ cs.toList, NPc c
 | v => NPc v
theorem NPc.np {v : Value} (h : NPc v) : NP v := by cases v <;> first | exact h | exact h.elim
theorem part_np {t : TypeId} {cs : Array Value} {off : Nat} {x : Value} {w' : World} (h : NP (.agg cs)) (hr : (part t cs off).run P w = .ok x w') : NP x := by
 unfold part at hr
 rw [Sem.run_bind] at hr
 cases hx : (isAgg t).run P w with
 | halt a b => rw [hx] at hr; simp at hr
 | ok b w1 =>
  rw [hx] at hr
  simp only [Result.andThen_ok] at hr
  split at hr
  ·rw [Sem.run_bind] at hr
   cases hy : (sizeOf t).run P w1 with
   | halt a b => rw [hy] at hr; simp at hr
   | ok n w2 =>
    rw [hy] at hr
    simp only [Result.andThen_ok, Sem.run_pure] at hr
    injection hr with h1 h2
    subst h1
    intro c hc
    refine h c ?_
    simp only [Array.toList_extract] at hc
    exact List.mem_of_mem_drop (List.mem_of_mem_take (by simpa [List.extract_eq_take_drop] using hc))
  ·split at hr
   ·rename_i v hv
    simp only [Sem.run_pure] at hr
    injection hr with h1 h2
    subst h1
    exact (h _ (by rw [Array.mem_toList_iff]; exact Array.mem_of_getElem? hv)).np
   ·simp [stuck, Sem.run] at hr
theorem plain_partThen {t : TypeId} {cs : Array Value} {off : Nat} {f : Value → Sem β} (h : NP (.agg cs)) (hf : ∀ x, NP x → Plain P (f x)) : Plain P (part t cs off >>= f) :=
 fun w y w' hr => tame_bind (plain_part _ _ _ w) (fun x w1 y w' h1 h2 => hf x (part_np h h1) w1 y w' h2) hr
theorem plain_equalIn : ∀ (d : Nat) (t : TypeId) (x y : Value), NP x → NP y → Plain P (Op.equalIn d t x y)
 | 0, t, x, y, _, _ => by unfold Op.equalIn; exact plain_unsup _
 | d + 1, t, x, y, hx, hy => by
  unfold Op.equalIn
  refine Plain.bind (plain_underlying t) fun u => ?_
  split <;> first
   | exact plain_pure _ | exact plain_stuck _ | exact plain_unsup _
   | (exact hx.elim) | (exact hy.elim)
   | (split <;> first | exact plain_pure _ | exact plain_stuck _)
   | skip
  ·rename_i a b
   cases a with
   | some a => exact hx.elim
   | none => unfold samePointer; exact plain_pure _
  ·rename_i fs xs ys
   refine Plain.bind plain_program fun p => ?_
   have loop : Plain P (do
     for f in fs do
      if f.name ≠ "_" then
       if !(← Op.equalIn d f.type (← part f.type xs f.offset) (← part f.type ys f.offset)) then return false
     pure true : Sem Bool) := by
    refine Plain.bind (plain_forInA _ _ fun f b => ?_) fun r => ?_
    ·split
     ·refine plain_partThen hx fun a ha => plain_partThen hy fun b hb => Plain.bind (plain_equalIn d _ a b ha hb) fun e => ?_
      split <;> exact plain_pure _
     ·exact plain_pure _
    ·dsimp only; split <;> exact plain_pure _
   split
   ·exact Plain.bind (plain_unsup _) fun _ => loop
   ·exact loop
  ·refine Plain.bind (plain_sizeOf _) fun n => ?_
   refine Plain.bind (plain_forInR _ _ fun f b => ?_) fun r => ?_
   ·refine plain_partThen hx fun a ha => plain_partThen hy fun b hb => Plain.bind (plain_equalIn d _ a b ha hb) fun e => ?_
    split <;> exact plain_pure _
   ·dsimp only; split <;> exact plain_pure _
theorem plain_equal (t : TypeId) (x y : Value) (hx : NP x) (hy : NP y) : Plain P (Op.equal t x y) := plain_equalIn _ t x y hx hy
theorem plain_eqGuardIn : ∀ (d : Nat) (t : TypeId) (x y : Value), Plain P (Op.eqGuardIn d t x y)
 | 0, t, x, y => by unfold Op.eqGuardIn; exact plain_unsup _
 | d + 1, t, x, y => by
  unfold Op.eqGuardIn
  refine Plain.bind (plain_underlying t) fun u => ?_
  split
  ·exact plain_pure _
  ·refine Plain.bind (plain_forInA _ _ fun f b => ?_) fun r => ?_
   ·split
    ·refine Plain.bind (plain_part _ _ _) fun a => Plain.bind (plain_part _ _ _) fun b => Plain.bind (plain_eqGuardIn d _ a b) fun e => ?_
     split <;> exact plain_pure _
    ·exact plain_pure _
   ·dsimp only; split <;> exact plain_pure _
  ·refine Plain.bind (plain_sizeOf _) fun n => ?_
   refine Plain.bind (plain_forInR _ _ fun f b => ?_) fun r => ?_
   ·refine Plain.bind (plain_part _ _ _) fun a => Plain.bind (plain_part _ _ _) fun b => Plain.bind (plain_eqGuardIn d _ a b) fun e => ?_
    split <;> exact plain_pure _
   ·dsimp only; split <;> exact plain_pure _
  ·exact plain_pure _
theorem plain_eqGuard (op : BinOp) (t : TypeId) (x y : Operand) (a b : Value) : Plain P (eqGuard op t x y a b) := by
 unfold eqGuard
 repeat' (first
  | exact plain_pure _ | exact plain_pure' _ | exact plain_stuck _ | exact plain_unsup _ | exact plain_panic _ | exact plain_halt _
  | exact plain_runtimePanic _
  | exact plain_boundsPanic _ _ _ _
  | exact plain_choose _
  | exact plain_program
  | exact plain_typeInfo _
  | exact plain_underlying _
  | exact plain_sizeOf _
  | exact plain_eqGuardIn _ _ _ _
  | with_reducible refine Plain.bind ?_ (fun _ => ?_)
  | with_reducible refine Plain.map ?_
  | dsimp only
  | split
  | intro _)
theorem plain_shift (op : BinOp) (k : IntKind) (x : Int) (l : IntKind) (y : Int) : Plain P (Op.shift op k x l y) := by
 unfold Op.shift
 repeat' (first
  | exact plain_pure _ | exact plain_pure' _ | exact plain_stuck _ | exact plain_unsup _ | exact plain_panic _ | exact plain_halt _
  | exact plain_runtimePanic _
  | exact plain_boundsPanic _ _ _ _
  | exact plain_choose _
  | exact plain_program
  | exact plain_typeInfo _
  | exact plain_underlying _
  | exact plain_sizeOf _
  | exact plain_eqGuard _ _ _ _ _ _
  | with_reducible refine Plain.bind ?_ (fun _ => ?_)
  | with_reducible refine Plain.map ?_
  | dsimp only
  | split
  | intro _)
theorem plain_intArith (op : BinOp) (k : IntKind) (x y : Int) : Plain P (Op.intArith op k x y) := by
 unfold Op.intArith
 repeat' (first
  | exact plain_pure _ | exact plain_pure' _ | exact plain_stuck _ | exact plain_unsup _ | exact plain_panic _ | exact plain_halt _
  | exact plain_runtimePanic _
  | exact plain_boundsPanic _ _ _ _
  | exact plain_choose _
  | exact plain_program
  | exact plain_typeInfo _
  | exact plain_underlying _
  | exact plain_sizeOf _
  | exact plain_eqGuard _ _ _ _ _ _
  | exact plain_shift _ _ _ _ _
  | with_reducible refine Plain.bind ?_ (fun _ => ?_)
  | with_reducible refine Plain.map ?_
  | dsimp only
  | split
  | intro _)
theorem plain_intDiv (op : BinOp) (k : IntKind) (x y : Int) : Plain P (Op.intDiv op k x y) := by
 unfold Op.intDiv
 repeat' (first
  | exact plain_pure _ | exact plain_pure' _ | exact plain_stuck _ | exact plain_unsup _ | exact plain_panic _ | exact plain_halt _
  | exact plain_runtimePanic _
  | exact plain_boundsPanic _ _ _ _
  | exact plain_choose _
  | exact plain_program
  | exact plain_typeInfo _
  | exact plain_underlying _
  | exact plain_sizeOf _
  | exact plain_eqGuard _ _ _ _ _ _
  | exact plain_shift _ _ _ _ _
  | exact plain_intArith _ _ _ _
  | with_reducible refine Plain.bind ?_ (fun _ => ?_)
  | with_reducible refine Plain.map ?_
  | dsimp only
  | split
  | intro _)
theorem plain_intBits (op : BinOp) (k : IntKind) (x y : Int) : Plain P (Op.intBits op k x y) := by
 unfold Op.intBits
 repeat' (first
  | exact plain_pure _ | exact plain_pure' _ | exact plain_stuck _ | exact plain_unsup _ | exact plain_panic _ | exact plain_halt _
  | exact plain_runtimePanic _
  | exact plain_boundsPanic _ _ _ _
  | exact plain_choose _
  | exact plain_program
  | exact plain_typeInfo _
  | exact plain_underlying _
  | exact plain_sizeOf _
  | exact plain_eqGuard _ _ _ _ _ _
  | exact plain_shift _ _ _ _ _
  | exact plain_intArith _ _ _ _
  | exact plain_intDiv _ _ _ _
  | with_reducible refine Plain.bind ?_ (fun _ => ?_)
  | with_reducible refine Plain.map ?_
  | dsimp only
  | split
  | intro _)
theorem plain_intCmp (op : BinOp) (x y : Int) : Plain P (Op.intCmp op x y) := by
 unfold Op.intCmp
 repeat' (first
  | exact plain_pure _ | exact plain_pure' _ | exact plain_stuck _ | exact plain_unsup _ | exact plain_panic _ | exact plain_halt _
  | exact plain_runtimePanic _
  | exact plain_boundsPanic _ _ _ _
  | exact plain_choose _
  | exact plain_program
  | exact plain_typeInfo _
  | exact plain_underlying _
  | exact plain_sizeOf _
  | exact plain_eqGuard _ _ _ _ _ _
  | exact plain_shift _ _ _ _ _
  | exact plain_intArith _ _ _ _
  | exact plain_intDiv _ _ _ _
  | exact plain_intBits _ _ _ _
  | with_reducible refine Plain.bind ?_ (fun _ => ?_)
  | with_reducible refine Plain.map ?_
  | dsimp only
  | split
  | intro _)
theorem plain_stringOp (op : BinOp) (x y : ByteArray) : Plain P (Op.stringOp op x y) := by
 unfold Op.stringOp
 repeat' (first
  | exact plain_pure _ | exact plain_pure' _ | exact plain_stuck _ | exact plain_unsup _ | exact plain_panic _ | exact plain_halt _
  | exact plain_runtimePanic _
  | exact plain_boundsPanic _ _ _ _
  | exact plain_choose _
  | exact plain_program
  | exact plain_typeInfo _
  | exact plain_underlying _
  | exact plain_sizeOf _
  | exact plain_eqGuard _ _ _ _ _ _
  | exact plain_shift _ _ _ _ _
  | exact plain_intArith _ _ _ _
  | exact plain_intDiv _ _ _ _
  | exact plain_intBits _ _ _ _
  | exact plain_intCmp _ _ _
  | with_reducible refine Plain.bind ?_ (fun _ => ?_)
  | with_reducible refine Plain.map ?_
  | dsimp only
  | split
  | intro _)
theorem plain_equal_pnil (t : TypeId) (a : Option Addr) : Plain P (Op.equal t (.pointer a) (.pointer none)) := by
 cases a with
 | none => exact plain_equal _ _ _ trivial trivial
 | some a =>
  have : ∀ d, Plain P (Op.equalIn (d + 1) t (.pointer (some a)) (.pointer none)) := fun d => by
   unfold Op.equalIn
   refine Plain.bind (plain_underlying t) fun u => ?_
   cases u <;> first | exact plain_pure _ | exact plain_stuck _ | exact plain_unsup _ | (unfold samePointer; exact plain_pure _)
  exact this 9999
inductive Simple : Value → Value → Prop
 | int (k l : IntKind) (a b : Int) : Simple (.int k a) (.int l b)
 | bool (a b : Bool) : Simple (.bool a) (.bool b)
 | str (a b : ByteArray) : Simple (.string a) (.string b)
 | slice (a b : Option Addr) (m n c d : Nat) : Simple (.slice a m c) (.slice b n d)
 | pnil (a : Option Addr) : Simple (.pointer a) (.pointer none)
 | agg (x y : Array Value) : NP (.agg x) → NP (.agg y) → Simple (.agg x) (.agg y)
theorem plain_binOp (op : BinOp) (t : TypeId) (x y : Value) (h : Simple x y) : Plain P (binOp op t x y) := by
 cases h with
 | int k l a b =>
  unfold binOp
  cases op <;> (dsimp only; first | exact plain_shift _ _ _ _ _ | (split; exact plain_stuck _; first | exact plain_intArith _ _ _ _ | exact plain_intDiv _ _ _ _ | exact plain_intBits _ _ _ _ | exact plain_intCmp _ _ _))
 | bool a b =>
  have he : Plain P (Op.equal t (.bool a) (.bool b)) := plain_equal _ _ _ trivial trivial
  unfold binOp
  cases op <;> first | exact plain_stuck _ | exact Plain.bind he fun _ => plain_pure _
 | str a b => unfold binOp; cases op <;> exact plain_stringOp _ _ _
 | slice a b m n c d =>
  have he : Plain P (Op.equal t (.slice a m c) (.slice b n d)) := plain_equal _ _ _ trivial trivial
  unfold binOp
  cases op <;> first | exact plain_stuck _ | exact Plain.bind he fun _ => plain_pure _
 | pnil a =>
  have he := plain_equal_pnil (P := P) t a
  unfold binOp
  cases a <;> cases op <;> dsimp only <;> first | exact plain_stuck _ | exact plain_unsup _ | exact Plain.bind he fun _ => plain_pure _
 | agg x y hx hy =>
  have he : Plain P (Op.equal t (.agg x) (.agg y)) := plain_equal _ _ _ hx hy
  unfold binOp
  cases op <;> first | exact plain_stuck _ | exact Plain.bind he fun _ => plain_pure _
end
end Go.Eng
namespace Go.Eng
open Go Go.RowKit
section
variable {α β : Type} {P : Program} {w : World}
theorem plain_unary (op : UnOp) (x : Value) : Plain P (Op.unary op x) := by
 unfold Op.unary
 repeat' (first
  | exact plain_pure _ | exact plain_pure' _ | exact plain_stuck _ | exact plain_unsup _ | exact plain_panic _ | exact plain_halt _
  | exact plain_runtimePanic _
  | exact plain_boundsPanic _ _ _ _
  | exact plain_choose _
  | exact plain_program
  | exact plain_typeInfo _
  | exact plain_underlying _
  | exact plain_sizeOf _
  | exact plain_asBool _
  | exact plain_intArith _ _ _ _
  | exact plain_intBits _ _ _ _
  | exact plain_stringOp _ _ _
  | exact plain_getObj _
  | exact plain_setObj _ _ trivial
  | exact plain_new _ trivial
  | with_reducible refine Plain.bind ?_ (fun _ => ?_)
  | with_reducible refine Plain.map ?_
  | dsimp only
  | split
  | intro _)
theorem plain_intToInt (k : IntKind) (n : Int) : Plain P (Conv.intToInt k n) := by
 unfold Conv.intToInt
 repeat' (first
  | exact plain_pure _ | exact plain_pure' _ | exact plain_stuck _ | exact plain_unsup _ | exact plain_panic _ | exact plain_halt _
  | exact plain_runtimePanic _
  | exact plain_boundsPanic _ _ _ _
  | exact plain_choose _
  | exact plain_program
  | exact plain_typeInfo _
  | exact plain_underlying _
  | exact plain_sizeOf _
  | exact plain_asBool _
  | exact plain_intArith _ _ _ _
  | exact plain_intBits _ _ _ _
  | exact plain_stringOp _ _ _
  | exact plain_getObj _
  | exact plain_setObj _ _ trivial
  | exact plain_new _ trivial
  | exact plain_unary _ _
  | with_reducible refine Plain.bind ?_ (fun _ => ?_)
  | with_reducible refine Plain.map ?_
  | dsimp only
  | split
  | intro _)
theorem plain_min2 (x y : Value) : Plain P (Builtin.min2 x y) := by
 unfold Builtin.min2
 repeat' (first
  | exact plain_pure _ | exact plain_pure' _ | exact plain_stuck _ | exact plain_unsup _ | exact plain_panic _ | exact plain_halt _
  | exact plain_runtimePanic _
  | exact plain_boundsPanic _ _ _ _
  | exact plain_choose _
  | exact plain_program
  | exact plain_typeInfo _
  | exact plain_underlying _
  | exact plain_sizeOf _
  | exact plain_asBool _
  | exact plain_intArith _ _ _ _
  | exact plain_intBits _ _ _ _
  | exact plain_stringOp _ _ _
  | exact plain_getObj _
  | exact plain_setObj _ _ trivial
  | exact plain_new _ trivial
  | exact plain_unary _ _
  | exact plain_intToInt _ _
  | with_reducible refine Plain.bind ?_ (fun _ => ?_)
  | with_reducible refine Plain.map ?_
  | dsimp only
  | split
  | intro _)
theorem plain_max2 (x y : Value) : Plain P (Builtin.max2 x y) := by
 unfold Builtin.max2
 repeat' (first
  | exact plain_pure _ | exact plain_pure' _ | exact plain_stuck _ | exact plain_unsup _ | exact plain_panic _ | exact plain_halt _
  | exact plain_runtimePanic _
  | exact plain_boundsPanic _ _ _ _
  | exact plain_choose _
  | exact plain_program
  | exact plain_typeInfo _
  | exact plain_underlying _
  | exact plain_sizeOf _
  | exact plain_asBool _
  | exact plain_intArith _ _ _ _
  | exact plain_intBits _ _ _ _
  | exact plain_stringOp _ _ _
  | exact plain_getObj _
  | exact plain_setObj _ _ trivial
  | exact plain_new _ trivial
  | exact plain_unary _ _
  | exact plain_intToInt _ _
  | exact plain_min2 _ _
  | with_reducible refine Plain.bind ?_ (fun _ => ?_)
  | with_reducible refine Plain.map ?_
  | dsimp only
  | split
  | intro _)
theorem plain_foldlM {γ δ : Type} {f : δ → γ → Sem δ} (hf : ∀ x y, Plain P (f x y)) : ∀ (l : List γ) (x : δ), Plain P (l.foldlM f x)
 | [], x => by rw [List.foldlM_nil]; exact plain_pure _
 | y :: l, x => by rw [List.foldlM_cons]; exact Plain.bind (hf _ _) fun _ => plain_foldlM hf l _
theorem plain_min (ts : Array TypeId) (t : TypeId) (x : Array Value) : Plain P (Builtin.min_ ts t x) := by
 unfold Builtin.min_
 split
 ·exact plain_stuck _
 ·exact plain_foldlM plain_min2 _ _
theorem plain_max (ts : Array TypeId) (t : TypeId) (x : Array Value) : Plain P (Builtin.max_ ts t x) := by
 unfold Builtin.max_
 split
 ·exact plain_stuck _
 ·exact plain_foldlM plain_max2 _ _
theorem plain_getLoop (l : Nat) : Plain P (Instr.getLoop l) := by
 unfold Instr.getLoop
 repeat' (first
  | exact plain_pure _ | exact plain_pure' _ | exact plain_stuck _ | exact plain_unsup _ | exact plain_panic _ | exact plain_halt _
  | exact plain_runtimePanic _
  | exact plain_boundsPanic _ _ _ _
  | exact plain_choose _
  | exact plain_program
  | exact plain_typeInfo _
  | exact plain_underlying _
  | exact plain_sizeOf _
  | exact plain_asBool _
  | exact plain_intArith _ _ _ _
  | exact plain_intBits _ _ _ _
  | exact plain_stringOp _ _ _
  | exact plain_getObj _
  | exact plain_setObj _ _ trivial
  | exact plain_new _ trivial
  | exact plain_unary _ _
  | exact plain_intToInt _ _
  | exact plain_min2 _ _
  | exact plain_max2 _ _
  | with_reducible refine Plain.bind ?_ (fun _ => ?_)
  | with_reducible refine Plain.map ?_
  | dsimp only
  | split
  | intro _)
theorem plain_enterLoop (fn : FuncId) (t : Array Value) (ps : Array Tmp) (a b : Code) (r : Option Nat) : Plain P (Instr.enterLoop fn t ps a b r) := by
 unfold Instr.enterLoop
 repeat' (first
  | exact plain_pure _ | exact plain_pure' _ | exact plain_stuck _ | exact plain_unsup _ | exact plain_panic _ | exact plain_halt _
  | exact plain_runtimePanic _
  | exact plain_boundsPanic _ _ _ _
  | exact plain_choose _
  | exact plain_program
  | exact plain_typeInfo _
  | exact plain_underlying _
  | exact plain_sizeOf _
  | exact plain_asBool _
  | exact plain_intArith _ _ _ _
  | exact plain_intBits _ _ _ _
  | exact plain_stringOp _ _ _
  | exact plain_getObj _
  | exact plain_setObj _ _ trivial
  | exact plain_new _ trivial
  | exact plain_unary _ _
  | exact plain_intToInt _ _
  | exact plain_min2 _ _
  | exact plain_max2 _ _
  | exact plain_getLoop _
  | with_reducible refine Plain.bind ?_ (fun _ => ?_)
  | with_reducible refine Plain.map ?_
  | dsimp only
  | split
  | intro _)
theorem plain_yield (l : Nat) (x : Array Value) : Plain P (Instr.yield l x) := by
 unfold Instr.yield
 repeat' (first
  | exact plain_pure _ | exact plain_pure' _ | exact plain_stuck _ | exact plain_unsup _ | exact plain_panic _ | exact plain_halt _
  | exact plain_runtimePanic _
  | exact plain_boundsPanic _ _ _ _
  | exact plain_choose _
  | exact plain_program
  | exact plain_typeInfo _
  | exact plain_underlying _
  | exact plain_sizeOf _
  | exact plain_asBool _
  | exact plain_intArith _ _ _ _
  | exact plain_intBits _ _ _ _
  | exact plain_stringOp _ _ _
  | exact plain_getObj _
  | exact plain_setObj _ _ trivial
  | exact plain_new _ trivial
  | exact plain_unary _ _
  | exact plain_intToInt _ _
  | exact plain_min2 _ _
  | exact plain_max2 _ _
  | exact plain_getLoop _
  | exact plain_enterLoop _ _ _ _ _ _
  | with_reducible refine Plain.bind ?_ (fun _ => ?_)
  | with_reducible refine Plain.map ?_
  | dsimp only
  | split
  | intro _)
theorem plain_beginRound (l : Nat) : Plain P (Instr.beginRound l) := by
 unfold Instr.beginRound
 repeat' (first
  | exact plain_pure _ | exact plain_pure' _ | exact plain_stuck _ | exact plain_unsup _ | exact plain_panic _ | exact plain_halt _
  | exact plain_runtimePanic _
  | exact plain_boundsPanic _ _ _ _
  | exact plain_choose _
  | exact plain_program
  | exact plain_typeInfo _
  | exact plain_underlying _
  | exact plain_sizeOf _
  | exact plain_asBool _
  | exact plain_intArith _ _ _ _
  | exact plain_intBits _ _ _ _
  | exact plain_stringOp _ _ _
  | exact plain_getObj _
  | exact plain_setObj _ _ trivial
  | exact plain_new _ trivial
  | exact plain_unary _ _
  | exact plain_intToInt _ _
  | exact plain_min2 _ _
  | exact plain_max2 _ _
  | exact plain_getLoop _
  | exact plain_enterLoop _ _ _ _ _ _
  | exact plain_yield _ _
  | with_reducible refine Plain.bind ?_ (fun _ => ?_)
  | with_reducible refine Plain.map ?_
  | dsimp only
  | split
  | intro _)
theorem plain_endRound (l : Nat) (j : Option Code) : Plain P (Instr.endRound l j) := by
 unfold Instr.endRound
 repeat' (first
  | exact plain_pure _ | exact plain_pure' _ | exact plain_stuck _ | exact plain_unsup _ | exact plain_panic _ | exact plain_halt _
  | exact plain_runtimePanic _
  | exact plain_boundsPanic _ _ _ _
  | exact plain_choose _
  | exact plain_program
  | exact plain_typeInfo _
  | exact plain_underlying _
  | exact plain_sizeOf _
  | exact plain_asBool _
  | exact plain_intArith _ _ _ _
  | exact plain_intBits _ _ _ _
  | exact plain_stringOp _ _ _
  | exact plain_getObj _
  | exact plain_setObj _ _ trivial
  | exact plain_new _ trivial
  | exact plain_unary _ _
  | exact plain_intToInt _ _
  | exact plain_min2 _ _
  | exact plain_max2 _ _
  | exact plain_getLoop _
  | exact plain_enterLoop _ _ _ _ _ _
  | exact plain_yield _ _
  | exact plain_beginRound _
  | with_reducible refine Plain.bind ?_ (fun _ => ?_)
  | with_reducible refine Plain.map ?_
  | dsimp only
  | split
  | intro _)
theorem plain_endLoop (l : Nat) : Plain P (Instr.endLoop l) := by
 unfold Instr.endLoop
 repeat' (first
  | exact plain_pure _ | exact plain_pure' _ | exact plain_stuck _ | exact plain_unsup _ | exact plain_panic _ | exact plain_halt _
  | exact plain_runtimePanic _
  | exact plain_boundsPanic _ _ _ _
  | exact plain_choose _
  | exact plain_program
  | exact plain_typeInfo _
  | exact plain_underlying _
  | exact plain_sizeOf _
  | exact plain_asBool _
  | exact plain_intArith _ _ _ _
  | exact plain_intBits _ _ _ _
  | exact plain_stringOp _ _ _
  | exact plain_getObj _
  | exact plain_setObj _ _ trivial
  | exact plain_new _ trivial
  | exact plain_unary _ _
  | exact plain_intToInt _ _
  | exact plain_min2 _ _
  | exact plain_max2 _ _
  | exact plain_getLoop _
  | exact plain_enterLoop _ _ _ _ _ _
  | exact plain_yield _ _
  | exact plain_beginRound _
  | exact plain_endRound _ _
  | with_reducible refine Plain.bind ?_ (fun _ => ?_)
  | with_reducible refine Plain.map ?_
  | dsimp only
  | split
  | intro _)
theorem plain_takeDeferred (l : Nat) : Plain P (Instr.takeDeferred l) := by
 unfold Instr.takeDeferred
 repeat' (first
  | exact plain_pure _ | exact plain_pure' _ | exact plain_stuck _ | exact plain_unsup _ | exact plain_panic _ | exact plain_halt _
  | exact plain_runtimePanic _
  | exact plain_boundsPanic _ _ _ _
  | exact plain_choose _
  | exact plain_program
  | exact plain_typeInfo _
  | exact plain_underlying _
  | exact plain_sizeOf _
  | exact plain_asBool _
  | exact plain_intArith _ _ _ _
  | exact plain_intBits _ _ _ _
  | exact plain_stringOp _ _ _
  | exact plain_getObj _
  | exact plain_setObj _ _ trivial
  | exact plain_new _ trivial
  | exact plain_unary _ _
  | exact plain_intToInt _ _
  | exact plain_min2 _ _
  | exact plain_max2 _ _
  | exact plain_getLoop _
  | exact plain_enterLoop _ _ _ _ _ _
  | exact plain_yield _ _
  | exact plain_beginRound _
  | exact plain_endRound _ _
  | exact plain_endLoop _
  | with_reducible refine Plain.bind ?_ (fun _ => ?_)
  | with_reducible refine Plain.map ?_
  | dsimp only
  | split
  | intro _)
theorem plain_checkKey (em : Bool) : ∀ (n : Nat) (t : TypeId) (v : Value), NP v → Plain P (Instr.checkKey em n t v)
 | 0, t, v, _ => by unfold Instr.checkKey; exact plain_unsup _
 | n + 1, t, v, hv => by
  unfold Instr.checkKey
  refine Plain.bind (plain_underlying t) fun u => ?_
  split
  ·exact hv.elim
  ·refine Plain.bind (plain_forInR _ _ fun i b => ?_) fun _ => plain_pure _
   refine Plain.bind (plain_sizeOf _) fun m => plain_partThen hv fun x hx => Plain.bind (plain_checkKey em n _ x hx) fun _ => plain_pure _
  ·refine Plain.bind (plain_forInA _ _ fun f b => ?_) fun _ => plain_pure _
   split
   ·exact plain_partThen hv fun x hx => Plain.bind (plain_checkKey em n _ x hx) fun _ => plain_pure _
   ·exact plain_pure _
  ·exact plain_pure _
  ·exact plain_stuck _
  ·exact plain_stuck _
  ·exact plain_stuck _
  ·exact plain_pure _
theorem plain_findAsking (t : TypeId) (k : Value) (hk : NP k) : ∀ (es : List MapEntry) (i : Nat), (∀ e ∈ es, NP e.key) → Plain P (Instr.findAsking t k es i)
 | [], i, _ => by unfold Instr.findAsking; exact plain_pure _
 | e :: es, i, h => by
  unfold Instr.findAsking
  refine Plain.bind (plain_equal _ _ _ hk (h e List.mem_cons_self)) fun b => ?_
  split
  ·exact plain_pure _
  ·exact plain_findAsking t k hk es _ fun x hx => h x (List.mem_cons_of_mem _ hx)
theorem plain_findKey (t : TypeId) (k : Value) (es : List MapEntry) (hk : NP k) (h : ∀ e ∈ es, NP e.key) : Plain P (Instr.findKey t k es) := by
 unfold Instr.findKey
 refine Plain.bind (plain_underlying t) fun u => ?_
 split
 ·exact plain_pure _
 ·exact plain_findAsking t k hk es _ h
theorem plain_keyThatStays (a b : Value) : Plain P (Instr.keyThatStays a b) := by
 unfold Instr.keyThatStays
 split
 ·exact plain_pure _
 ·exact Plain.bind (plain_choose _) fun _ => plain_pure _
def Tame (P : Program) (s : Sem α) (w : World) : Prop := ∀ x w', s.run P w = .ok x w' → Fine P s w
theorem Plain.tame {s : Sem α} (h : Plain P s) (w : World) : Tame P s w := h w
theorem Tame.bind {s : Sem α} {f : α → Sem β} (hs : Tame P s w) (h : ∀ x w1, s.run P w = .ok x w1 → Tame P (f x) w1) : Tame P (s >>= f) w :=
 fun y w' hr => tame_bind hs (fun x w1 y w' h1 h2 => h x w1 h1 y w' h2) hr
theorem run_getObj_inv {r : Nat} {o : Obj} {w1 : World} (h : (getObj r).run P w = .ok o w1) : w.heap[r]? = some o ∧ w1 = w := by
 obtain ⟨o', h1, h2, h3⟩ := getObj_ok (k := Sem.pure) h
 simp only [Sem.run] at h3
 injection h3 with h4 h5; subst h4; subst h5
 exact ⟨h1, rfl⟩
theorem run_underlying_inv {t : TypeId} {d : TypeDesc} {w1 : World} (h : (underlying t).run P w = .ok d w1) : P.underlying t = some d ∧ w1 = w := by
 unfold underlying at h
 simp only [program, Sem.run_bind, Sem.run, Result.andThen_ok] at h
 split at h
 ·rename_i x hx
  simp only [Sem.run_pure] at h
  injection h with h1 h2; subst h1; subst h2; exact ⟨hx, rfl⟩
 ·simp [stuck, Sem.run] at h
def MapNP (w : World) (v : Value) : Prop := ∀ r, v = .map (some r) → ∀ es cl, w.heap[r]? = some (.map es cl) → ∀ e ∈ es.toList, NP e.key
theorem tame_lookup (t : TypeId) (x k : Value) (ok : Bool) (hk : NP k) (hm : MapNP w x) : Tame P (Instr.lookup t x k ok) w := by
 unfold Instr.lookup
 refine Tame.bind ((plain_underlying t).tame w) fun u w1 hu => ?_
 obtain ⟨_, rfl⟩ := run_underlying_inv hu
 split
 ·rename_i key elem _
  have hjp : ∀ es : Array MapEntry, (∀ e ∈ es.toList, NP e.key) → ∀ w, Tame P (do
    Instr.checkKey es.isEmpty 10000 key k
    let (v, okk) ← match ← Instr.findKey key k es.toList with
     | some (_, v) => pure (v, true)
     | none => pure (← zeroValue elem, false)
    pure (if ok then .tuple #[v, .bool okk] else v) : Sem Value) w := by
   intro es hes w
   refine Plain.tame ?_ w
   refine Plain.bind (plain_checkKey _ _ _ _ hk) fun _ => Plain.bind (plain_findKey _ _ _ hk hes) fun r => ?_
   dsimp only
   split
   ·exact Plain.bind (plain_pure _) fun _ => plain_pure _
   ·exact Plain.bind (plain_zeroValue _) fun _ => Plain.bind (plain_pure _) fun _ => plain_pure _
  dsimp only
  split
  ·exact Tame.bind ((plain_pure _).tame _) fun es w1 he => by
    simp only [Sem.run_pure] at he
    injection he with h1 h2; subst h1; subst h2
    exact hjp #[] (by simp) _
  ·rename_i r
   refine Tame.bind ((plain_getObj r).tame _) fun o w1 ho => ?_
   obtain ⟨ho, rfl⟩ := run_getObj_inv ho
   split
   ·rename_i es cl _
    exact Tame.bind ((plain_pure _).tame _) fun es' w1 he => by
     simp only [Sem.run_pure] at he
     injection he with h1 h2; subst h1; subst h2
     exact hjp es (hm r rfl es _ ho) _
   ·exact (plain_stuck _).tame _
  ·exact (plain_stuck _).tame _
 ·exact (plain_stuck _).tame _
theorem tame_mapUpdate (t : TypeId) (x k v : Value) (hk : NP k) (hm : MapNP w x) : Tame P (Instr.mapUpdate t x k v) w := by
 unfold Instr.mapUpdate
 refine Tame.bind ((plain_underlying t).tame w) fun u w1 hu => ?_
 obtain ⟨_, rfl⟩ := run_underlying_inv hu
 split
 ·split
  ·exact (plain_runtimePanic _).tame _
  ·rename_i r
   refine Tame.bind ((plain_getObj r).tame _) fun o w1 ho => ?_
   obtain ⟨ho, rfl⟩ := run_getObj_inv ho
   split
   ·rename_i es cl _
    refine Plain.tame ?_ _
    refine Plain.bind (plain_checkKey _ _ _ _ hk) fun _ => Plain.bind (plain_findKey _ _ _ hk (hm r rfl es _ ho)) fun q => ?_
    split
    ·exact Plain.bind (plain_keyThatStays _ _) fun _ => plain_setObj _ _ trivial
    ·exact plain_setObj _ _ trivial
   ·exact (plain_stuck _).tame _
  ·exact (plain_stuck _).tame _
 ·exact (plain_stuck _).tame _
theorem tame_convert {k : IntKind} (s d : TypeId) (n : Int) (l : IntKind) (hd : P.underlying d = some (.int k)) : Tame P (convert s d (.int l n)) w := by
 unfold convert
 refine Tame.bind ((plain_underlying s).tame w) fun u w1 hu => ?_
 obtain ⟨_, rfl⟩ := run_underlying_inv hu
 refine Tame.bind ((plain_underlying d).tame _) fun u2 w1 hu2 => ?_
 obtain ⟨h2, rfl⟩ := run_underlying_inv hu2
 rw [hd] at h2
 injection h2 with h2; subst h2
 exact (plain_intToInt _ _).tame _
end
end Go.Eng
