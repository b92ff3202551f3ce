/- Part of the evaluator, in company. -/
import Derived.Test.YtadmpiidofncpacOEngN
set_option linter.unusedSectionVars false
set_option linter.unusedSimpArgs false
set_option linter.unusedVariables false
namespace Go.Eng
open Go Go.RowKit
open Go.Conc
inductive SCls where
 | known (k : Nat)
 | other
 | long
noncomputable section
def kText : List ByteArray := [⟨#[109]⟩, ⟨#[101]⟩, ⟨#[104]⟩, ⟨#[112]⟩, ⟨#[115]⟩, ⟨#[]⟩]
def SCls.word (c : SCls) (j : Nat) : Nat := SCls.rec (motive := fun _ => Nat) (fun k => knownT.getD k 0) (ostrW j 0 1048576) (ostrW j 1048577 0) c
def SCls.Fits (c : SCls) (s : ByteArray) : Prop := SCls.rec (motive := fun _ => Prop) (fun k => k < 6 ∧ s = kText.getD k ⟨#[]⟩) (inT knownT (strW s) = false ∧ s.size ≤ 1048576) (inT knownT (strW s) = false ∧ 1048577 ≤ s.size) c
def sclasses : List SCls := [.known 0, .known 1, .known 2, .known 3, .known 4, .known 5, .other, .long]
def SCls.told (c : SCls) (s : ByteArray) : ByteArray := SCls.rec (motive := fun _ => ByteArray) (fun _ => ⟨#[0]⟩) s s c
end
theorem zee {l : List Nat} {w : Nat} : inT l w = true → w ∈ l := by
 induction l with
 | nil => intro h; cases h
 | cons x l ih =>
  intro h
  have e : inT (x :: l) w = sel (Nat.beq x w) true (inT l w) := rfl
  rw [e, z8] at h
  split at h
  ·rename_i h1; rw [h1]; exact List.mem_cons_self
  ·exact List.mem_cons_of_mem _ (ih h)
theorem z7A : ∀ k, k < 6 → strW (kText.getD k ⟨#[]⟩) = knownT.getD k 0 := by
 intro k hk
 have : k = 0 ∨ k = 1 ∨ k = 2 ∨ k = 3 ∨ k = 4 ∨ k = 5 := by omega
 rcases this with rfl | rfl | rfl | rfl | rfl | rfl <;> rfl
theorem SCls.zef (s : ByteArray) : ∃ c ∈ sclasses, c.Fits s := by
 cases hT : inT knownT (strW s) with
 | false =>
  by_cases hl : s.size ≤ 1048576
  ·exact ⟨.other, by simp [sclasses], hT, hl⟩
  ·exact ⟨.long, by simp [sclasses], hT, by omega⟩
 | true =>
  have hm := zee hT
  letI : Env := noEnv
  letI := pad0
  have key : ∀ k, k < 6 → strW s = knownT.getD k 0 → s = kText.getD k ⟨#[]⟩ := fun k hk h => zaB (h.trans (z7A k hk).symm)
  simp only [knownT, List.mem_cons, List.not_mem_nil, or_false] at hm
  rcases hm with h | h | h | h | h | h
  ·exact ⟨.known 0, by simp [sclasses], by omega, key 0 (by omega) h⟩
  ·exact ⟨.known 1, by simp [sclasses], by omega, key 1 (by omega) h⟩
  ·exact ⟨.known 2, by simp [sclasses], by omega, key 2 (by omega) h⟩
  ·exact ⟨.known 3, by simp [sclasses], by omega, key 3 (by omega) h⟩
  ·exact ⟨.known 4, by simp [sclasses], by omega, key 4 (by omega) h⟩
  ·exact ⟨.known 5, by simp [sclasses], by omega, key 5 (by omega) h⟩
theorem SCls.z6C {c : SCls} {s : ByteArray} (hf : c.Fits s) : inT knownT (strW (c.told s)) = false := by
 cases c with
 | known k => exact zcU
 | other => exact hf.1
 | long => exact hf.1
theorem SCls.put [E : Env] {ρ : Rho} {L : Look} {s : ByteArray} {j : Nat} (k : SCls) (hf : k.Fits s) (ht : E.txt j = k.told s) (hi : E.int (txtIx j) = ((k.told s).size : Int)) : VR ρ L (k.word j) (.string s) := by
 cases k with
 | known k =>
  obtain ⟨h1, rfl⟩ := hf
  show VR ρ L (knownT.getD k 0) _
  rw [← z7A k h1]
  exact .str _
 | other =>
  have ht : E.txt j = s := ht
  have hi : E.int (txtIx j) = (s.size : Int) := hi
  have h2 : s.size ≤ 1048576 := hf.2
  show VR ρ L (ostrW j 0 1048576) _
  rw [← ht]
  exact .ostr j 0 1048576 (by omega) (by omega) (by omega) (.inr (by rw [ht]; exact h2)) (by rw [ht, hi])
 | long =>
  have ht : E.txt j = s := ht
  have hi : E.int (txtIx j) = (s.size : Int) := hi
  have h2 : 1048577 ≤ s.size := hf.2
  show VR ρ L (ostrW j 1048577 0) _
  rw [← ht]
  exact .ostr j 1048577 0 (by omega) (by omega) (by rw [ht]; exact h2) (.inl rfl) (by rw [ht, hi])
@[reducible] noncomputable def textE (z : Int) (hz : -9223372036854775808 ≤ z ∧ z < 9223372036854775808) (s : ByteArray) (hs : s.size < 9223372036854775808) (ht : inT knownT (strW s) = false) : Env :=
 { noEnv with
  int := fun j => if j = 0 then z else if j = txtIx 0 then (s.size : Int) else noEnv.int j
  txt := fun _ => s
  txtNe := fun _ _ => ht
  wf := fun j => by
   split
   ·exact hz
   ·split
    ·omega
    ·exact noEnv.wf j
  len := fun j h => by
   have e1 : lenIx j = 1099511627776 + j := rfl
   have e2 : txtIx 0 = 1099512676352 := rfl
   rw [if_neg (by omega), if_neg (by omega)]
   exact noEnv.len j h }
theorem text_win {P : Program} {ty : TypeId} {f r m : Nat} {W : World} {fn : Func} (hfn : P.funcs[f]? = some fn) (hres : fn.results = #[.tmp r]) (hin : P.inits.idxOf? f = none) (hm : m < 1000)
  (hall : ∀ c ∈ sclasses, GoodRun P ty f [c.word 0, wV 0 0 549755813887] ∧ GoodRun P ty f [c.word 0, wV 0 (549755813889 + m) 0] ∧ ∀ k, k ≤ m → GoodRun P ty f [c.word 0, wI k])
  (s : ByteArray) (hs : s.size < 9223372036854775808) (z : Int) (hz : -9223372036854775808 ≤ z ∧ z < 9223372036854775808) :
  Win P true (leapP ty) (Ends P (LawQ W)) (Frame.enter P f #[.string s, .int .i64 z] .normal, [], V0 W) := by
 obtain ⟨k0, hk0, hf⟩ := SCls.zef s
 obtain ⟨hneg, hbig, his⟩ := hall k0 hk0
 have hsz : (k0.told s).size < 9223372036854775808 := by
  cases k0 with
  | known k => show (ByteArray.mk #[0]).size < _; decide
  | other => exact hs
  | long => exact hs
 letI : Env := textE z hz (k0.told s) hsz (SCls.z6C hf)
 have c : Ctx W.heap.size .nil 0 (fun _ => none) (fun _ => none) (V0 W) := by
  have := Ctx.start (V0 W)
  rw [za6] at this
  exact this
 have hE : (textE z hz (k0.told s) hsz (SCls.z6C hf)).int 0 = z := rfl
 have hT : VR (fun _ => none) (fun _ => none) (k0.word 0) (.string s) := SCls.put k0 hf rfl rfl
 by_cases h1 : z < 0
 ·obtain ⟨S, hS, hneg⟩ := hneg
  refine za7 hS hfn hres hin (textE z hz (k0.told s) hsz (SCls.z6C hf)) c (.cons _ _ _ _ hT (.cons _ _ _ _ ?_ .nil)) hneg
  have := VR.var (ρ := fun _ => none) (L := fun _ => none) 0 0 549755813887 (by omega) (by omega) (.inl rfl) (.inr (by rw [hE]; omega))
  rw [hE] at this; exact this
 ·by_cases h2 : z ≤ m
  ·obtain ⟨k, hk⟩ : ∃ k : Nat, z = k := ⟨z.toNat, by omega⟩
   obtain ⟨S, hS, hk'⟩ := his k (by omega)
   refine za7 hS hfn hres hin (textE z hz (k0.told s) hsz (SCls.z6C hf)) c (.cons _ _ _ _ hT (.cons _ _ _ _ ?_ .nil)) hk'
   have := VR.int (ρ := fun _ => none) (L := fun _ => none) k (by omega)
   have e : sInt k = (k : Int) := by unfold sInt; rw [if_pos (by omega)]
   rw [e, ← hk] at this; exact this
  ·obtain ⟨S, hS, hbig⟩ := hbig
   refine za7 hS hfn hres hin (textE z hz (k0.told s) hsz (SCls.z6C hf)) c (.cons _ _ _ _ hT (.cons _ _ _ _ ?_ .nil)) hbig
   have := VR.var (ρ := fun _ => none) (L := fun _ => none) 0 (549755813889 + m) 0 (by omega) (by omega) (.inr (by rw [hE]; omega)) (.inl rfl)
   rw [hE] at this; exact this
noncomputable def cN (l : List Nat) : Nat := List.rec (motive := fun _ => Nat) 0 (fun x _ ih => Nat.add (wI x) (Nat.shiftLeft ih 128)) l
noncomputable abbrev rS (l : List Nat) : Sh := .row 1 (lenN l) (cN l)
noncomputable abbrev aS (l : List Nat) : Sh := .agg 6 (cN l)
abbrev Grp := Sh × (Sh → List Sh) × List (Sh × Nat)
noncomputable def mm (f : Nat) (g : Grp) : List Memo := List.rec (motive := fun _ => List Memo) [] (fun x _ ih => (f, g.1 :: g.2.1 x.1, wI x.2) :: ih) g.2.2
noncomputable def grpT (f : Nat) (l : List Grp) : Sums := List.rec (motive := fun _ => Sums) noSums (fun g _ ih => orS (preS g.1 (memoS (mm f g))) ih) l
noncomputable def grpOk (P : Program) (S : Sums) (f : Nat) (l : List Grp) : Bool := List.rec (motive := fun _ => Bool) true (fun g _ ih => sel (allW P S (mm f g)) ih false) l
theorem z6D {P : Program} {S : Sums} (hS : Always P S) {f : Nat} : ∀ l, grpOk P S f l = true → Always P (grpT f l)
 | [], _ => noSums_always _
 | g :: l, h => by
  have e0 : grpOk P S f (g :: l) = sel (allW P S (mm f g)) (grpOk P S f l) false := rfl
  rw [e0] at h
  obtain ⟨h1, h2⟩ := selA h
  exact orS_always (zbM hS h1) (z6D hS l h2)
noncomputable def grpS (f : Nat) (l : List Grp) : Sums := onF f (grpT f l)
theorem grpS_always {P : Program} {S : Sums} (hS : Always P S) {f : Nat} (l : List Grp) (h : grpOk P S f l = true) : Always P (grpS f l) := zbL (z6D hS l h)
end Go.Eng
