/- A letter, a list of digits, a share: what the program reads of a term without signs. -/
import Derived.Test.YtbpemgpbmabnbaaDoorTmB
import Derived.Test.YtbpemgpbmabnbaaDoorSh
import Derived.Lib.OthersKept
namespace Go.Proofs.YtbpemgpbmabnbaaDoor.tm
open Go.ChangeShapes Go.WideShapes Go.ChangeAt Go.RowKit Go.Tm
set_option linter.unusedVariables false
set_option linter.unusedSimpArgs false

def lastOf (a : List Nat) (k : Nat) : Nat := if k = 0 then 6 else gn a (k - 1)
theorem drop_gn (a : List Nat) (k : Nat) (h : k < a.length) : a.drop k = gn a k :: a.drop (k + 1) := by
  rw [List.drop_eq_getElem_cons h]; simp [gn, h]
theorem share_step (a : List Nat) (k left : Nat) (h : k < a.length) :
    shareB (a.drop k) (lastOf a k) left = (decide (1 ≤ gn a k) && decide (gn a k ≤ left) && decide (gn a k ≤ lastOf a k) && shareB (a.drop (k + 1)) (lastOf a (k + 1)) (left - gn a k)) := by
  rw [drop_gn a k h]; simp [shareB, lastOf]
theorem ret_pick (b : Bool) (x : Value) : ∀ {e : Value} (hb : b = true) (he : e = x), Ending.returned e = .returned (if b then x else e) := fun hb he => by rw [hb]; simp [he]
set_option maxHeartbeats 1000000 in
theorem share_of (w : World) (sl : Value) (a : List Nat) (hr : RowAt w sl a) (ha : ∀ i, gn a i ≤ 9) (hl : a.length ≤ 40) :
    Calls Tryd.prog 54 #[sl] w fun e w' => e = .returned (bif isShare a then .tuple #[sl, .bool true] else .tuple #[.slice none 0 0, .bool false]) ∧ w = w' := by
  obtain ⟨b, o, cap, rfl, h1, h2⟩ := hr
  go_enter Tryd.func54, Tryd.ntmps54
  go_wp2
  go_loop [4, 9] (fun q i => ∃ k left : Nat, k ≤ a.length ∧ i = .int .i64 k ∧ q = .int .i64 left ∧ left ≤ 6 ∧ Hid (isShare a = shareB (a.drop k) (lastOf a k) left)) (fun _ i => a.length - (intOf i).toNat)
  case atStart => exact ⟨0, 6, Nat.zero_le _, rfl, rfl, by omega, Lib.hid rfl⟩
  case round =>
    obtain ⟨k, left, hk, rfl, rfl, hle, H⟩ := hrel
    by_cases hlt : k < a.length
    · have g0 := h2 k hlt
      have h9 := ha k
      have HS := Lib.hid (H.out.trans (share_step a k left hlt))
      by_cases c1 : gn a k < 1
      · have HF : Hid (isShare a = false) := Lib.hid (by rw [HS.out, decide_eq_false (by omega : ¬ 1 ≤ gn a k)]; rfl)
        clear h2 ha
        go_wp2
        go_ret2
        exact ⟨by rw [HF.out]; rfl, rfl⟩
      · by_cases c2 : left < gn a k
        · have HF : Hid (isShare a = false) := Lib.hid (by rw [HS.out, decide_eq_false (by omega : ¬ gn a k ≤ left)]; simp)
          clear h2 ha
          go_wp2
          go_ret2
          exact ⟨by rw [HF.out]; rfl, rfl⟩
        · by_cases c3 : k = 0
          · subst c3
            have g0 : w.cell? ⟨b, o, none⟩ = some (.int .i64 (gn a 0)) := by simpa only [Nat.add_zero] using g0
            have HN : Hid (isShare a = shareB (a.drop 1) (lastOf a 1) (left - gn a 0)) := Lib.hid (by rw [HS.out, decide_eq_true (by omega : 1 ≤ gn a 0), decide_eq_true (by omega : gn a 0 ≤ left), decide_eq_true (by simp [lastOf]; omega : gn a 0 ≤ lastOf a 0)]; simp)
            clear h2 ha
            go_wp2
            go_round
            case rel => exact ⟨1, left - gn a 0, by omega, by go_num, by go_num, by omega, HN⟩
            case measure => simp [intOf]; omega
          · have hk0 : (0 : Int) < (k : Int) := by omega
            have g1 := h2 (k - 1) (by omega)
            have e1 : ((k : Int) - 1).toNat = k - 1 := by omega
            have b1 : (k : Int) - 1 < (a.length : Int) := by omega
            have b0 : 0 ≤ (k : Int) - 1 := by omega
            have h9' := ha (k - 1)
            have HL : lastOf a k = gn a (k - 1) := by unfold lastOf; rw [if_neg c3]
            by_cases c4 : gn a (k - 1) < gn a k
            · have HF : Hid (isShare a = false) := Lib.hid (by rw [HS.out, decide_eq_false (by omega : ¬ gn a k ≤ lastOf a k)]; simp)
              clear h2 ha HL
              go_wp2
              go_ret2
              exact ⟨by rw [HF.out]; rfl, rfl⟩
            · have HN : Hid (isShare a = shareB (a.drop (k + 1)) (lastOf a (k + 1)) (left - gn a k)) := Lib.hid (by rw [HS.out, decide_eq_true (by omega : 1 ≤ gn a k), decide_eq_true (by omega : gn a k ≤ left), decide_eq_true (by omega : gn a k ≤ lastOf a k)]; simp)
              clear h2 ha HL
              go_wp2
              go_round
              case rel => exact ⟨k + 1, left - gn a k, by omega, by go_num, by go_num, by omega, HN⟩
              case measure => simp [intOf]; omega
    · have : k = a.length := by omega
      subst this
      have HF : Hid (isShare a = true) := Lib.hid (by rw [H.out]; simp [shareB])
      clear h2 ha
      go_wp2
      go_ret2
      exact ⟨by rw [HF.out]; rfl, rfl⟩

theorem way_in (c : UInt8) (w : World) : Calls Tryd.prog 52 #[.string ⟨#[c]⟩] w fun e w' => e = .returned (.bool (isL c)) ∧ w = w' := by
  go_enter Tryd.func52, Tryd.ntmps52
  go_wp2
  all_goals
    go_ret
    refine ⟨congrArg (fun b => Ending.returned (.bool b)) ?_, rfl⟩
    simp_all [isL]
theorem info3 : (Tryd.prog.info? 3).map (fun i => (i.zero, i.size, i.bytes)) = some (some (.int .i64 0), 1, 8) := by kernel_rfl
/-- the numbers of digits -/
def nums (d : List UInt8) : List Value := d.map fun c => .int .i64 ((dec c : Nat) : Int)
theorem nums_snoc (d : List UInt8) (k : Nat) (h : k < d.length) : nums (d.take (k + 1)) = nums (d.take k) ++ [.int .i64 ((dec d[k] : Nat) : Int)] := by
  rw [List.take_succ_eq_append_getElem h]; unfold nums; rw [List.map_append]; rfl
structure PR (w wr : World) (d : List UInt8) (v : Value) (k : Nat) : Prop where
  own : wr.ownsRow w.heap.size 3 1 v k (nums (d.take k))
  it : wr.heap[w.heap.size + 1]? = some (.stringIter ⟨d.toArray⟩ k)
  below : Below w.heap.size w wr
  nn : v ≠ .slice none 0 0
theorem heap_new (w : World) (o : Obj) : (w.alloc o).heap[w.heap.size]? = some o := by
  show (w.heap.push o)[w.heap.size]? = _
  simp
theorem PR.start (w : World) (d : List UInt8) : PR w ((w.alloc (.cells #[] 3)).iter ⟨d.toArray⟩ 0) d (.slice (some ⟨w.heap.size, 0, none⟩) 0 0) 0 := by
  have e : (w.alloc (.cells #[] 3)).iter ⟨d.toArray⟩ 0 = (w.alloc (.cells #[] 3)).alloc (.stringIter ⟨d.toArray⟩ 0) := rfl
  rw [e]
  refine ⟨⟨by simp [nums], .inr ⟨w.heap.size, 0, #[], rfl, Nat.le_refl _, ?_, Nat.le_refl _, by unfold maxLen; omega, by simp, by simp [nums]⟩⟩, ?_, ((Below.refl _ _).alloc (Nat.le_refl _) _).alloc (by simp) _, by simp⟩
  · rw [Below.heap_alloc _ _ _ (by simp)]; exact heap_new _ _
  · have := heap_new (w.alloc (.cells #[] 3)) (.stringIter ⟨d.toArray⟩ 0)
    simpa using this
theorem iterPos_is {w : World} {k : Nat} {s : ByteArray} {p : Nat} (h : w.heap[k]? = some (.stringIter s p)) : w.iterPos k = p := by simp [World.iterPos, h]
theorem owns_iterAt {w : World} {base : Nat} {e : TypeId} {size : Nat} {v : Value} {n : Nat} {xs : List Value} (h : w.ownsRow base e size v n xs) {k : Nat} {s : ByteArray} {p : Nat} (hk : w.heap[k]? = some (.stringIter s p)) (q : Nat) : (w.iterAt k s q).ownsRow base e size v n xs := by
  obtain ⟨h1, h2⟩ := h
  refine ⟨h1, ?_⟩
  rcases h2 with h2 | ⟨g, cap, cur, e1, e2, e3, e4⟩
  · exact .inl h2
  · refine .inr ⟨g, cap, cur, e1, e2, ?_, e4⟩
    have : g ≠ k := by intro e; subst e; rw [hk] at e3; cases e3
    simp [World.iterAt, Array.getElem?_setIfInBounds, this.symm, e3]
theorem below_iterAt {B : Nat} {w wr : World} (h : Below B w wr) {k : Nat} (hk : B ≤ k) (s : ByteArray) (q : Nat) : Below B w (wr.iterAt k s q) :=
  ⟨h.os, h.tape, h.output, by simpa [World.iterAt] using h.size, fun j hj => by
    have : j ≠ k := by omega
    rw [← h.block j hj]; simp [World.iterAt, Array.getElem?_setIfInBounds, this.symm]⟩
theorem PR.step {w wr w1 : World} {d : List UInt8} {v v' : Value} {k : Nat} (h : PR w wr d v k) (hk : k < d.length) {o : Obj}
    (hown : w1.ownsRow w.heap.size 3 1 v' (k + 1) (nums (d.take k) ++ [.int .i64 ((dec d[k] : Nat) : Int)]))
    (hg : ((wr.iterAt (w.heap.size + 1) ⟨d.toArray⟩ (k + 1)).alloc o).grownBy w1 v.ownBlock) (hn : v' = .slice none 0 0 ↔ v = .slice none 0 0 ∧ 1 = 0) : PR w w1 d v' (k + 1) := by
  have hlt : w.heap.size + 1 < wr.heap.size := (Array.getElem?_eq_some_iff.1 h.it).1
  have hne : some (w.heap.size + 1) ≠ v.ownBlock := by
    intro e
    obtain ⟨_, h2⟩ := h.own
    rcases h2 with ⟨h2, _⟩ | ⟨g, cap, cur, e1, e2, e3, e4⟩
    · subst h2; cases e
    · subst e1
      have : w.heap.size + 1 = g := by simpa [Value.ownBlock] using e
      subst this; rw [h.it] at e3; cases e3
  have hi := Lib.iterAt_heap wr (w.heap.size + 1) ⟨d.toArray⟩ k (k + 1) h.it
  have hb := (below_iterAt h.below (k := w.heap.size + 1) (by omega) ⟨d.toArray⟩ (k + 1)).alloc (by simpa [World.iterAt] using (by omega : w.heap.size ≤ wr.heap.size)) o
  refine ⟨by rw [nums_snoc d k hk]; exact hown, ?_, ?_, fun e => by have := (hn.1 e).2; omega⟩
  · rw [hg.block _ (by simp [World.iterAt]; omega) hne]
    rw [Below.heap_alloc _ _ _ (by simp [World.iterAt]; omega)]; exact hi
  · refine hb.grown hg (by simp [World.iterAt]; omega) fun j hj => ?_
    have := (h.own.lt j hj).1; omega
theorem PR.row {w wr : World} {d : List UInt8} {v : Value} (h : PR w wr d v d.length) : RowAt wr v (d.map dec) := by
  have hc := fun g => h.own.cells (g := g)
  obtain ⟨_, h2⟩ := h.own
  rcases h2 with ⟨h2, _⟩ | ⟨g, cap, cur, e1, e2, e3, e4⟩
  · exact absurd h2 h.nn
  · subst e1
    refine ⟨g, 0, cap, by simp, (Array.getElem?_eq_some_iff.1 e3).1, fun i hi => ?_⟩
    have hi' : i < d.length := by simpa using hi
    have := hc g (by simp [Value.ownBlock]) i (.int .i64 ((dec d[i] : Nat) : Int)) (by simp [nums, hi'])
    have e : (⟨g, 0, none⟩ : Addr).add i = ⟨g, 0 + i, none⟩ := by cases i <;> simp [Addr.add]
    rw [e] at this
    rw [this]; simp [gn, hi']
set_option maxRecDepth 10000 in
set_option maxHeartbeats 1000000 in
theorem parts_of (w : World) (d : List UInt8) (hd : ∀ c ∈ d, isD c = true) (hl : d.length ≤ 40) :
    Calls Tryd.prog 55 #[.string ⟨d.toArray⟩] w fun e w' => ∃ v, e = .returned v ∧ RowAt w' v (d.map dec) ∧ Below w.heap.size w w' := by
  obtain ⟨i0, hi, hz0, hz1, hz2⟩ := info_parts info3
  go_enter Tryd.func55, Tryd.ntmps55
  go_wp2
  go_loopw [3] (fun v wr => ∃ k : Nat, k ≤ d.length ∧ PR w wr d v k) (fun _ wr => d.length - wr.iterPos (w.heap.size + 1))
  case atStart =>
    exact ⟨0, Nat.zero_le _, PR.start w d⟩
  case round =>
    obtain ⟨k, hk, hP⟩ := hrel
    by_cases hlt : k < d.length
    · have hc := hd d[k] (List.getElem_mem hlt)
      have hcs : (⟨d.toArray⟩ : ByteArray).size = d.length := rfl
      obtain ⟨x, hx⟩ : ∃ x, x = (d[k]).toNat := ⟨_, rfl⟩
      have hlo : 48 ≤ x ∧ x ≤ 57 := by simpa [isD, hx] using hc
      obtain ⟨hlo, hhi⟩ := hlo
      have hnx : ∀ ty, (Instr.next (.pointer (some ⟨w.heap.size + 1, 0, none⟩)) true ty).run Tryd.prog wr = .ok (.tuple #[.bool true, .int .i64 k, .int .i32 ((x : Nat) : Int)]) (wr.iterAt (w.heap.size + 1) ⟨d.toArray⟩ (k + 1)) :=
        fun ty => by rw [hx]; exact Lib.run_next_ascii_at wr (w.heap.size + 1) ⟨d.toArray⟩ k ty hP.it hlt (by show (d[k]).toNat < 128; omega)
      have hown := owns_iterAt hP.own hP.it (k + 1)
      have hz : (x : Int) - 48 = ((dec d[k] : Nat) : Int) := by unfold dec; omega
      have HZ := Lib.hid hz
      clear hz hx hcs hc
      have hbs : w.heap.size ≤ wr.heap.size := hP.below.size
      go_wp2_with (at_builtin; refine wpList_append_own _ rfl _ _ 30 rfl w.heap.size 3 i0 (.int .i64 0) 1 8 Tryd.underlying30 hi hz0 hz1 hz2 rfl (by decide) _ _ _ rfl (hown.alloc _) ⟨(wr.iterAt (w.heap.size + 1) ⟨d.toArray⟩ (k + 1)).heap.size, 0, none⟩ 1 1 [.int .i64 ((x : Int) - 48)] rfl rfl (cell_one_new _ _ _) (by simp [Value.oneCell']) (by unfold maxLen; omega) (by omega) (Nat.le_trans hbs (by simp [World.iterAt])) ?_; intro v' w1 hown' hgrow hnil)
      rw [HZ.out] at hown'
      have hI := hP.step hlt hown' hgrow hnil
      have hq0 := Lib.hid (iterPos_is hP.it)
      have hq1 := Lib.hid (iterPos_is hI.it)
      clear hown hown' hgrow hP hnx hnil
      go_wp2
      go_roundw
      case rel => exact ⟨k + 1, by omega, hI⟩
      case measure => rw [hq0.out, hq1.out]; omega
    · have : k = d.length := by omega
      subst this
      have hnx : ∀ ty, (Instr.next (.pointer (some ⟨w.heap.size + 1, 0, none⟩)) true ty).run Tryd.prog wr = _ := fun ty => Lib.run_next_end_at wr (w.heap.size + 1) ⟨d.toArray⟩ d.length ty hP.it (by show ¬ d.length < d.length; omega)
      have hbel := hP.below
      have hr := PR.row hP
      clear hP
      go_wp2
      go_ret
      exact ⟨_, rfl, hr, hbel⟩
theorem gn_digit (d : List UInt8) (a : List Nat) (ha : a = d.map dec) (h : ∀ c ∈ d, isD c = true) (i : Nat) : gn a i ≤ 9 := by
  subst ha
  unfold gn
  rw [List.getD_eq_getElem?_getD, List.getElem?_map]
  cases e : d[i]? with
  | none => simp
  | some c =>
    have := h c (List.mem_of_getElem? e)
    simp only [isD, Bool.and_eq_true, decide_eq_true_eq] at this
    simp [dec]; omega
theorem mem_take_while : ∀ (l : List UInt8) (c : UInt8), c ∈ l.takeWhile isD → isD c = true
  | [], c, h => by cases h
  | x :: l, c, h => by
    rw [List.takeWhile_cons] at h
    split at h
    · rename_i hx
      rcases List.mem_cons.1 h with rfl | h
      · exact hx
      · exact mem_take_while l c h
    · cases h
/-- what TermDegree comes to -/
def degV (l : List UInt8) : Value := match whole l with | some t => .tuple #[.int .i64 ((t.deg : Nat) : Int), .bool true] | none => .tuple #[.int .i64 0, .bool false]
end Go.Proofs.YtbpemgpbmabnbaaDoor.tm
