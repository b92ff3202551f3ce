/- What a seat's program says of the function that draws a sum of one degree and way. -/
import Derived.Test.YtliimffphokmpaaDraw
import Derived.Test.YtliimffphokmpaaEngXh
import Derived.Deep.OwnRows
import Derived.LoopTactic
import Derived.OwnWalk
import Derived.Maps.AppendAt
namespace Go.Proofs.Ytliimffphokmpaa.like
open Go.ChangeShapes Go.WideShapes Go.ChangeAt Go.RowKit Go.Eng
set_option linter.unusedVariables false
set_option linter.unusedSimpArgs false
/-- a reader of a code at a place; all that it reads lies below B -/
structure Rd (w : World) (B rb d : Nat) (code : List Int) (p : Nat) : Prop where
  hs : ∃ cb cd cap, w.cell? ⟨rb, d, none⟩ = some (.slice (some ⟨cb, cd, none⟩) code.length cap) ∧ cb ≠ rb ∧ cb < B ∧ ∀ i, i < code.length → w.cell? ⟨cb, cd + i, none⟩ = some (.int .u8 (code.getD i 0))
  hp : w.cell? ⟨rb, d + 1, none⟩ = some (.int .i64 p)
  hf : w.frozen? ⟨rb, d + 1, none⟩ = false
  hB : rb < B
structure CodeOk (code : List Int) : Prop where
  l1 : 1 ≤ code.length
  l2 : code.length ≤ 2000
  byte : ∀ x ∈ code, 0 ≤ x ∧ x ≤ 255
theorem pick_any (w : World) (B rb d p n : Nat) (code : List Int) (K : CodeOk code) (hR : Rd w B rb d code p) (hn : 1 ≤ n) (hn2 : n ≤ 1000) (hp : p < 1000000) :
    Calls Try.prog 70 #[.pointer (some ⟨rb, d, none⟩), .int .i64 n] w fun e w' => e = .returned (.int .i64 (pickv code p n)) ∧ ∃ m, w' = (w.setCell ⟨rb, d + 1, none⟩ (.int .i64 (p + 1))).drewN m := by
  obtain ⟨cb, cd, cap, h1, h2, _, h3⟩ := hR.hs
  have hl1 := K.l1
  have hl2 := K.l2
  unfold pickv
  by_cases hc : p < code.length
  · rw [if_pos hc]
    have hb := getD_byte K.byte p
    refine (draw.pick_in w rb d cb cd code.length cap p n (code.getD p 0) hn hn2 hp hc hl2 h1 hR.hp h2 hR.hf (h3 p hc) hb.1 hb.2).mono ?_
    rintro e w' ⟨rfl, rfl⟩
    exact ⟨rfl, 0, rfl⟩
  · rw [if_neg hc]
    have g1 : p % code.length < code.length := Nat.mod_lt _ hl1
    have g2 : (p * 7 + 3) % code.length < code.length := Nat.mod_lt _ hl1
    have hb := getD_byte K.byte (p % code.length)
    have hb2 := getD_byte K.byte ((p * 7 + 3) % code.length)
    exact draw.pick_out w rb d cb cd code.length cap p n _ _ hn hn2 hp (by omega) hl2 hl1 h1 hR.hp h2 hR.hf (h3 _ g1) hb.1 hb.2 (h3 _ g2) hb2.1 hb2.2
theorem heap_own (w : World) (b o : Nat) (v : Value) : (w.setCell ⟨b, o, none⟩ v).heap[b]? = (w.heap[b]?).map fun | .cells c elem frozen => .cells (c.setIfInBounds o v) elem frozen | x => x := by
  show (w.heap.modify b _)[b]? = _
  rw [Array.getElem?_modify, if_pos rfl]
  rfl
theorem fr_next {B : Nat} {w0 wr : World} {rb o m : Nat} {u u' : Value} (h : Below B (w0.setCell ⟨rb, o, none⟩ u) wr) : Below B (w0.setCell ⟨rb, o, none⟩ u') ((wr.setCell ⟨rb, o, none⟩ u').drewN m) := by
  refine ⟨h.os, h.tape, h.output, ?_, fun k hk => ?_⟩
  · have := h.size
    simp only [World.setCell, Array.size_modify, World.drewN] at this ⊢
    exact this
  · show (wr.setCell ⟨rb, o, none⟩ u').heap[k]? = _
    by_cases hkr : k = rb
    · subst hkr
      rw [heap_own, h.block k hk, heap_own, heap_own, Option.map_map]
      congr 1
      funext x
      cases x <;> simp [Array.setIfInBounds_setIfInBounds]
    · rw [Below.heap_setCell _ ⟨rb, o, none⟩ _ _ hkr, h.block k hk, Below.heap_setCell _ ⟨rb, o, none⟩ _ _ hkr, Below.heap_setCell _ ⟨rb, o, none⟩ _ _ hkr]
theorem Rd.next {w : World} {B rb d p m : Nat} {code : List Int} (h : Rd w B rb d code p) : Rd ((w.setCell ⟨rb, d + 1, none⟩ (.int .i64 (p + 1))).drewN m) B rb d code (p + 1) := by
  obtain ⟨cb, cd, cap, h1, h2, h3, h4⟩ := h.hs
  have e : ∀ a : Addr, ((w.setCell ⟨rb, d + 1, none⟩ (.int .i64 (p + 1))).drewN m).cell? a = (w.setCell ⟨rb, d + 1, none⟩ (.int .i64 (p + 1))).cell? a := fun a => World.cell?_of_block rfl
  refine ⟨⟨cb, cd, cap, ?_, h2, h3, fun i hi => ?_⟩, ?_, ?_, h.hB⟩
  · rw [e, World.cell?_setCell_other _ _ _ _ (by simp)]; exact h1
  · rw [e, World.cell?_setCell_other _ _ _ _ (by simp <;> omega)]; exact h4 i hi
  · rw [e]; exact World.cell?_setCell_same _ _ _ h.hp
  · exact (World.frozen?_of_block (w := w.setCell ⟨rb, d + 1, none⟩ (.int .i64 (p + 1))) rfl).trans ((World.frozen?_setCell _ _ _ _).trans h.hf)
theorem Rd.below {w w' : World} {B rb d p : Nat} {code : List Int} (h : Rd w B rb d code p) (hb : Below B w w') : Rd w' B rb d code p := by
  obtain ⟨cb, cd, cap, h1, h2, h3, h4⟩ := h.hs
  exact ⟨⟨cb, cd, cap, (hb.cell h.hB).trans h1, h2, h3, fun i hi => (hb.cell h3).trans (h4 i hi)⟩, (hb.cell h.hB).trans h.hp, (hb.frozen h.hB).trans h.hf, h.hB⟩
/-- what l1All gives: so many lists -/
def AllK (dg np : Nat) : Prop := ∀ w : World, Calls Try.prog 119 #[.int .i64 dg, .int .i64 dg] w fun e w' => ∃ a cap, e = .returned (.slice a np cap) ∧ Below w.heap.size w w'
theorem made (w : World) (o : Obj) : Below w.heap.size w (w.alloc o) := (Below.refl _ _).alloc (Nat.le_refl _) _
theorem nums_succ (code : List Int) (p k : Nat) : likeNums code p (k + 1) = likeNums code p k ++ [.int .i64 (likeNum code p k)] := by
  unfold likeNums
  rw [List.range_succ, List.map_append]
  rfl
theorem few_le (code : List Int) (p : Nat) : 1 ≤ likeFew code p ∧ likeFew code p ≤ 2 := by unfold likeFew; split <;> omega
theorem at_succ (code : List Int) (p k : Nat) : likeAt code p (k + 1) = likeAt code p k + likeFew code p := by unfold likeAt; rw [Nat.add_mul]; omega
theorem at_le (code : List Int) (p k : Nat) : likeAt code p k ≤ p + 1 + k * 2 := by
  unfold likeAt
  have := Nat.mul_le_mul_left k (few_le code p).2
  omega
/-- what holds while numbers are drawn: the list so far, the reader's place, the cell of the result -/
structure Inv (w0 : World) (B rb d : Nat) (code : List Int) (wr : World) (v : Value) (k : Nat) (xs : List Value) (q : Nat) : Prop where
  own : wr.ownsRow (B + 1) 3 1 v k xs
  rd : Rd wr B rb d code q
  low : Below B (w0.setCell ⟨rb, d + 1, none⟩ (.int .i64 (q : Nat))) wr
  res : wr.heap[B]? = some (.cells #[.string ⟨#[]⟩, .int .i64 0, .slice none 0 0] 35)
theorem Inv.size {w0 wr : World} {B rb d k q : Nat} {code : List Int} {v : Value} {xs : List Value} (h : Inv w0 B rb d code wr v k xs q) : B + 1 ≤ wr.heap.size := by
  have := (Array.getElem?_eq_some_iff.1 h.res).1
  omega
theorem Inv.pick {w0 wr : World} {B rb d k q : Nat} {code : List Int} {v : Value} {xs : List Value} (h : Inv w0 B rb d code wr v k xs q) (K : CodeOk code) (n : Nat) (hn : 1 ≤ n) (hn2 : n ≤ 1000) (hp : q < 1000000) :
    Calls Try.prog 70 #[.pointer (some ⟨rb, d, none⟩), .int .i64 n] wr fun e w' => e = .returned (.int .i64 (pickv code q n)) ∧ Inv w0 B rb d code w' v k xs (q + 1) := by
  refine (pick_any wr B rb d q n code K h.rd hn hn2 hp).mono ?_
  rintro e w' ⟨rfl, m, rfl⟩
  have hB := h.rd.hB
  have e1 : ((q + 1 : Nat) : Int) = (q : Int) + 1 := by omega
  refine ⟨rfl, ?_, h.rd.next, ?_, ?_⟩
  · exact ownsRow_setCell_below h.own (a := ⟨rb, d + 1, none⟩) (by show rb < B + 1; omega) _
  · have := fr_next (m := m) (u' := .int .i64 ((q : Int) + 1)) h.low
    rw [e1]; exact this
  · show (wr.setCell ⟨rb, d + 1, none⟩ _).heap[B]? = _
    rw [Below.heap_setCell _ ⟨rb, d + 1, none⟩ _ _ (by show B ≠ rb; omega)]
    exact h.res
theorem Inv.p7 {w0 wr : World} {B rb d k q : Nat} {code : List Int} {v : Value} {xs : List Value} (h : Inv w0 B rb d code wr v k xs q) (K : CodeOk code) (hp : q < 1000000) :
    Calls Try.prog 70 #[.pointer (some ⟨rb, d, none⟩), .int .i64 7] wr fun e w' => e = .returned (.int .i64 (pickv code q 7)) ∧ Inv w0 B rb d code w' v k xs (q + 1) := h.pick K 7 (by omega) (by omega) hp
theorem Inv.p3 {w0 wr : World} {B rb d k q : Nat} {code : List Int} {v : Value} {xs : List Value} (h : Inv w0 B rb d code wr v k xs q) (K : CodeOk code) (hp : q < 1000000) :
    Calls Try.prog 70 #[.pointer (some ⟨rb, d, none⟩), .int .i64 3] wr fun e w' => e = .returned (.int .i64 (pickv code q 3)) ∧ Inv w0 B rb d code w' v k xs (q + 1) := h.pick K 3 (by omega) (by omega) hp
theorem Inv.p80 {w0 wr : World} {B rb d k q : Nat} {code : List Int} {v : Value} {xs : List Value} (h : Inv w0 B rb d code wr v k xs q) (K : CodeOk code) (hp : q < 1000000) :
    Calls Try.prog 70 #[.pointer (some ⟨rb, d, none⟩), .int .i64 80] wr fun e w' => e = .returned (.int .i64 (pickv code q 80)) ∧ Inv w0 B rb d code w' v k xs (q + 1) := h.pick K 80 (by omega) (by omega) hp
theorem Inv.sl {w0 wr : World} {B rb d k q : Nat} {code : List Int} {v : Value} {xs : List Value} (h : Inv w0 B rb d code wr v k xs q) : ∃ a c, v = .slice a k c := by
  rcases h.own.2 with ⟨rfl, rfl⟩ | ⟨g, cap, cur, rfl, _⟩
  · exact ⟨_, _, rfl⟩
  · exact ⟨_, _, rfl⟩
theorem Inv.cells {w0 wr : World} {B rb d k q : Nat} {code : List Int} {v : Value} {xs : List Value} (h : Inv w0 B rb d code wr v k xs q) :
    wr.cell? ⟨B, 0, none⟩ = some (.string ⟨#[]⟩) ∧ wr.cell? ⟨B, 1, none⟩ = some (.int .i64 0) ∧ wr.cell? ⟨B, 2, none⟩ = some (.slice none 0 0) ∧ wr.frozen? ⟨B, 0, none⟩ = false ∧ wr.frozen? ⟨B, 1, none⟩ = false ∧ wr.frozen? ⟨B, 2, none⟩ = false := by
  have hr := h.res
  refine ⟨?_, ?_, ?_, ?_, ?_, ?_⟩ <;> simp [World.cell?, World.frozen?, hr]
theorem Inv.fin {w0 wr : World} {B rb d k q : Nat} {code : List Int} {v : Value} {xs : List Value} (h : Inv w0 B rb d code wr v k xs q) (x y z : Value) :
    (((wr.setCell ⟨B, 0, none⟩ x).setCell ⟨B, 1, none⟩ y).setCell ⟨B, 2, none⟩ z).ownsRow (B + 1) 3 1 v k xs ∧
    Below B (w0.setCell ⟨rb, d + 1, none⟩ (.int .i64 (q : Nat))) (((wr.setCell ⟨B, 0, none⟩ x).setCell ⟨B, 1, none⟩ y).setCell ⟨B, 2, none⟩ z) ∧
    (((wr.setCell ⟨B, 0, none⟩ x).setCell ⟨B, 1, none⟩ y).setCell ⟨B, 2, none⟩ z).heap[B]? = some (.cells #[x, y, z] 35) :=
  ⟨ownsRow_setCell_below (ownsRow_setCell_below (ownsRow_setCell_below h.own (a := ⟨B, 0, none⟩) (Nat.lt_succ_self B) _) (a := ⟨B, 1, none⟩) (Nat.lt_succ_self B) _) (a := ⟨B, 2, none⟩) (Nat.lt_succ_self B) _,
    ((h.low.setCell (p := ⟨B, 0, none⟩) (Nat.le_refl B) _).setCell (p := ⟨B, 1, none⟩) (Nat.le_refl B) _).setCell (p := ⟨B, 2, none⟩) (Nat.le_refl B) _, by rw [heap_own, heap_own, heap_own, h.res]; rfl⟩
theorem own_self {w : World} {b o : Nat} {v : Value} (h : w.cell? ⟨b, o, none⟩ = some v) (k : Nat) : (w.setCell ⟨b, o, none⟩ v).heap[k]? = w.heap[k]? := by
  by_cases hk : k = b
  · subst hk
    rw [heap_own]
    unfold World.cell? at h
    simp only at h
    cases hx : w.heap[k]? with
    | none => rfl
    | some x =>
      rw [hx] at h
      cases x with
      | cells c e f =>
        simp only [Option.isSome_none, Bool.false_eq_true, if_false] at h
        show some (Obj.cells (c.setIfInBounds o v) e f) = _
        congr 2
        obtain ⟨h1, h2⟩ := Array.getElem?_eq_some_iff.1 h
        rw [Array.setIfInBounds_def, dif_pos h1, ← h2, Array.set_getElem_self]
      | _ => rfl
  · exact Below.heap_setCell _ ⟨b, o, none⟩ _ _ hk
theorem Inv.start {w w' : World} {rb d p : Nat} {code : List Int} (hR : Rd w w.heap.size rb d code p)
    (hb : Below ((w.alloc (.cells #[.string ⟨#[]⟩, .int .i64 0, .slice none 0 0] 35)).alloc (.cells #[] 3)).heap.size ((w.alloc (.cells #[.string ⟨#[]⟩, .int .i64 0, .slice none 0 0] 35)).alloc (.cells #[] 3)) w') :
    Inv w w.heap.size rb d code w' (.slice (some ⟨w.heap.size + 1, 0, none⟩) 0 0) 0 [] p := by
  have h0 : Below w.heap.size w w' := ((made w _).trans (((made _ _).mono (by simp)))).trans (hb.mono (by simp; omega))
  have hs : ((w.alloc (.cells #[.string ⟨#[]⟩, .int .i64 0, .slice none 0 0] 35)).alloc (.cells #[] 3)).heap.size = w.heap.size + 2 := by simp
  rw [hs] at hb
  refine ⟨⟨rfl, .inr ⟨w.heap.size + 1, 0, #[], rfl, Nat.le_refl _, ?_, Nat.le_refl _, Nat.zero_le _, rfl, rfl⟩⟩, hR.below h0, ⟨h0.os, h0.tape, h0.output, ?_, fun k hk => ?_⟩, ?_⟩
  · rw [hb.block _ (by omega)]
    exact heap_alloc2_new _ _ _
  · have := h0.size
    simp only [World.setCell, Array.size_modify]
    exact this
  · rw [own_self hR.hp, h0.block k hk]
  · rw [hb.block _ (by omega)]
    exact heap_alloc2_old _ _ _
theorem Inv.app {w0 wr w1 : World} {B rb d k q : Nat} {code : List Int} {v v' : Value} {xs ys : List Value} {n : Nat} {o : Obj} (h : Inv w0 B rb d code wr v k xs q) (hg : (wr.alloc o).grownBy w1 v.ownBlock) (ho : w1.ownsRow (B + 1) 3 1 v' n ys) : Inv w0 B rb d code w1 v' n ys q := by
  have hs := h.size
  have hb : Below (B + 1) wr w1 := by
    refine Below.grown ((Below.refl _ _).alloc hs o) hg (by simp; omega) fun j hj => ?_
    rcases h.own.2 with ⟨rfl, _⟩ | ⟨g, cap, cur, rfl, hg2, _⟩
    · cases hj
    · have hj : some g = some j := hj
      injection hj with hj
      omega
  exact ⟨ho, h.rd.below (hb.mono (by omega)), h.low.trans (hb.mono (by omega)), (hb.block B (by omega)).trans h.res⟩
theorem sumU : ∃ fs, Try.prog.underlying 35 = some (.struct fs) := by
  have h : (match Try.prog.underlying 35 with | some (.struct _) => true | _ => false) = true := by kernel_rfl
  cases hu : Try.prog.underlying 35 with
  | none => rw [hu] at h; cases h
  | some d =>
    rw [hu] at h
    cases d with
    | struct fs => exact ⟨fs, rfl⟩
    | _ => cases h
theorem sumI : (Try.prog.info? 35).map (·.size) = some 3 := by kernel_rfl
theorem intK : (Try.prog.info? 3).map (fun i => (i.zero, i.size, i.bytes)) = some (some (.int .i64 0), 1, 8) := by kernel_rfl
theorem under : Try.prog.underlying 23 = some (.slice 3) := by kernel_rfl
set_option maxRecDepth 10000 in
set_option maxHeartbeats 600000 in
theorem like_few (w : World) (rb d dg np p : Nat) (code : List Int) (way : ByteArray) (K : CodeOk code) (hA : AllK dg np) (hR : Rd w w.heap.size rb d code p) (hp : p < 100000) (hn : np ≤ 11) (h2 : pickv code p 2 = 1) :
    Calls Try.prog 92 #[.pointer (some ⟨rb, d, none⟩), .int .i64 dg, .string way] w fun e w' =>
      ∃ v q, e = .returned (.agg #[.string (if pickv code (likeAt code p np) 80 = 1 then ⟨#[120]⟩ else way), .int .i64 dg, v]) ∧ w'.ownsRow (w.heap.size + 1) 3 1 v q (likeNums code p np ++ if pickv code (likeAt code p np) 80 = 0 then [.int .i64 1] else []) ∧
        Below w.heap.size (w.setCell ⟨rb, d + 1, none⟩ (.int .i64 ((likeAt code p np + 1 : Nat) : Int))) w' := by
  have hB := hR.hB
  obtain ⟨i0, hi, hz0, hz1, hz2⟩ := info_parts intK
  obtain ⟨fS, hu⟩ := sumU
  have r2 := pickv_range K.byte K.l1 (p := p) (n := 2) (by omega) (by omega) (by omega)
  have start : ∀ w', Below ((w.alloc (.cells #[.string ⟨#[]⟩, .int .i64 0, .slice none 0 0] 35)).alloc (.cells #[] 3)).heap.size ((w.alloc (.cells #[.string ⟨#[]⟩, .int .i64 0, .slice none 0 0] 35)).alloc (.cells #[] 3)) w' →
      Inv w w.heap.size rb d code w' (.slice (some ⟨w.heap.size + 1, 0, none⟩) 0 0) 0 [] p := by
    intro w' hb
    exact Inv.start hR hb
  go_enter Try.func92, Try.ntmps92
  go_wp2_with (first
    | (go_at_call 119; refine (hA _).mono ?_; rintro e w' ⟨a, cap, rfl, hb⟩)
    | (go_at_call 70; refine ((start _ hb).pick K 2 (by omega) (by omega) (by omega)).mono ?_; rintro e w1 ⟨rfl, h1⟩))
  clear hb start w'
  go_loopw [7, 10] (fun v i wr => ∃ k : Nat, k ≤ np ∧ i = .int .i64 k ∧ Inv w w.heap.size rb d code wr v k (likeNums code p k) (likeAt code p k)) (fun _ i _ => np - (intOf i).toNat)
  case atStart => exact ⟨0, Nat.zero_le _, rfl, by simpa [likeAt, likeNums] using h1⟩
  case round =>
    obtain ⟨k, hk, rfl, hI⟩ := hrel
    obtain ⟨av, cv, rfl⟩ := hI.sl
    clear h1
    have hs1 := at_le code p k
    have hs2 := few_le code p
    have r7 := pickv_range K.byte K.l1 (p := likeAt code p k) (n := 7) (by omega) (by omega) (by omega)
    have r3 := pickv_range K.byte K.l1 (p := likeAt code p k + 1) (n := 3) (by omega) (by omega) (by omega)
    have r80 := pickv_range K.byte K.l1 (p := likeAt code p k) (n := 80) (by omega) (by omega) (by omega)
    by_cases hkn : k = np
    · subst hkn
      by_cases t0 : pickv code (likeAt code p k) 80 = 0
      · go_wp2_with (first
          | (go_at_call 70; with_reducible refine (Inv.p7 (by assumption) K (by omega)).mono ?_; rintro e wq ⟨rfl, hIq⟩)
          | (go_at_call 70; with_reducible refine (Inv.p3 (by assumption) K (by omega)).mono ?_; rintro e wq ⟨rfl, hIq⟩)
          | (go_at_call 70; with_reducible refine (Inv.p80 (by assumption) K (by omega)).mono ?_; rintro e wq ⟨rfl, hIq⟩; obtain ⟨hc0, hc1, hc2, hf0, hf1, hf2⟩ := hIq.cells)
          | (at_builtin; refine wpList_append_own _ rfl _ _ 23 rfl (w.heap.size + 1) 3 i0 (.int .i64 0) 1 8 under hi hz0 hz1 hz2 rfl (by decide) _ _ _ rfl ((Inv.own (by assumption)).alloc _) _ 1 1 [_] rfl rfl (cell_one_new _ _ _) (by intro u hu; simp at hu; subst hu; rfl) (by unfold maxLen; omega) (by omega) (Nat.le_trans (Inv.size (by assumption)) (by simp)) ?_; intro v' w3 hown' hgrow _; have hI3 := Inv.app (by assumption) hgrow hown'; clear hown' hgrow; obtain ⟨av', cv', rfl⟩ := hI3.sl; obtain ⟨gc0, gc1, gc2, gf0, gf1, gf2⟩ := hI3.cells))
        obtain ⟨z1, z2, z3⟩ := hI3.fin (.string way) (.int .i64 dg) (.slice av' (k + 1) cv')
        refine bodyPost_ret (results_cell_row rfl _ _ w.heap.size _ _ _ (.struct fS) rfl z3 hu rfl sumI) rfl ⟨_, rfl, ⟨_, z1⟩, ?_⟩
        simpa using z2
      · by_cases t1 : pickv code (likeAt code p k) 80 = 1
        · go_wp2_with (first
            | (go_at_call 70; with_reducible refine (Inv.p7 (by assumption) K (by omega)).mono ?_; rintro e wq ⟨rfl, hIq⟩)
            | (go_at_call 70; with_reducible refine (Inv.p3 (by assumption) K (by omega)).mono ?_; rintro e wq ⟨rfl, hIq⟩)
            | (go_at_call 70; with_reducible refine (Inv.p80 (by assumption) K (by omega)).mono ?_; rintro e wq ⟨rfl, hIq⟩; obtain ⟨hc0, hc1, hc2, hf0, hf1, hf2⟩ := hIq.cells)
            | (at_builtin; refine wpList_append_own _ rfl _ _ 23 rfl (w.heap.size + 1) 3 i0 (.int .i64 0) 1 8 under hi hz0 hz1 hz2 rfl (by decide) _ _ _ rfl ((Inv.own (by assumption)).alloc _) _ 1 1 [_] rfl rfl (cell_one_new _ _ _) (by intro u hu; simp at hu; subst hu; rfl) (by unfold maxLen; omega) (by omega) (Nat.le_trans (Inv.size (by assumption)) (by simp)) ?_; intro v' w3 hown' hgrow _; have hI3 := Inv.app (by assumption) hgrow hown'; clear hown' hgrow; obtain ⟨av', cv', rfl⟩ := hI3.sl; obtain ⟨gc0, gc1, gc2, gf0, gf1, gf2⟩ := hI3.cells))
          obtain ⟨z1, z2, z3⟩ := hIq.fin (.string ⟨#[120]⟩) (.int .i64 dg) (.slice av k cv)
          refine bodyPost_ret (results_cell_row rfl _ _ w.heap.size _ _ _ (.struct fS) rfl z3 hu rfl sumI) rfl ⟨_, rfl, ⟨_, z1⟩, ?_⟩
          simpa using z2
        · go_wp2_with (first
            | (go_at_call 70; with_reducible refine (Inv.p7 (by assumption) K (by omega)).mono ?_; rintro e wq ⟨rfl, hIq⟩)
            | (go_at_call 70; with_reducible refine (Inv.p3 (by assumption) K (by omega)).mono ?_; rintro e wq ⟨rfl, hIq⟩)
            | (go_at_call 70; with_reducible refine (Inv.p80 (by assumption) K (by omega)).mono ?_; rintro e wq ⟨rfl, hIq⟩; obtain ⟨hc0, hc1, hc2, hf0, hf1, hf2⟩ := hIq.cells)
            | (at_builtin; refine wpList_append_own _ rfl _ _ 23 rfl (w.heap.size + 1) 3 i0 (.int .i64 0) 1 8 under hi hz0 hz1 hz2 rfl (by decide) _ _ _ rfl ((Inv.own (by assumption)).alloc _) _ 1 1 [_] rfl rfl (cell_one_new _ _ _) (by intro u hu; simp at hu; subst hu; rfl) (by unfold maxLen; omega) (by omega) (Nat.le_trans (Inv.size (by assumption)) (by simp)) ?_; intro v' w3 hown' hgrow _; have hI3 := Inv.app (by assumption) hgrow hown'; clear hown' hgrow; obtain ⟨av', cv', rfl⟩ := hI3.sl; obtain ⟨gc0, gc1, gc2, gf0, gf1, gf2⟩ := hI3.cells))
          obtain ⟨z1, z2, z3⟩ := hIq.fin (.string way) (.int .i64 dg) (.slice av k cv)
          refine bodyPost_ret (results_cell_row rfl _ _ w.heap.size _ _ _ (.struct fS) rfl z3 hu rfl sumI) rfl ⟨_, rfl, ⟨_, z1⟩, ?_⟩
          simpa using z2
    · have hk2 : k < np := by omega
      clear r80
      · by_cases h3 : 0 < pickv code (likeAt code p k + 1) 3
        · go_wp2_with (first
            | (go_at_call 70; with_reducible refine (Inv.p7 (by assumption) K (by omega)).mono ?_; rintro e wq ⟨rfl, hIq⟩)
            | (go_at_call 70; with_reducible refine (Inv.p3 (by assumption) K (by omega)).mono ?_; rintro e wq ⟨rfl, hIq⟩)
            | (go_at_call 70; with_reducible refine (Inv.p80 (by assumption) K (by omega)).mono ?_; rintro e wq ⟨rfl, hIq⟩; obtain ⟨hc0, hc1, hc2, hf0, hf1, hf2⟩ := hIq.cells)
            | (at_builtin; refine wpList_append_own _ rfl _ _ 23 rfl (w.heap.size + 1) 3 i0 (.int .i64 0) 1 8 under hi hz0 hz1 hz2 rfl (by decide) _ _ _ rfl ((Inv.own (by assumption)).alloc _) _ 1 1 [_] rfl rfl (cell_one_new _ _ _) (by intro u hu; simp at hu; subst hu; rfl) (by unfold maxLen; omega) (by omega) (Nat.le_trans (Inv.size (by assumption)) (by simp)) ?_; intro v' w3 hown' hgrow _; have hI3 := Inv.app (by assumption) hgrow hown'; clear hown' hgrow; obtain ⟨av', cv', rfl⟩ := hI3.sl; obtain ⟨gc0, gc1, gc2, gf0, gf1, gf2⟩ := hI3.cells))
          go_roundw
          case rel => exact ⟨k + 1, by omega, by go_num, by rw [nums_succ, at_succ]; simpa [likeNum, likeFew, h2, h3] using hI3⟩
          case measure => simp [intOf]; omega
        · go_wp2_with (first
            | (go_at_call 70; with_reducible refine (Inv.p7 (by assumption) K (by omega)).mono ?_; rintro e wq ⟨rfl, hIq⟩)
            | (go_at_call 70; with_reducible refine (Inv.p3 (by assumption) K (by omega)).mono ?_; rintro e wq ⟨rfl, hIq⟩)
            | (go_at_call 70; with_reducible refine (Inv.p80 (by assumption) K (by omega)).mono ?_; rintro e wq ⟨rfl, hIq⟩; obtain ⟨hc0, hc1, hc2, hf0, hf1, hf2⟩ := hIq.cells)
            | (at_builtin; refine wpList_append_own _ rfl _ _ 23 rfl (w.heap.size + 1) 3 i0 (.int .i64 0) 1 8 under hi hz0 hz1 hz2 rfl (by decide) _ _ _ rfl ((Inv.own (by assumption)).alloc _) _ 1 1 [_] rfl rfl (cell_one_new _ _ _) (by intro u hu; simp at hu; subst hu; rfl) (by unfold maxLen; omega) (by omega) (Nat.le_trans (Inv.size (by assumption)) (by simp)) ?_; intro v' w3 hown' hgrow _; have hI3 := Inv.app (by assumption) hgrow hown'; clear hown' hgrow; obtain ⟨av', cv', rfl⟩ := hI3.sl; obtain ⟨gc0, gc1, gc2, gf0, gf1, gf2⟩ := hI3.cells))
          go_roundw
          case rel => exact ⟨k + 1, by omega, by go_num, by rw [nums_succ, at_succ]; have e : likeNum code p k = pickv code (likeAt code p k) 7 - 3 := (by unfold likeNum; rw [if_neg (by rintro ⟨_, h⟩; omega)]); simpa [e, likeFew, h2] using hI3⟩
          case measure => simp [intOf]; omega
set_option maxRecDepth 10000 in
set_option maxHeartbeats 600000 in
theorem like_all (w : World) (rb d dg np p : Nat) (code : List Int) (way : ByteArray) (K : CodeOk code) (hA : AllK dg np) (hR : Rd w w.heap.size rb d code p) (hp : p < 100000) (hn : np ≤ 11) (h2 : ¬ pickv code p 2 = 1) :
    Calls Try.prog 92 #[.pointer (some ⟨rb, d, none⟩), .int .i64 dg, .string way] w fun e w' =>
      ∃ v q, e = .returned (.agg #[.string (if pickv code (likeAt code p np) 80 = 1 then ⟨#[120]⟩ else way), .int .i64 dg, v]) ∧ w'.ownsRow (w.heap.size + 1) 3 1 v q (likeNums code p np ++ if pickv code (likeAt code p np) 80 = 0 then [.int .i64 1] else []) ∧
        Below w.heap.size (w.setCell ⟨rb, d + 1, none⟩ (.int .i64 ((likeAt code p np + 1 : Nat) : Int))) w' := by
  have hB := hR.hB
  obtain ⟨i0, hi, hz0, hz1, hz2⟩ := info_parts intK
  obtain ⟨fS, hu⟩ := sumU
  have r2 := pickv_range K.byte K.l1 (p := p) (n := 2) (by omega) (by omega) (by omega)
  have start : ∀ w', Below ((w.alloc (.cells #[.string ⟨#[]⟩, .int .i64 0, .slice none 0 0] 35)).alloc (.cells #[] 3)).heap.size ((w.alloc (.cells #[.string ⟨#[]⟩, .int .i64 0, .slice none 0 0] 35)).alloc (.cells #[] 3)) w' →
      Inv w w.heap.size rb d code w' (.slice (some ⟨w.heap.size + 1, 0, none⟩) 0 0) 0 [] p := by
    intro w' hb
    exact Inv.start hR hb
  go_enter Try.func92, Try.ntmps92
  go_wp2_with (first
    | (go_at_call 119; refine (hA _).mono ?_; rintro e w' ⟨a, cap, rfl, hb⟩)
    | (go_at_call 70; refine ((start _ hb).pick K 2 (by omega) (by omega) (by omega)).mono ?_; rintro e w1 ⟨rfl, h1⟩))
  clear hb start w'
  go_loopw [7, 10] (fun v i wr => ∃ k : Nat, k ≤ np ∧ i = .int .i64 k ∧ Inv w w.heap.size rb d code wr v k (likeNums code p k) (likeAt code p k)) (fun _ i _ => np - (intOf i).toNat)
  case atStart => exact ⟨0, Nat.zero_le _, rfl, by simpa [likeAt, likeNums] using h1⟩
  case round =>
    obtain ⟨k, hk, rfl, hI⟩ := hrel
    obtain ⟨av, cv, rfl⟩ := hI.sl
    clear h1
    have hs1 := at_le code p k
    have hs2 := few_le code p
    have r7 := pickv_range K.byte K.l1 (p := likeAt code p k) (n := 7) (by omega) (by omega) (by omega)
    have r3 := pickv_range K.byte K.l1 (p := likeAt code p k + 1) (n := 3) (by omega) (by omega) (by omega)
    have r80 := pickv_range K.byte K.l1 (p := likeAt code p k) (n := 80) (by omega) (by omega) (by omega)
    by_cases hkn : k = np
    · subst hkn
      by_cases t0 : pickv code (likeAt code p k) 80 = 0
      · go_wp2_with (first
          | (go_at_call 70; with_reducible refine (Inv.p7 (by assumption) K (by omega)).mono ?_; rintro e wq ⟨rfl, hIq⟩)
          | (go_at_call 70; with_reducible refine (Inv.p3 (by assumption) K (by omega)).mono ?_; rintro e wq ⟨rfl, hIq⟩)
          | (go_at_call 70; with_reducible refine (Inv.p80 (by assumption) K (by omega)).mono ?_; rintro e wq ⟨rfl, hIq⟩; obtain ⟨hc0, hc1, hc2, hf0, hf1, hf2⟩ := hIq.cells)
          | (at_builtin; refine wpList_append_own _ rfl _ _ 23 rfl (w.heap.size + 1) 3 i0 (.int .i64 0) 1 8 under hi hz0 hz1 hz2 rfl (by decide) _ _ _ rfl ((Inv.own (by assumption)).alloc _) _ 1 1 [_] rfl rfl (cell_one_new _ _ _) (by intro u hu; simp at hu; subst hu; rfl) (by unfold maxLen; omega) (by omega) (Nat.le_trans (Inv.size (by assumption)) (by simp)) ?_; intro v' w3 hown' hgrow _; have hI3 := Inv.app (by assumption) hgrow hown'; clear hown' hgrow; obtain ⟨av', cv', rfl⟩ := hI3.sl; obtain ⟨gc0, gc1, gc2, gf0, gf1, gf2⟩ := hI3.cells))
        obtain ⟨z1, z2, z3⟩ := hI3.fin (.string way) (.int .i64 dg) (.slice av' (k + 1) cv')
        refine bodyPost_ret (results_cell_row rfl _ _ w.heap.size _ _ _ (.struct fS) rfl z3 hu rfl sumI) rfl ⟨_, rfl, ⟨_, z1⟩, ?_⟩
        simpa using z2
      · by_cases t1 : pickv code (likeAt code p k) 80 = 1
        · go_wp2_with (first
            | (go_at_call 70; with_reducible refine (Inv.p7 (by assumption) K (by omega)).mono ?_; rintro e wq ⟨rfl, hIq⟩)
            | (go_at_call 70; with_reducible refine (Inv.p3 (by assumption) K (by omega)).mono ?_; rintro e wq ⟨rfl, hIq⟩)
            | (go_at_call 70; with_reducible refine (Inv.p80 (by assumption) K (by omega)).mono ?_; rintro e wq ⟨rfl, hIq⟩; obtain ⟨hc0, hc1, hc2, hf0, hf1, hf2⟩ := hIq.cells)
            | (at_builtin; refine wpList_append_own _ rfl _ _ 23 rfl (w.heap.size + 1) 3 i0 (.int .i64 0) 1 8 under hi hz0 hz1 hz2 rfl (by decide) _ _ _ rfl ((Inv.own (by assumption)).alloc _) _ 1 1 [_] rfl rfl (cell_one_new _ _ _) (by intro u hu; simp at hu; subst hu; rfl) (by unfold maxLen; omega) (by omega) (Nat.le_trans (Inv.size (by assumption)) (by simp)) ?_; intro v' w3 hown' hgrow _; have hI3 := Inv.app (by assumption) hgrow hown'; clear hown' hgrow; obtain ⟨av', cv', rfl⟩ := hI3.sl; obtain ⟨gc0, gc1, gc2, gf0, gf1, gf2⟩ := hI3.cells))
          obtain ⟨z1, z2, z3⟩ := hIq.fin (.string ⟨#[120]⟩) (.int .i64 dg) (.slice av k cv)
          refine bodyPost_ret (results_cell_row rfl _ _ w.heap.size _ _ _ (.struct fS) rfl z3 hu rfl sumI) rfl ⟨_, rfl, ⟨_, z1⟩, ?_⟩
          simpa using z2
        · go_wp2_with (first
            | (go_at_call 70; with_reducible refine (Inv.p7 (by assumption) K (by omega)).mono ?_; rintro e wq ⟨rfl, hIq⟩)
            | (go_at_call 70; with_reducible refine (Inv.p3 (by assumption) K (by omega)).mono ?_; rintro e wq ⟨rfl, hIq⟩)
            | (go_at_call 70; with_reducible refine (Inv.p80 (by assumption) K (by omega)).mono ?_; rintro e wq ⟨rfl, hIq⟩; obtain ⟨hc0, hc1, hc2, hf0, hf1, hf2⟩ := hIq.cells)
            | (at_builtin; refine wpList_append_own _ rfl _ _ 23 rfl (w.heap.size + 1) 3 i0 (.int .i64 0) 1 8 under hi hz0 hz1 hz2 rfl (by decide) _ _ _ rfl ((Inv.own (by assumption)).alloc _) _ 1 1 [_] rfl rfl (cell_one_new _ _ _) (by intro u hu; simp at hu; subst hu; rfl) (by unfold maxLen; omega) (by omega) (Nat.le_trans (Inv.size (by assumption)) (by simp)) ?_; intro v' w3 hown' hgrow _; have hI3 := Inv.app (by assumption) hgrow hown'; clear hown' hgrow; obtain ⟨av', cv', rfl⟩ := hI3.sl; obtain ⟨gc0, gc1, gc2, gf0, gf1, gf2⟩ := hI3.cells))
          obtain ⟨z1, z2, z3⟩ := hIq.fin (.string way) (.int .i64 dg) (.slice av k cv)
          refine bodyPost_ret (results_cell_row rfl _ _ w.heap.size _ _ _ (.struct fS) rfl z3 hu rfl sumI) rfl ⟨_, rfl, ⟨_, z1⟩, ?_⟩
          simpa using z2
    · have hk2 : k < np := by omega
      clear r80
      · go_wp2_with (first
          | (go_at_call 70; with_reducible refine (Inv.p7 (by assumption) K (by omega)).mono ?_; rintro e wq ⟨rfl, hIq⟩)
          | (go_at_call 70; with_reducible refine (Inv.p3 (by assumption) K (by omega)).mono ?_; rintro e wq ⟨rfl, hIq⟩)
          | (go_at_call 70; with_reducible refine (Inv.p80 (by assumption) K (by omega)).mono ?_; rintro e wq ⟨rfl, hIq⟩; obtain ⟨hc0, hc1, hc2, hf0, hf1, hf2⟩ := hIq.cells)
          | (at_builtin; refine wpList_append_own _ rfl _ _ 23 rfl (w.heap.size + 1) 3 i0 (.int .i64 0) 1 8 under hi hz0 hz1 hz2 rfl (by decide) _ _ _ rfl ((Inv.own (by assumption)).alloc _) _ 1 1 [_] rfl rfl (cell_one_new _ _ _) (by intro u hu; simp at hu; subst hu; rfl) (by unfold maxLen; omega) (by omega) (Nat.le_trans (Inv.size (by assumption)) (by simp)) ?_; intro v' w3 hown' hgrow _; have hI3 := Inv.app (by assumption) hgrow hown'; clear hown' hgrow; obtain ⟨av', cv', rfl⟩ := hI3.sl; obtain ⟨gc0, gc1, gc2, gf0, gf1, gf2⟩ := hI3.cells))
        go_roundw
        case rel => exact ⟨k + 1, by omega, by go_num, by rw [nums_succ, at_succ]; simpa [likeNum, likeFew, h2] using hI3⟩
        case measure => simp [intOf]; omega
theorem like_calls (w : World) (rb d dg np p : Nat) (code : List Int) (way : ByteArray) (K : CodeOk code) (hA : AllK dg np) (hR : Rd w w.heap.size rb d code p) (hp : p < 100000) (hn : np ≤ 11) :
    Calls Try.prog 92 #[.pointer (some ⟨rb, d, none⟩), .int .i64 dg, .string way] w fun e w' =>
      ∃ v q, e = .returned (.agg #[.string (if pickv code (likeAt code p np) 80 = 1 then ⟨#[120]⟩ else way), .int .i64 dg, v]) ∧ w'.ownsRow (w.heap.size + 1) 3 1 v q (likeNums code p np ++ if pickv code (likeAt code p np) 80 = 0 then [.int .i64 1] else []) ∧
        Below w.heap.size (w.setCell ⟨rb, d + 1, none⟩ (.int .i64 ((likeAt code p np + 1 : Nat) : Int))) w' := by
  by_cases h2 : pickv code p 2 = 1
  · exact like_few w rb d dg np p code way K hA hR hp hn h2
  · exact like_all w rb d dg np p code way K hA hR hp hn h2
theorem all_of {l : List (Nat × Nat)} {u dg np : Nat} (K : Memo2K Try.prog (119, [.lit u, .lit u], .rows l)) (h1 : litW u = true) (h2 : litV u = .int .i64 dg) (h3 : l.length = np) : AllK dg np := by
  intro w
  refine (K.calls w #[.int .i64 dg, .int .i64 dg] (.cons _ _ _ _ ⟨h1, h2.symm⟩ (.cons _ _ _ _ ⟨h1, h2.symm⟩ .nil))).mono ?_
  rintro e w' ⟨x, rfl, hx, hb⟩
  obtain ⟨rb, d, cp, cs, ty, vs, bs, rfl, _⟩ := hx
  subst h3
  exact ⟨_, _, rfl, hb⟩
set_option maxRecDepth 100000 in
theorem la_0 : isRes (.rows [(0, 0)]) (memoRun Try.prog noSums 1000 60 119 [.lit 1, .lit 1]) = true := by kernel_rfl
set_option maxRecDepth 100000 in
theorem la_1 : isRes (.rows [(1, 17)]) (memoRun Try.prog noSums 1000 60 119 [.lit 17, .lit 17]) = true := by kernel_rfl
set_option maxRecDepth 100000 in
theorem la_2 : isRes (.rows [(1, 33), (2, 5784800237655953878877368326340059594769)]) (memoRun Try.prog noSums 1000 60 119 [.lit 33, .lit 33]) = true := by kernel_rfl
set_option maxRecDepth 100000 in
theorem la_3 : isRes (.rows [(1, 49), (2, 5784800237655953878877368326340059594785), (3, 1968465517034375322200706745147694433511374539553545542549656296460863263473681)]) (memoRun Try.prog noSums 1000 60 119 [.lit 49, .lit 49]) = true := by kernel_rfl
set_option maxRecDepth 100000 in
theorem la_4 : isRes (.rows [(1, 65), (2, 5784800237655953878877368326340059594801), (2, 11229318108390969294291362045248350978081), (3, 1968465517034375322200706745147694433511374539553545542549656296460863263473697), (4, 669834105338706146608743681702441434688324033114946968677321694617324964548963954933596071875593222190173539098689553)]) (memoRun Try.prog noSums 1000 60 119 [.lit 65, .lit 65]) = true := by kernel_rfl
set_option maxRecDepth 100000 in
theorem la_5 : isRes (.rows [(1, 81), (2, 5784800237655953878877368326340059594817), (2, 11229318108390969294291362045248350978097), (3, 1968465517034375322200706745147694433511374539553545542549656296460863263473713), (3, 1968465517034375322200706745147694433516819057424280557965070290179771554856993), (4, 669834105338706146608743681702441434688324033114946968677321694617324964548963954933596071875593222190173539098689569), (5, 227932734809024150692758424969499384167819053055409393567909288224972429945938622638746810037514679965347866553719226819447412079678684911279545572202119185)]) (memoRun Try.prog noSums 1000 60 119 [.lit 81, .lit 81]) = true := by kernel_rfl
set_option maxRecDepth 100000 in
theorem la_6 : isRes (.rows [(1, 97), (2, 5784800237655953878877368326340059594833), (2, 11229318108390969294291362045248350978113), (3, 1968465517034375322200706745147694433511374539553545542549656296460863263473729), (2, 16673835979125984709705355764156642361393), (3, 1968465517034375322200706745147694433516819057424280557965070290179771554857009), (4, 669834105338706146608743681702441434688324033114946968677321694617324964548963954933596071875593222190173539098689585), (3, 3821138944831434448977842505286700959169138812074529582596391634306381629095969), (4, 669834105338706146608743681702441434688324033114946968677321694617324964548969399451466806891008636183892447390072865), (5, 227932734809024150692758424969499384167819053055409393567909288224972429945938622638746810037514679965347866553719226819447412079678684911279545572202119201), (6, 77561490499577318716899917296904952523412817358034542970539031229257177226715334623655927185963223084461891692697043546920454790300897125935643108988996868019731321543803189062688406840394383377)]) (memoRun Try.prog noSums 1000 60 119 [.lit 97, .lit 97]) = true := by kernel_rfl
theorem allK (d : Nat) (hd : d ≤ 6) : AllK d (npL d) := by
  rcases (show d = 0 ∨ d = 1 ∨ d = 2 ∨ d = 3 ∨ d = 4 ∨ d = 5 ∨ d = 6 by omega) with rfl | rfl | rfl | rfl | rfl | rfl | rfl
  · exact all_of (memo2_of (noSums_always _) la_0) rfl rfl rfl
  · exact all_of (memo2_of (noSums_always _) la_1) rfl rfl rfl
  · exact all_of (memo2_of (noSums_always _) la_2) rfl rfl rfl
  · exact all_of (memo2_of (noSums_always _) la_3) rfl rfl rfl
  · exact all_of (memo2_of (noSums_always _) la_4) rfl rfl rfl
  · exact all_of (memo2_of (noSums_always _) la_5) rfl rfl rfl
  · exact all_of (memo2_of (noSums_always _) la_6) rfl rfl rfl
theorem npL_le (d : Nat) (hd : d ≤ 6) : npL d ≤ 11 := by
  rcases (show d = 0 ∨ d = 1 ∨ d = 2 ∨ d = 3 ∨ d = 4 ∨ d = 5 ∨ d = 6 by omega) with rfl | rfl | rfl | rfl | rfl | rfl | rfl <;> decide
theorem likeK : LikeK Try.prog 92 :=
  { known := ⟨Try.f92, Try.func92, by kernel_rfl, by decide⟩
    calls := fun w rb d cb cd cap p dg code way l1 l2 hb hdg hp h0 h1 hne hrb hcb hf hby => by
      refine (like_calls w rb d dg (npL dg) p code way ⟨l1, l2, hb⟩ (allK dg hdg) ⟨⟨cb, cd, cap, h0, hne, hcb, hby⟩, h1, hf, hrb⟩ hp (npL_le dg hdg)).mono ?_
      rintro e w' ⟨v, q, a, b, c⟩
      exact ⟨v, q, _, a, b, c⟩ }
end Go.Proofs.Ytliimffphokmpaa.like
