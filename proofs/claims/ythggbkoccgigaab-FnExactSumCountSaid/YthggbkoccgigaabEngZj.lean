/- Laws on one sum whose numbers are counted. -/
import Derived.Test.YthggbkoccgigaabEngZi
namespace Go.Eng
set_option linter.unusedSectionVars false
set_option linter.unusedSimpArgs false
set_option linter.unusedVariables false
open Go Go.RowKit

/-- how many of the first k numbers are not nought -/
def nzc (l : List Int) : Nat → Nat
  | 0 => 0
  | k + 1 => if nth l k = 0 then nzc l k else nzc l k + 1
theorem nzc_zero {l : List Int} {k : Nat} (h : nth l k = 0) : nzc l (k + 1) = nzc l k := by
  show (if nth l k = 0 then _ else _) = _
  rw [if_pos h]
theorem nzc_one {l : List Int} {k : Nat} (h : ¬ nth l k = 0) : nzc l (k + 1) = nzc l k + 1 := by
  show (if nth l k = 0 then _ else _) = _
  rw [if_neg h]
theorem nzc_le (l : List Int) : ∀ k, nzc l k ≤ k
  | 0 => Nat.le_refl _
  | k + 1 => by
    have := nzc_le l k
    show (if nth l k = 0 then _ else _) ≤ _
    split <;> omega

/-- what is asked of a function that counts a sum's numbers -/
structure CountK (P : Program) (fIn fC : Nat) : Prop where
  kC : Known P fC
  cnt : ∀ (w : World) (s : ByteArray) (d0 : Int) (rb d len cap : Nat) (l : List Int), len ≤ 11 → rb < w.heap.size → (∀ i, i < len → w.cell? ⟨rb, d + i, none⟩ = some (.int .i64 (nth l i))) →
    (∀ w1, Below w.heap.size w w1 → Calls P fIn #[.agg #[.string s, .int .i64 d0, .slice (some ⟨rb, d, none⟩) len cap]] w1 fun e w2 => e = .returned (.bool true) ∧ Below w1.heap.size w1 w2) →
    Calls P fC #[.agg #[.string s, .int .i64 d0, .slice (some ⟨rb, d, none⟩) len cap]] w fun e w' => e = .returned (.tuple #[.int .i64 ((nzc l len : Nat) : Int), .bool true]) ∧ Below w.heap.size w w'

noncomputable section
/-- a call with a sum -/
def yesRun (P : Program) (S0 : Sums) (fuel d f k e : Nat) : OR := funE P (callN P S0 fuel d) fuel f [mk 6 1] ((MC.sum k e).heap 0 0 false .nil) 2
/-- does the slice hold the n variables of the first sum? -/
def rowOk (H : Trie) (n x : Nat) : Bool :=
  sel (sel (Nat.beq (tagOf x) 4) (sel (Nat.beq (sLen (payOf x)) n) (sel (Nat.beq (sOff (payOf x)) 0) (sel (Nat.beq (sBlk (payOf x)) 0) false (Nat.beq (sEs (payOf x)) 1)) false) false) false)
    (match tget H (Nat.pred (sBlk (payOf x))) with
     | some (.cells nb cb g keep since _) => sel (Nat.beq nb n) (sel (validE H (Nat.pred (sBlk (payOf x))) g keep since) (Nat.beq cb (listW (rowW (repB bIn n) 8))) false) false
     | _ => false) false
def countS (fC n0 : Nat) : Sums := fun f args H n =>
  sel (Nat.beq f fC) (match args with
    | [s] => gd (Nat.beq (tagOf s) 6) (match tget H (payOf s) with
      | some (.box kd m c) => gd (Nat.beq kd 0) (gd (Nat.beq m 3) (gd (inT ways5 (getW c 0)) (gd (Nat.beq (tagOf (getW c 1)) 1) (gd (Nat.ble (payOf (getW c 1)) 6) (gd (Nat.beq (npS (payOf (getW c 1))) n0) (gd (rowOk H n0 (getW c 2))
          (.yes (newBox H n 1 2 (listW [wV (pvIx 1) 549755813888 549755813899, 18]) (mk 6 n)))))))))
      | _ => .no)
    | _ => .no) .no
end

/-- ██ What is a sum, out of the runs on ways and degrees. -/
theorem yes_calls {P : Program} {S0 : Sums} (hS0 : Always P S0) {fuel dd f : Nat} (h : ∀ k ∈ ks5, ∀ e ∈ degs7, isTrue (yesRun P S0 fuel dd f k e) = true)
    (w : World) (s : ByteArray) (d : Int) (a : Option Addr) (len cap : Nat) (l : List Int) (hr : RowH w a len cap l) (hs : SumZ s d l) :
    Calls P f #[.agg #[.string s, .int .i64 d, .slice a len cap]] w fun e w' => e = .returned (.bool true) ∧ Below w.heap.size w w' := by
  obtain ⟨⟨k, hk, hs1⟩, ⟨e, he, hd, hl⟩, hb⟩ := hs
  have hsz : s.size < 9223372036854775808 := by
    have : k = 0 ∨ k = 1 ∨ k = 2 ∨ k = 3 ∨ k = 4 := by omega
    rw [hs1]
    rcases this with rfl | rfl | rfl | rfl | rfl <;> decide
  have hA : SumArg w s d a len cap l := ⟨hsz, by omega, .inl hr⟩
  have hf : (MC.sum k e).Fits s d a cap l := ⟨hk, he, hs1, hd, hl, hb⟩
  have ok : (oneT (.sum k e) s d l 0 (fun _ => 0) [7]).Ok := oneT_ok hA rng0 (fun _ => rng0) seven_rng
  letI E : Env := Two.env _ ok
  obtain ⟨ρ, L, c, _, hv⟩ := MC.put (q := 0) (n := 0) (long := false) (Ctx.start w) (by omega) (by omega) (.inl hr) hf (Two.facts0 ok) (fun _ => by have := npS_bound he; omega)
  exact run_true (hS0 _) c (.cons _ _ _ _ hv .nil) (h k (ks5_mem hk) e (degs7_mem he))

theorem ways_inv {E : Env} {ρ : Rho} {L : Look} {x : Nat} {u : Value} (h : VR ρ L x u) (hx : inT ways5 x = true) : ∃ k, k < 5 ∧ u = .string (kText.getD k ⟨#[]⟩) := by
  have hm := inT_mem hx
  simp only [ways5, List.mem_cons, List.not_mem_nil, or_false] at hm
  have key : ∀ k, k < 5 → x = knownT.getD k 0 → isStr x = true → ∃ k, k < 5 ∧ u = .string (kText.getD k ⟨#[]⟩) := fun k hk hkx hi => by
    obtain ⟨s, h1, rfl⟩ := h.str_inv hi
    refine ⟨k, hk, ?_⟩
    have : s = kText.getD k ⟨#[]⟩ := strW_inj (h1.symm.trans (hkx.trans (kText_word k (by omega)).symm))
    rw [this]
  rcases hm with rfl | rfl | rfl | rfl | rfl
  · exact key 0 (by omega) rfl (by decide)
  · exact key 1 (by omega) rfl (by decide)
  · exact key 2 (by omega) rfl (by decide)
  · exact key 3 (by omega) rfl (by decide)
  · exact key 4 (by omega) rfl (by decide)

section
variable [E : Env]
/-- the numbers of the first sum -/
def pvList (n : Nat) : List Int := (List.range n).map fun i => E.int (pvIx (8 + i))
theorem pvList_len (n : Nat) : (pvList n).length = n := by simp [pvList]
theorem pvList_nth {n i : Nat} (h : i < n) : nth (pvList n) i = E.int (pvIx (8 + i)) := by
  simp [nth, pvList, List.getD_eq_getElem?_getD, h]
theorem countS_sound {P : Program} {fIn fC n0 : Nat} (K : CountK P fIn fC)
    (hIn : ∀ (w : World) (s : ByteArray) (d : Int) (a : Option Addr) (len cap : Nat) (l : List Int), RowH w a len cap l → SumZ s d l → Calls P fIn #[.agg #[.string s, .int .i64 d, .slice a len cap]] w fun e w' => e = .returned (.bool true) ∧ Below w.heap.size w w')
    (h1 : 1 ≤ n0) (h11 : n0 ≤ 11) (hE : E.int (pvIx 1) = ((nzc (pvList n0) n0 : Nat) : Int)) : SumS P (countS fC n0) := by
  intro base H n ρ L w f args vs v H' n' cs c ha h
  unfold countS at h
  rw [sel_beq] at h
  generalize hvs : vs.toList = l at ha
  split at h
  rotate_left
  · cases h
  rename_i hf
  subst hf
  split at h
  rotate_left
  · cases h
  rename_i s
  rcases ha with _ | ⟨_, v1, _, vs1, hr1, ha1⟩
  cases ha1
  have hvv : vs = #[v1] := by cases vs; simp_all
  subst hvv
  obtain ⟨g1, h⟩ := gd_inv h
  have g1 := Nat.eq_of_beq_eq_true g1
  split at h
  rotate_left
  · cases h
  rename_i kd m cw hget
  obtain ⟨g2, h2⟩ := gd_inv h
  obtain ⟨g3, h3⟩ := gd_inv h2
  obtain ⟨g4, h4⟩ := gd_inv h3
  obtain ⟨g5, h5⟩ := gd_inv h4
  obtain ⟨g6, h6⟩ := gd_inv h5
  obtain ⟨g7, h7⟩ := gd_inv h6
  obtain ⟨g8, h8⟩ := gd_inv h7
  clear h h2 h3 h4 h5 h6 h7
  obtain rfl := Nat.eq_of_beq_eq_true g2
  obtain rfl := Nat.eq_of_beq_eq_true g3
  obtain ⟨us, rfl, hs, _, hall⟩ := hr1.agg_inv g1 (c.agree.2 _ _ hget)
  obtain ⟨u0, e0, r0, _⟩ := hall 0 (by omega)
  obtain ⟨u1, e1, r1, _⟩ := hall 1 (by omega)
  obtain ⟨u2, e2, r2, _⟩ := hall 2 (by omega)
  obtain ⟨k, hk, rfl⟩ := ways_inv r0 g4
  obtain ⟨p, hp, _, hpp, rfl⟩ := r1.int_inv (Nat.eq_of_beq_eq_true g5)
  have g6 := Nat.le_of_ble_eq_true g6
  have g7 := Nat.eq_of_beq_eq_true g7
  rw [hpp] at g6 g7
  have hsp : sInt p = (p : Int) := by unfold sInt; rw [if_pos (by omega)]
  rw [hsp] at e1
  unfold rowOk at g8
  obtain ⟨b1, b2⟩ := sel_andB g8
  obtain ⟨b3, b4⟩ := sel_andB b1
  obtain ⟨b5, b6⟩ := sel_andB b4
  obtain ⟨b7, b8⟩ := sel_andB b6
  rw [sel_beq] at b8
  split at b8
  · cases b8
  have b8 := Nat.eq_of_beq_eq_true b8
  have b3 := Nat.eq_of_beq_eq_true b3
  have b5 := Nat.eq_of_beq_eq_true b5
  have b7 := Nat.eq_of_beq_eq_true b7
  split at b2
  rotate_left
  · cases b2
  rename_i nb cb gg keep since mx hgetb
  obtain ⟨b9, b10⟩ := sel_andB b2
  obtain ⟨b11, b12⟩ := sel_andB b10
  have b9 := Nat.eq_of_beq_eq_true b9
  have b12 := Nat.eq_of_beq_eq_true b12
  rcases r2.slice_inv b3 with ⟨hn, _⟩ | ⟨b, e', o, nn, k', rb, d, sz, cc, a, h1', h2', h3', h4', h5', h6', h7', h8', h9', h10', rfl⟩
  · rw [hn] at b5
    have : n0 = 0 := b5.symm
    omega
  obtain ⟨_, q1, q2, q3, q4, q5⟩ := s_parts b e' o nn k' h2' h3' h4' h5'
  rw [h10', q1] at b5
  rw [h10', q3] at b7
  rw [h10', q4] at b8
  rw [h10', q5, Nat.pred_succ] at hgetb b11
  subst b5; subst b7; subst b8; subst b9; subst b12
  obtain ⟨rfl, hcsz⟩ := h9'.resolve_left (by omega)
  have hL := c.agree.2 _ _ hgetb
  have hlive := validE_iff c.agree hL b11
  obtain ⟨kk, hkk, hbr⟩ := c.sim.blk b _ h1'
  rw [hL] at hkk; injection hkk with hkk; subst hkk
  obtain ⟨cs2, ty, fz, t1, t2, t3, t4, t5⟩ := hbr hlive
  have t2' : d + sz ≤ cs2.size := t2
  have hso := rowW_slot (bs := repB bIn nb) (o := 8) (by rw [repB_len]; omega) (fun x hx => by rw [repB_mem hx]; exact ⟨by decide, by decide⟩)
  have cell : ∀ i, i < nb → cs2[d + i]? = some (.int .i64 (nth (pvList nb) i)) ∧ -1000000 ≤ nth (pvList nb) i ∧ nth (pvList nb) i ≤ 1000000 := fun i hi => by
    obtain ⟨u, hu1, hu2, _⟩ := t5 i hi
    rw [getW_listW _ hso, rowW_get _ 8 i (by rw [repB_len]; exact hi), repB_get _ _ _ hi] at hu2
    obtain ⟨j, lo, hi', z1, z2, z3, z4, z5, rfl⟩ := hu2.var_inv (tag_wV _ _ _)
    obtain ⟨y1, y2, y3⟩ := v_parts (pvIx (8 + i)) bIn.1 bIn.2 (by decide) (by decide)
    obtain ⟨x1, x2, x3⟩ := v_parts j lo hi' z1 z2
    have hj : j = pvIx (8 + i) := by rw [← y3, z5, x3]
    have hlo : lo = 549754813888 := by
      have : lo = bIn.1 := by rw [← y2, z5, x2]
      rw [this]; rfl
    have hhi : hi' = 549756813888 := by
      have : hi' = bIn.2 := by rw [← y1, z5, x1]
      rw [this]; rfl
    subst hj
    rw [pvList_nth hi]
    exact ⟨hu1, by omega, by omega⟩
  have hrb : rb < w.heap.size := c.sim.bnd b _ h1'
  have hrow : ∀ w1 : World, Below w.heap.size w w1 → RowH w1 (some ⟨rb, d + 0, none⟩) nb cc (pvList nb) := fun w1 hw => .inr (.inr ⟨rb, d + 0, cs2, ty, fz, rfl, by rw [hw.block rb hrb]; exact t1, by omega, h6', h7', pvList_len nb, by omega, fun i hi => by rw [Nat.add_zero]; exact (cell i hi).1, fun x hx => by
      obtain ⟨i, hi, rfl⟩ := List.mem_iff_getElem.1 hx
      have := cell i (by rw [← pvList_len nb]; exact hi)
      have h2 : nth (pvList nb) i = (pvList nb)[i] := by simp [nth, List.getD_eq_getElem?_getD, hi]
      rw [← h2]; omega⟩)
  have hsum : SumZ (kText.getD k ⟨#[]⟩) (p : Int) (pvList nb) := ⟨⟨k, hk, rfl⟩, ⟨p, g6, rfl, by rw [pvList_len]; exact g7.symm⟩, fun i hi => (cell i (by rw [← pvList_len nb]; exact hi)).2⟩
  have hvsE : us = #[.string (kText.getD k ⟨#[]⟩), .int .i64 (p : Int), .slice (some ⟨rb, d + 0, none⟩) nb cc] := by
    apply Array.ext_getElem?
    intro i
    match i with
    | 0 => rw [e0]; rfl
    | 1 => rw [e1]; rfl
    | 2 => rw [e2]; rfl
    | i + 3 => rw [Array.getElem?_eq_none (by omega), Array.getElem?_eq_none (by simp)]
  subst hvsE
  obtain ⟨e, W, ⟨he, hW⟩, hcall⟩ := calls_at (K.cnt w (kText.getD k ⟨#[]⟩) (p : Int) rb (d + 0) nb cc (pvList nb) h11 hrb (fun i hi => by
      rw [Nat.add_zero, cell_of_heap t1]; exact (cell i hi).1) (fun w1 hw1 => hIn w1 _ _ _ _ _ _ (hrow w1 hw1) hsum)) cs
  subst he
  injection h8 with h8
  unfold newBox at h8
  rw [sel_ltb] at h8
  split at h8
  rotate_left
  · cases h8
  rename_i hn
  injection h8 with x1 x2 x3
  subst x1; subst x2; subst x3
  have cW := c.later hW
  refine ⟨ρ, _, W, _, ⟨cW.sim.box cW.fresh _ _ _, cW.agree.hset hn _, cW.fresh.updL _⟩, .freshL c.fresh _, hW.mono c.sim.bs, .freshL _, Nat.le_succ _, ?_, K.kC, hcall⟩
  have hsl : allSlot [wV (pvIx 1) 549755813888 549755813899, 18] = true := by decide
  refine .tup n 2 _ _ (upd_same _ _ _) rfl fun i hi => ?_
  rw [getW_listW _ hsl]
  have hcl := nzc_le (pvList nb) nb
  match i, hi with
  | 0, _ =>
    show VR ρ _ (wV (pvIx 1) 549755813888 549755813899) (.int .i64 _)
    rw [← hE]
    exact .var _ _ _ (by omega) (by omega) (.inr (by rw [hE]; omega)) (.inr (by rw [hE]; omega))
  | 1, _ => exact VR.bool true
end

noncomputable section
def cntRun (P : Program) (S0 : Sums) (F : Fns) (G : SFns) (fS fI fuel d f k e : Nat) : OR :=
  funE P (callN P (orS (orS (orS F.S (sumsS (fun _ _ => 0) G.sz G.inn G.of G.gcd)) (orS (countS fS (npS e)) (countS fI (npS e)))) S0) fuel d) fuel f [mk 6 1] ((MC.sum k e).heap 0 0 false .nil) 2
end
/-- ██ The walk of a law on one sum whose numbers are counted, out of its runs. -/
theorem sumcount_walk {P : Program} {S0 : Sums} (hS0 : Always P S0) {F : Fns} {G : SFns} {tInt fuel dd f fS fI iS iI : Nat} (K : ListK P F.to F.eq F.mark F.inn F.of tInt) (KS : SumK P G.sz G.inn G.of G.gcd) (CS : CountK P iS fS) (CI : CountK P iI fI)
    (yS : ∀ k ∈ ks5, ∀ e ∈ degs7, isTrue (yesRun P S0 fuel dd iS k e) = true) (yI : ∀ k ∈ ks5, ∀ e ∈ degs7, isTrue (yesRun P S0 fuel dd iI k e) = true) {w : World}
    {s : ByteArray} {d : Int} {a : Option Addr} {len cap : Nat} {l : List Int} (h : SumArg w s d a len cap l)
    (h1 : ∀ k ∈ ks5, ∀ e ∈ degs7, isTrue (cntRun P S0 F G fS fI fuel dd f k e) = true) (h2 : ∀ c ∈ mNo, ∀ r ∈ rooms, isTrue (oneNoS P S0 F G fuel dd f c r) = true) :
    Calls P f #[.agg #[.string s, .int .i64 d, .slice a len cap]] w fun e w' => e = .returned (.bool true) ∧ Below w.heap.size w w' := by
  rcases MC.of s d w a len cap l h.row with ⟨k, hk, e, he, hf⟩ | ⟨c, hc, hf⟩
  · have hnp := npS_bound he
    have hll := hf.2.2.2.2.1
    have hcl := nzc_le l (npS e)
    have ok : (oneT (.sum k e) s d l 0 (fun _ => ((nzc l (npS e) : Nat) : Int)) [7]).Ok := oneT_ok h rng0 (fun _ => ⟨by omega, by omega⟩) seven_rng
    letI E : Env := Two.env _ ok
    have hE := Two.sumE ok (a0 := a) (cap0 := cap) hf dummy_fits
    have hpl : pvList (npS e) = l := by
      apply List.ext_getElem
      · rw [pvList_len, hll]
      · intro i h1 h2
        have := (Two.facts0 ok).pv i (by rw [pvList_len] at h1; omega)
        rw [show 8 + 16 * 0 + i = 8 + i from by omega] at this
        have h3 : (pvList (npS e))[i] = E.int (pvIx (8 + i)) := by simp [pvList]
        rw [h3, this]
        show nth l i = l[i]
        simp [nth, List.getD_eq_getElem?_getD, h2]
    have hcnt : E.int (pvIx 1) = ((nzc (pvList (npS e)) (npS e) : Nat) : Int) := by
      rw [hpl]; exact Two.ePv ok (i := 1) (by omega)
    obtain ⟨ρ, L, c, _, hv⟩ := MC.put (q := 0) (n := 0) (long := false) (Ctx.start w) (by omega) (by omega) h.row hf (Two.facts0 ok) (fun _ => by omega)
    exact run_true (orS_sound (orS_sound (orS_sound (listS_sound K hE.lst) (sumsS_sound KS hE (fun j lw _ h0 => absurd rfl h0))) (orS_sound (countS_sound CS (yes_calls hS0 yS) hnp.1 hnp.2 hcnt) (countS_sound CI (yes_calls hS0 yI) hnp.1 hnp.2 hcnt))) (hS0 _)) c
      (.cons _ _ _ _ hv .nil) (h1 k (ks5_mem hk) e (degs7_mem he))
  · have hlen : (1048576 : Int) ≤ 1048576 := Int.le_refl _
    obtain ⟨r, hrm, hr⟩ := RC.of (a := s.size) (b := l.length) hlen
    have ok : (oneT c s d l (szZ 1048576 s.size l.length) (fun _ => 0) [7]).Ok := oneT_ok h (szZ_rng hlen) (fun _ => rng0) seven_rng
    letI E : Env := Two.env _ ok
    have hE := Two.sumE ok (a0 := a) (cap0 := cap) hf dummy_fits
    have hcs := mNo_sum hc
    obtain ⟨ρ, L, cx, _, hv⟩ := MC.put (q := 0) (n := 0) (long := r.isLong) (Ctx.start w) (by omega) (by omega) h.row hf (Two.facts0 ok) (RC.long_of hlen hr)
    exact run_true (orS_sound (orS_sound (listS_sound K hE.lst) (sumsS_sound KS hE (R := R1 (c.j 0) (r.word 0)) (R1_sound ok hcs rfl rfl rfl hr))) (hS0 _)) cx (.cons _ _ _ _ hv .nil) (h2 c hc r hrm)
end Go.Eng
