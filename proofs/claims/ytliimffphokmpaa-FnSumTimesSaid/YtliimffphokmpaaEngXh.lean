/- Sums that are drawn: what is known beforehand of the function that draws a sum of one degree and way. -/
import Derived.Test.YtliimffphokmpaaEngXf
namespace Go.Eng
set_option linter.unusedSectionVars false
set_option linter.unusedSimpArgs false
set_option linter.unusedVariables false
open Go Go.RowKit
def likeFew (code : List Int) (p : Nat) : Nat := if pickv code p 2 = 1 then 2 else 1
def likeAt (code : List Int) (p k : Nat) : Nat := p + 1 + k * likeFew code p
def likeNum (code : List Int) (p k : Nat) : Int := if pickv code p 2 = 1 ∧ pickv code (likeAt code p k + 1) 3 > 0 then 0 else pickv code (likeAt code p k) 7 - 3
def likeNums (code : List Int) (p k : Nat) : List Value := (List.range k).map fun i => .int .i64 (likeNum code p i)
def npL (d : Nat) : Nat := [1, 1, 2, 3, 5, 7, 11].getD d 0
structure LikeK (P : Program) (fl : Nat) : Prop where
  known : Known P fl
  calls : ∀ (w : World) (rb d cb cd cap p dg : Nat) (code : List Int) (way : ByteArray), 1 ≤ code.length → code.length ≤ 2000 → (∀ x ∈ code, 0 ≤ x ∧ x ≤ 255) → dg ≤ 6 → p < 100000 →
    w.cell? ⟨rb, d, none⟩ = some (.slice (some ⟨cb, cd, none⟩) code.length cap) → w.cell? ⟨rb, d + 1, none⟩ = some (.int .i64 p) → cb ≠ rb → rb < w.heap.size → cb < w.heap.size → w.frozen? ⟨rb, d + 1, none⟩ = false →
    (∀ i, i < code.length → w.cell? ⟨cb, cd + i, none⟩ = some (.int .u8 (code.getD i 0))) →
    Calls P fl #[.pointer (some ⟨rb, d, none⟩), .int .i64 dg, .string way] w fun e w' =>
      ∃ v q tI, e = .returned (.agg #[.string (if pickv code (likeAt code p (npL dg)) 80 = 1 then ⟨#[120]⟩ else way), .int .i64 dg, v]) ∧ w'.ownsRow (w.heap.size + 1) tI 1 v q (likeNums code p (npL dg) ++ if pickv code (likeAt code p (npL dg)) 80 = 0 then [.int .i64 1] else []) ∧
        Below w.heap.size (w.setCell ⟨rb, d + 1, none⟩ (.int .i64 ((likeAt code p (npL dg) + 1 : Nat) : Int))) w'
noncomputable section
def numW (few a : Nat) : Nat := wV (Nat.add (Nat.mul a 4096) (sel (Nat.beq few 2) 2007 1007)) 549755813885 549755813891
def numsW (few k : Nat) : Nat → List Nat := Nat.rec (motive := fun _ => Nat → List Nat) (fun _ => []) (fun _ ih a => numW few a :: ih (Nat.add a few)) k
def likeFin (b dg way few p np tl : Nat) (H : Trie) (n : Nat) : SR :=
  let a := Nat.add (Nat.succ p) (Nat.mul np few)
  let ws := sel (Nat.beq tl 0) (numsW few np (Nat.succ p) ++ [wI 1]) (numsW few np (Nat.succ p))
  .yes (wr H n b 1 (wI (Nat.succ a)) fun H1 => newBox (hset H1 n (.cells (lenN ws) (listW ws) (Nat.succ n) n n (lenN ws))) (Nat.succ n) 0 3 (listW [sel (Nat.beq tl 1) (strW ⟨#[120]⟩) way, wI dg, wS n 1 0 (lenN ws) 0]) (mk 6 (Nat.succ n)))
def likeC (tab : Tab) (b dg way few p : Nat) (H : Trie) (n : Nat) : SR :=
  let j := Nat.add (Nat.mul (Nat.add (Nat.succ p) (Nat.mul (npL dg) few)) 4096) 80
  let tw := pickW tab j 80
  sel (Nat.beq tw 1) (likeFin b dg way few p (npL dg) 0 H n) (sel (Nat.beq tw 17) (likeFin b dg way few p (npL dg) 1 H n)
    (sel (Nat.beq (tagOf tw) 12) (sel (Nat.ble 549755813890 (vLo (payOf tw))) (likeFin b dg way few p (npL dg) 2 H n)
      (sel (Nat.ble 549755813889 (vLo (payOf tw))) (.yes (.bad (askQ j 549755813890))) (.yes (.bad (askQ j 549755813889))))) .no))
def likeB (j0 : Nat) (tab : Tab) (b dg way : Nat) (H : Trie) (n : Nat) : SR :=
  let q := rd H b 1
  let s := rd H b 0
  gd (Nat.beq (tagOf q) 1) (gd (ltb (payOf q) 100000) (gd (Nat.beq (tagOf s) 11) (gd (Nat.ble 1 (oLo (payOf s))) (gd (codeOk j0 s) (gd (isCode j0 H (oBlk (payOf s))) (gd (ltb n 16000)
    (sel (Nat.beq (pickW tab (Nat.add (Nat.mul (payOf q) 4096) 2) 2) 1) (likeC tab b dg way 1 (payOf q) H n) (sel (Nat.beq (pickW tab (Nat.add (Nat.mul (payOf q) 4096) 2) 2) 17) (likeC tab b dg way 2 (payOf q) H n) (.yes (.bad (askQ (Nat.add (Nat.mul (payOf q) 4096) 2) 549755813889)))))))))))
def likeS (fl : Nat) (tab : Tab) (j0 : Nat := 0) : Sums := fun f args H n =>
  sel (Nat.beq f fl) (match args with
    | [r, dg, way] => gd (Nat.beq (tagOf r) 3) (gd (Nat.ble 1 (pBlk (payOf r))) (gd (Nat.beq (pOff (payOf r)) 0) (gd (Nat.beq (tagOf dg) 1) (gd (Nat.ble (payOf dg) 6) (gd (isStr way) (gd (ltb way 340282366920938463463374607431768211456)
        (likeB j0 tab (Nat.pred (pBlk (payOf r))) (payOf dg) way H n)))))))
    | _ => .no) .no
end
variable [E : Env]
theorem pickW_sound {tab : Tab} {code : List Int} {j0 : Nat} (hE : DrawE code j0) (hT : TabOk tab) (hl : 1 ≤ (code.take 2000).length) {p m : Nat} (hp : p < 1000000) (h1 : 1 ≤ m) (h2 : m ≤ 1000) (ρ : Rho) (L : Look) :
    VR ρ L (pickW tab (p * 4096 + m) m) (.int .i64 (pickv (code.take 2000) p m)) := by
  have hby : ∀ x ∈ code.take 2000, 0 ≤ x ∧ x ≤ 255 := fun x hx => hE.byte x (List.mem_of_mem_take hx)
  have hint := hE.int p m hp h1 h2
  have hpr := pickv_range hby hl hp h1 h2
  rw [← hint] at hpr ⊢
  unfold pickW
  rcases tabGet_inv (k := rangeW (p * 4096 + m)) (d := rangeW (p * 4096 + m) 0 (Nat.pred m)) (j := p * 4096 + m) tab hT with h0 | ⟨lo', hi', h0, h1'⟩
  · rw [h0]
    have : Nat.pred m = m - 1 := rfl
    exact (rangeW_sound0 (by omega) (by rw [this]; omega) (by rw [this]; omega)).1
  · rw [h0]; exact (rangeW_sound h1').1
/-- the words of the numbers -/
theorem numsW_len (few : Nat) : ∀ k a, (numsW few k a).length = k
  | 0, a => rfl
  | k + 1, a => by
    have e : numsW few (k + 1) a = numW few a :: numsW few k (a + few) := rfl
    rw [e, List.length_cons, numsW_len few k]
theorem numsW_get (few : Nat) : ∀ k a i, i < k → (numsW few k a).getD i 0 = numW few (a + i * few)
  | k + 1, a, i, h => by
    have e : numsW few (k + 1) a = numW few a :: numsW few k (a + few) := rfl
    rw [e]
    cases i with
    | zero => simp
    | succ i =>
      rw [List.getD_cons_succ, numsW_get few k (a + few) i (by omega)]
      congr 1
      rw [Nat.add_mul]
      omega
theorem numW_sound {code : List Int} {j0 : Nat} (hE : DrawE code j0) (hl : 1 ≤ (code.take 2000).length) {p i : Nat} (hp : p + 1 + i * 2 < 900000) (ρ : Rho) (L : Look) :
    VR ρ L (numW (likeFew (code.take 2000) p) (p + 1 + i * likeFew (code.take 2000) p)) (.int .i64 (likeNum (code.take 2000) p i)) := by
  have hby : ∀ x ∈ code.take 2000, 0 ≤ x ∧ x ≤ 255 := fun x hx => hE.byte x (List.mem_of_mem_take hx)
  have hfew : likeFew (code.take 2000) p = 1 ∨ likeFew (code.take 2000) p = 2 := by unfold likeFew; split <;> omega
  have hat : p + 1 + i * likeFew (code.take 2000) p < 900000 := by rcases hfew with h | h <;> rw [h] <;> omega
  have hr := pickv_range hby hl (p := p + 1 + i * likeFew (code.take 2000) p) (n := 7) (by omega) (by omega) (by omega)
  have h0 := hE.num0 (p + 1 + i * likeFew (code.take 2000) p) (by omega)
  have h1 := hE.num1 (p + 1 + i * likeFew (code.take 2000) p) (by omega)
  unfold likeNum likeAt
  by_cases h2 : pickv (code.take 2000) p 2 = 1
  · have hf : likeFew (code.take 2000) p = 2 := by unfold likeFew; rw [if_pos h2]
    rw [hf] at h1 hr ⊢
    have e : (if pickv (code.take 2000) p 2 = 1 ∧ pickv (code.take 2000) (p + 1 + i * 2 + 1) 3 > 0 then (0 : Int) else pickv (code.take 2000) (p + 1 + i * 2) 7 - 3) = E.int ((p + 1 + i * 2) * 4096 + 2007) := by
      rw [h1]
      by_cases h3 : 0 < pickv (code.take 2000) (p + 1 + i * 2 + 1) 3
      · rw [if_pos ⟨h2, h3⟩, if_pos h3]
      · rw [if_neg (fun h => h3 h.2), if_neg h3]
    rw [e]
    have hb : -3 ≤ E.int ((p + 1 + i * 2) * 4096 + 2007) ∧ E.int ((p + 1 + i * 2) * 4096 + 2007) ≤ 3 := by rw [h1]; split <;> omega
    show VR ρ L (wV ((p + 1 + i * 2) * 4096 + 2007) 549755813885 549755813891) _
    exact .var _ _ _ (by omega) (by omega) (.inr (by omega)) (.inr (by omega))
  · have hf : likeFew (code.take 2000) p = 1 := by unfold likeFew; rw [if_neg h2]
    rw [hf] at h0 hr ⊢
    rw [if_neg (fun h => h2 h.1), ← h0]
    show VR ρ L (wV ((p + 1 + i * 1) * 4096 + 1007) 549755813885 549755813891) _
    exact .var _ _ _ (by omega) (by omega) (.inr (by omega)) (.inr (by omega))
theorem numW_holds {E : Env} {code : List Int} {j0 : Nat} (hE : @DrawE E code j0) (hl : 1 ≤ (code.take 2000).length) {p i : Nat} (hp : p + 1 + i * 2 < 900000) :
    HoldsT E (numW (likeFew (code.take 2000) p) (p + 1 + i * likeFew (code.take 2000) p)) (.int .i64 (likeNum (code.take 2000) p i)) := by
  letI : Env := E
  refine ⟨numW_sound hE hl hp _ _, ?_⟩
  have hfew : likeFew (code.take 2000) p = 1 ∨ likeFew (code.take 2000) p = 2 := by unfold likeFew; split <;> omega
  rw [storable_iff]
  unfold numW
  rw [tag_wV]
  refine ⟨by decide, by decide, by decide, ?_⟩
  rcases hfew with h | h
  · rw [h]
    show 16 * (1099511627776 * (1099511627776 * ((p + 1 + i * 1) * 4096 + 1007) + 549755813885) + 549755813891) + 12 < _
    omega
  · rw [h]
    show 16 * (1099511627776 * (1099511627776 * ((p + 1 + i * 2) * 4096 + 2007) + 549755813885) + 549755813891) + 12 < _
    omega
theorem likeFin_sound {E : Env} {P : Program} {fl : Nat} (K : LikeK P fl) {code : List Int} {j0 : Nat} (hE : @DrawE E code j0) {base n : Nat} {H : Trie} {ρ : Rho} {L : Look} {w : World} (c : @Ctx E base H n ρ L w) {cs : List Frame}
    {b rb d sz crb cd cap p dg tl few : Nat} {s : ByteArray} (hb : ρ b = some (rb, d, sz)) (hrb : rb < w.heap.size) (hcrb : crb < w.heap.size) (hro : crb < base)
    (hl1 : 1 ≤ (code.take 2000).length) (hp : p < 100000) (hdg : dg ≤ 6) (hn : n < 16000)
    (h0 : w.cell? ⟨rb, d, none⟩ = some (.slice (some ⟨crb, cd, none⟩) (code.take 2000).length cap)) (h1 : w.cell? ⟨rb, d + 1, none⟩ = some (.int .i64 p)) (hby : ∀ i, i < (code.take 2000).length → w.cell? ⟨crb, cd + i, none⟩ = some (.int .u8 ((code.take 2000).getD i 0)))
    (hfew : few = likeFew (code.take 2000) p) (ht0 : tl = 0 ↔ pickv (code.take 2000) (likeAt (code.take 2000) p (npL dg)) 80 = 0) (ht1 : tl = 1 ↔ pickv (code.take 2000) (likeAt (code.take 2000) p (npL dg)) 80 = 1)
    (hs : strW s < 340282366920938463463374607431768211456) {v : Nat} {H' : Trie} {n' : Nat} (h : likeFin b dg (strW s) few p (npL dg) tl H n = .yes (.ok v H' n')) :
    @After E base H n ρ L w v H' n' (fun x w' => Known P fl ∧ CallsAt P fl #[.pointer (some ⟨rb, d, none⟩), .int .i64 dg, .string s] w cs (fun e W => e = .returned x ∧ W = w')) := by
  letI : Env := E
  have hbyte : ∀ x ∈ code.take 2000, 0 ≤ x ∧ x ≤ 255 := fun x hx => hE.byte x (List.mem_of_mem_take hx)
  have hl2 : (code.take 2000).length ≤ 2000 := by simp; omega
  have hnp : 1 ≤ npL dg ∧ npL dg ≤ 11 := by
    rcases (show dg = 0 ∨ dg = 1 ∨ dg = 2 ∨ dg = 3 ∨ dg = 4 ∨ dg = 5 ∨ dg = 6 by omega) with rfl | rfl | rfl | rfl | rfl | rfl | rfl <;> decide
  have hf12 : few = 1 ∨ few = 2 := by rw [hfew]; unfold likeFew; split <;> omega
  have hat : likeAt (code.take 2000) p (npL dg) = p + 1 + npL dg * few := by unfold likeAt; rw [hfew]
  have hatl : p + 1 + npL dg * few < 100100 := by rcases hf12 with h | h <;> rw [h] <;> omega
  unfold likeFin at h
  simp only at h
  injection h with h
  have ea : Nat.succ (Nat.add (Nat.succ p) (Nat.mul (npL dg) few)) = p + 1 + npL dg * few + 1 := rfl
  rw [ea] at h
  have hstw : storable (wI (p + 1 + npL dg * few + 1)) = true := by
    rw [storable_iff, tag_wI]; exact ⟨by decide, by decide, by decide, wI_slot (by omega)⟩
  obtain ⟨H1, L1, hk, hc', he, hbel, hloc, hbase, _, hfro⟩ := wr_sound c hb hstw (VR.small (p + 1 + npL dg * few + 1) (by omega)) h (by simp)
  obtain ⟨b1, b2, b3, b4⟩ := newBox_inv hk
  subst b2; subst b3; subst b4
  have hne : crb ≠ rb := by omega
  generalize hws : sel (Nat.beq tl 0) (numsW few (npL dg) (Nat.succ p) ++ [wI 1]) (numsW few (npL dg) (Nat.succ p)) = ws
  obtain ⟨e, W, ⟨v0, q, tI, he1, hown, hbelW⟩, hcall⟩ := calls_at (K.calls w rb d crb cd cap p dg (code.take 2000) s hl1 hl2 hbyte hdg hp h0 h1 hne hrb hcrb hfro hby) cs
  subst he1
  have hx : ∃ xs, xs = (likeNums (code.take 2000) p (npL dg) ++ if pickv (code.take 2000) (likeAt (code.take 2000) p (npL dg)) 80 = 0 then [Value.int .i64 1] else []) ∧ xs.length = ws.length ∧ ∀ i, i < ws.length → ∃ u, xs[i]? = some u ∧ HoldsT E (ws.getD i 0) u := by
    refine ⟨_, rfl, ?_⟩
    have hln : (likeNums (code.take 2000) p (npL dg)).length = npL dg := by unfold likeNums; simp
    have hnum : ∀ i, i < npL dg → ∃ u, (likeNums (code.take 2000) p (npL dg))[i]? = some u ∧ HoldsT E (numW few (p + 1 + i * few)) u := fun i hi => ⟨.int .i64 (likeNum (code.take 2000) p i), by unfold likeNums; simp [hi], by rw [hfew]; exact numW_holds hE hl1 (by omega)⟩
    have es : Nat.succ p = p + 1 := rfl
    have hone : HoldsT E (wI 1) (.int .i64 1) := ⟨VR.small 1 (by omega), by rw [storable_iff, tag_wI]; exact ⟨by decide, by decide, by decide, wI_slot (by omega)⟩⟩
    rw [sel_beq] at hws
    by_cases h0 : tl = 0
    · rw [if_pos h0] at hws
      rw [if_pos (ht0.1 h0)]
      subst hws
      refine ⟨by simp [hln, numsW_len], fun i hi => ?_⟩
      by_cases hin : i < npL dg
      · obtain ⟨u, a, b⟩ := hnum i hin
        refine ⟨u, by rw [List.getElem?_append_left (by omega)]; exact a, ?_⟩
        rw [List.getD_eq_getElem?_getD, List.getElem?_append_left (by rw [numsW_len]; exact hin), ← List.getD_eq_getElem?_getD, numsW_get _ _ _ _ hin, es]
        exact b
      · have hi2 : i = npL dg := by simp [numsW_len] at hi; omega
        rw [hi2]
        refine ⟨.int .i64 1, by rw [List.getElem?_append_right (by omega), hln]; simp, ?_⟩
        rw [List.getD_eq_getElem?_getD, List.getElem?_append_right (by rw [numsW_len]; omega), numsW_len]
        simpa using hone
    · rw [if_neg h0] at hws
      rw [if_neg (fun h => h0 (ht0.2 h)), List.append_nil]
      subst hws
      refine ⟨by rw [hln, numsW_len], fun i hi => ?_⟩
      rw [numsW_len] at hi
      obtain ⟨u, a, b⟩ := hnum i hi
      refine ⟨u, a, ?_⟩
      rw [numsW_get _ _ _ _ hi, es]
      exact b
  have hwpos : 0 < ws.length ∧ ws.length < 20 := by
    rw [sel_beq] at hws
    subst hws
    split
    · simp [numsW_len]; omega
    · rw [numsW_len]; omega
  obtain ⟨xs, hxs, hxl, hxv⟩ := hx
  rw [← hxs] at hown
  have hown1 := hown.1
  rcases hown.2 with ⟨_, hq0⟩ | ⟨g, cp, cur, hv0, hg1, hg2, hg3, hg4, hg5, hg6⟩
  · omega
  have hq : q = ws.length := by omega
  have hrow : DRow E (w.heap.size + 1) W g 0 cp ws := by
    refine ⟨hg1, by omega, by unfold maxLen at hg4; omega, cur, tI, hg2, by omega, fun i hi => ?_⟩
    obtain ⟨u, a, b⟩ := hxv i hi
    refine ⟨u, ?_, b⟩
    rw [← hg6, List.getElem?_take_of_lt (by omega)] at a
    rw [Nat.zero_add]
    simpa using a
  have hsize : (w.setCell ⟨rb, d + 1, none⟩ (.int .i64 ((p + 1 + npL dg * few + 1 : Nat) : Int))).heap.size = w.heap.size := by simp [World.setCell]
  rw [hat] at hbelW
  have hbelW2 : Below w.heap.size (w.setCell ⟨rb, d + 1, none⟩ (.int .i64 ((p + 1 + npL dg * few + 1 : Nat) : Int))) W := hbelW
  have c2 : Ctx base H1 n ρ L1 W := hc'.later (by rw [hsize]; exact hbelW2)
  have hbs := c.sim.bs
  obtain ⟨ρ1, L2, c3, e3, v3, hb3, hloc3⟩ := adopt_drow c2 (by omega) (s := w.heap.size + 1) (by omega) hrow (by omega) (by omega) (fun b r hr => by have := c.sim.bnd b r hr; omega)
  have hwS : wS n 1 0 (lenN ws) 0 < 2 ^ 128 := by rw [lenN_eq, wS_eq]; omega
  have hst3 : storable (wS n 1 0 (lenN ws) 0) = true := by
    rw [storable_iff, tag_wS]
    exact ⟨by decide, by decide, by decide, hwS⟩
  have hstr : ∀ t : ByteArray, strW t < 340282366920938463463374607431768211456 → HoldsT E (strW t) (.string t) := fun t ht => ⟨.str t, by
    rw [storable_iff]
    have h7 : tagOf (strW t) = 7 := by unfold strW; rw [tag_mk7]
    rw [h7]
    exact ⟨by decide, by decide, by decide, ht⟩⟩
  have g1 : HoldsT E (sel (Nat.beq tl 1) (strW ⟨#[120]⟩) (strW s)) (.string (if pickv (code.take 2000) (likeAt (code.take 2000) p (npL dg)) 80 = 1 then ⟨#[120]⟩ else s)) := by
    rw [sel_beq]
    by_cases ht : tl = 1
    · rw [if_pos ht, if_pos (ht1.1 ht)]; exact hstr _ (by decide)
    · rw [if_neg ht, if_neg (fun h => ht (ht1.2 h))]; exact hstr _ hs
  have g2 : HoldsT E (wI dg) (.int .i64 dg) := ⟨VR.small dg (by omega), by rw [storable_iff, tag_wI]; exact ⟨by decide, by decide, by decide, wI_slot (by omega)⟩⟩
  generalize sel (Nat.beq tl 1) (strW ⟨#[120]⟩) (strW s) = t1 at g1 ⊢
  generalize (if pickv (code.take 2000) (likeAt (code.take 2000) p (npL dg)) 80 = 1 then (⟨#[120]⟩ : ByteArray) else s) = s1 at g1 hcall
  have hall : allSlot [t1, wI dg, wS n 1 0 (lenN ws) 0] = true := allSlot_of _ fun y hy => by
    simp only [List.mem_cons, List.not_mem_nil, or_false] at hy
    rcases hy with rfl | rfl | rfl
    · exact storable_lt g1.2
    · exact storable_lt g2.2
    · exact hwS
  have hlen3 : ∀ a b d : Nat, [a, b, d].length = 3 := fun _ _ _ => rfl
  have hlw := listW_lt _ hall
  rw [hlen3] at hlw
  have ex : Ext ρ1 L2 ρ1 (upd L2 (n + 1) (.box 0 3 (listW [t1, wI dg, wS n 1 0 (lenN ws) 0]))) := .freshL c3.fresh _
  have hagg : VR ρ1 (upd L2 (n + 1) (.box 0 3 (listW [t1, wI dg, wS n 1 0 (lenN ws) 0]))) (mk 6 (Nat.succ n)) (.agg #[.string s1, .int .i64 dg, .slice (some ⟨g, 0, none⟩) ws.length cp]) := by
    refine .agg (n + 1) 3 _ _ (upd_same _ _ _) rfl (fun i hi => ?_) hlw (fun i hi => ?_)
    · rw [getW_listW _ hall]
      have hi3 : i = 0 ∨ i = 1 ∨ i = 2 := by simp at hi; omega
      rcases hi3 with rfl | rfl | rfl
      · exact g1.vr _ _
      · exact g2.vr _ _
      · exact v3.mono ex
    · rw [getW_listW _ hall]
      have hi3 : i = 0 ∨ i = 1 ∨ i = 2 := by omega
      rcases hi3 with rfl | rfl | rfl
      · exact g1.2
      · exact g2.2
      · exact hst3
  refine ⟨ρ1, _, W, _, ⟨c3.sim.box c3.fresh _ _ _, c3.agree.hset b1 _, c3.fresh.updL _⟩, he.trans (e3.trans ex), hbel.trans (hbelW2.mono hbs), Loc.trans (H1 := H) hloc (Nat.le_refl _) (Loc.trans (H1 := H) hloc3.any (Nat.le_succ _) (.freshL _)), by omega, hagg, K.known, ?_⟩
  rw [hv0, hq] at hcall
  exact hcall
theorem wI_lit {ρ : Rho} {L : Look} {z : Int} {k : Nat} (hk : k < 9223372036854775808) (h : VR ρ L (wI k) (.int .i64 z)) : z = k := by
  obtain ⟨p, hp, _, hpp, hv⟩ := h.int_inv (tag_wI k)
  rw [pay_wI] at hpp
  injection hv with _ hv
  rw [hv, ← hpp, sInt_small hk]
theorem likeC_sound {E : Env} {P : Program} {fl : Nat} (K : LikeK P fl) {tab : Tab} {code : List Int} {j0 : Nat} (hE : @DrawE E code j0) (hT : @TabOk E tab) {base n : Nat} {H : Trie} {ρ : Rho} {L : Look} {w : World} (c : @Ctx E base H n ρ L w) {cs : List Frame}
    {b rb d sz crb cd cap p dg few : Nat} {s : ByteArray} (hb : ρ b = some (rb, d, sz)) (hrb : rb < w.heap.size) (hcrb : crb < w.heap.size) (hro : crb < base)
    (hl1 : 1 ≤ (code.take 2000).length) (hp : p < 100000) (hdg : dg ≤ 6) (hn : n < 16000)
    (h0 : w.cell? ⟨rb, d, none⟩ = some (.slice (some ⟨crb, cd, none⟩) (code.take 2000).length cap)) (h1 : w.cell? ⟨rb, d + 1, none⟩ = some (.int .i64 p)) (hby : ∀ i, i < (code.take 2000).length → w.cell? ⟨crb, cd + i, none⟩ = some (.int .u8 ((code.take 2000).getD i 0)))
    (hfew : few = likeFew (code.take 2000) p) (hs : strW s < 340282366920938463463374607431768211456) {v : Nat} {H' : Trie} {n' : Nat} (h : likeC tab b dg (strW s) few p H n = .yes (.ok v H' n')) :
    @After E base H n ρ L w v H' n' (fun x w' => Known P fl ∧ CallsAt P fl #[.pointer (some ⟨rb, d, none⟩), .int .i64 dg, .string s] w cs (fun e W => e = .returned x ∧ W = w')) := by
  letI : Env := E
  have hnp : npL dg ≤ 11 := by
    rcases (show dg = 0 ∨ dg = 1 ∨ dg = 2 ∨ dg = 3 ∨ dg = 4 ∨ dg = 5 ∨ dg = 6 by omega) with rfl | rfl | rfl | rfl | rfl | rfl | rfl <;> decide
  have hf12 : few = 1 ∨ few = 2 := by rw [hfew]; unfold likeFew; split <;> omega
  have hat : likeAt (code.take 2000) p (npL dg) = p + 1 + npL dg * few := by unfold likeAt; rw [hfew]
  have hatl : p + 1 + npL dg * few < 100100 := by rcases hf12 with h | h <;> rw [h] <;> omega
  have ht := pickW_sound hE hT hl1 (p := p + 1 + npL dg * few) (m := 80) (by omega) (by omega) (by omega) ρ L
  rw [← hat] at ht
  have ej : Nat.add (Nat.mul (Nat.add (Nat.succ p) (Nat.mul (npL dg) few)) 4096) 80 = likeAt (code.take 2000) p (npL dg) * 4096 + 80 := by rw [hat]; rfl
  unfold likeC at h
  simp only at h
  rw [ej] at h
  generalize pickW tab (likeAt (code.take 2000) p (npL dg) * 4096 + 80) 80 = tw at h ht
  rw [sel_beq] at h
  split at h
  · rename_i h2
    subst h2
    have hz : pickv (code.take 2000) (likeAt (code.take 2000) p (npL dg)) 80 = 0 := wI_lit (k := 0) (by omega) ht
    exact likeFin_sound K hE c hb hrb hcrb hro hl1 hp hdg hn h0 h1 hby hfew ⟨fun _ => hz, fun _ => rfl⟩ ⟨fun h => by omega, fun h => by omega⟩ hs h
  · rw [sel_beq] at h
    split at h
    · rename_i h2
      subst h2
      have hz : pickv (code.take 2000) (likeAt (code.take 2000) p (npL dg)) 80 = 1 := wI_lit (k := 1) (by omega) ht
      exact likeFin_sound K hE c hb hrb hcrb hro hl1 hp hdg hn h0 h1 hby hfew ⟨fun h => by omega, fun h => by omega⟩ ⟨fun _ => hz, fun _ => rfl⟩ hs h
    · rw [sel_beq] at h
      split at h
      · rename_i h12
        rw [sel_ble] at h
        split at h
        · rename_i hlo
          obtain ⟨j, lo, hi, q1, q2, q3, q4, e1, e2⟩ := ht.var_inv h12
          have e3 : vLo (payOf tw) = lo := by rw [e1]; exact (v_parts j lo hi q1 q2).2.1
          rw [e3] at hlo
          injection e2 with _ e2
          have hz : 2 ≤ pickv (code.take 2000) (likeAt (code.take 2000) p (npL dg)) 80 := by
            rcases q3 with h | h
            · omega
            · omega
          exact likeFin_sound K hE c hb hrb hcrb hro hl1 hp hdg hn h0 h1 hby hfew ⟨fun h => by omega, fun h => by omega⟩ ⟨fun h => by omega, fun h => by omega⟩ hs h
        · rw [sel_ble] at h
          split at h
          · cases h
          · cases h
      · cases h
theorem likeS_sound {P : Program} {fl : Nat} {tab : Tab} {code : List Int} {j0 : Nat} (K : LikeK P fl) (hE : DrawE code j0) (hT : TabOk tab) : SumS P (likeS fl tab j0) := by
  intro base H n ρ L w f args vs v H' n' cs c ha h
  unfold likeS at h
  rw [sel_beq] at h
  generalize hvs : vs.toList = l at ha
  split at h
  · rename_i hf
    subst hf
    split at h
    · rename_i r dg way
      rcases ha with _ | ⟨_, v1, _, vs1, hr1, ha1⟩
      rcases ha1 with _ | ⟨_, v2, _, vs2, hr2, ha2⟩
      rcases ha2 with _ | ⟨_, v3, _, vs3, hr3, ha3⟩
      cases ha3
      have hvv : vs = #[v1, v2, v3] := by cases vs; simp_all
      subst hvv
      obtain ⟨g1, h⟩ := gd_inv h
      obtain ⟨g2, h⟩ := gd_inv h
      obtain ⟨g3, h⟩ := gd_inv h
      obtain ⟨g4, h⟩ := gd_inv h
      obtain ⟨g5, h⟩ := gd_inv h
      obtain ⟨g6, h⟩ := gd_inv h
      obtain ⟨g7, h⟩ := gd_inv h
      have g1 := Nat.eq_of_beq_eq_true g1
      have g2 := Nat.le_of_ble_eq_true g2
      have g3 := Nat.eq_of_beq_eq_true g3
      have g4 := Nat.eq_of_beq_eq_true g4
      have g5 := Nat.le_of_ble_eq_true g5
      have g7 := (ltb_iff _ _).1 g7
      rcases hr1.ptr_inv g1 with ⟨h4, _⟩ | ⟨b, off, rb, d, sz, hb, hof, hw, hv⟩
      · rw [h4] at g2; exact absurd g2 (by decide)
      obtain ⟨_, p2, p3⟩ := p_parts b off hof
      rw [hw, p2] at g3
      subst g3
      rw [hw, p3, Nat.pred_succ] at h
      subst hv
      obtain ⟨m, hm, _, hmp, hv2⟩ := hr2.int_inv g4
      rw [hmp] at h g5
      subst hv2
      obtain ⟨s, hs1, rfl⟩ := hr3.str_inv g6
      rw [hs1] at h g7
      unfold likeB at h
      simp only at h
      obtain ⟨k1, h⟩ := gd_inv h
      obtain ⟨k3, h⟩ := gd_inv h
      obtain ⟨k2, h⟩ := gd_inv h
      obtain ⟨k6, h⟩ := gd_inv h
      obtain ⟨k7, h⟩ := gd_inv h
      obtain ⟨k8, h⟩ := gd_inv h
      obtain ⟨k9, h⟩ := gd_inv h
      have k1 := Nat.eq_of_beq_eq_true k1
      have k3 := (ltb_iff _ _).1 k3
      have k2 := Nat.eq_of_beq_eq_true k2
      have k6 := Nat.le_of_ble_eq_true k6
      have k8 := isCode_inv k8
      have k9 := (ltb_iff _ _).1 k9
      obtain ⟨vq, hcq, hq⟩ := rd_sound c hb (o := 1) (by rw [k1]; decide)
      obtain ⟨p, hp, _, hpp, rfl⟩ := hq.int_inv k1
      rw [hpp] at k3 h
      rw [sInt_small (by omega)] at hcq
      rw [sInt_small (by omega)]
      obtain ⟨vc, hcc, hc⟩ := rd_sound c hb (o := 0) (by rw [k2]; decide)
      obtain ⟨j, lo, hi, crb, cd, csz, cap, hcb, hj, hlo, hsw, hll, rfl, hcl, hcs⟩ := code_word hE hc k2 k7
      have hlen1 : 1 ≤ (code.take 2000).length := by omega
      obtain ⟨hro, hbytes⟩ := code_cells hE c hcb k8
      have hbytes' : ∀ i, i < (code.take 2000).length → w.cell? ⟨crb, cd + i, none⟩ = some (.int .u8 ((code.take 2000).getD i 0)) := fun i hi => by
        rw [take_getD code i hi]; exact hbytes i (by simp at hi; omega)
      have hrb := c.sim.bnd b _ hb
      have hcrb := c.sim.bnd _ _ hcb
      have hfw := pickW_sound hE hT hlen1 (p := p) (m := 2) (by omega) (by omega) (by omega) ρ L
      have ej : Nat.add (Nat.mul p 4096) 2 = p * 4096 + 2 := rfl
      rw [ej] at h
      rw [sel_beq] at h
      split at h
      · rename_i h2
        rw [h2] at hfw
        have hz : pickv (code.take 2000) p 2 = 0 := wI_lit (k := 0) (by omega) hfw
        exact likeC_sound K hE hT c hb hrb hcrb hro hlen1 k3 g5 k9 (by simpa using hcc) hcq hbytes' (by unfold likeFew; rw [if_neg (by omega)]) g7 h
      · rw [sel_beq] at h
        split at h
        · rename_i h2
          rw [h2] at hfw
          have hz : pickv (code.take 2000) p 2 = 1 := wI_lit (k := 1) (by omega) hfw
          exact likeC_sound K hE hT c hb hrb hcrb hro hlen1 k3 g5 k9 (by simpa using hcc) hcq hbytes' (by unfold likeFew; rw [if_pos hz]) g7 h
        · cases h
    · cases h
  · cases h
/-- what is known beforehand, and the sums that are drawn -/
noncomputable def withLike (fl : Nat) (S : Sums) : Nat → Tab → Sums := fun j0 tab => orS (likeS fl tab j0) S
theorem withLike_sound {P : Program} {fl : Nat} (K : LikeK P fl) {S : Sums} (hS : Always P S) : ∀ (E : Env) (code : List Int) (j0 : Nat) (tab : Tab), @DrawE E code j0 → @TabOk E tab → @SumS E P (withLike fl S j0 tab) :=
  fun E code j0 tab hE hT => @orS_sound E P _ _ (@likeS_sound E P fl tab code j0 K hE hT) (hS E)
end Go.Eng
