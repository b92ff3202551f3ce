/- Laws on a code: a tree of questions. -/
import Derived.Test.YthcdiaahpodkoabEngW
namespace Go.Eng
set_option linter.unusedSectionVars false
set_option linter.unusedSimpArgs false
set_option linter.unusedVariables false
open Go Go.RowKit

/-! ### more that is known beforehand -/
def orS (A B : Sums) : Sums := fun f args H n => match A f args H n with | .no => B f args H n | .yes r => .yes r
theorem orS_sound [E : Env] {P : Program} {A B : Sums} (ha : SumS P A) (hb : SumS P B) : SumS P (orS A B) := by
  intro base H n ρ L w f args vs v H' n' cs c har h
  unfold orS at h
  split at h
  · exact hb _ _ _ _ _ _ _ _ _ _ _ _ _ c har h
  · rename_i r hr
    injection h with h
    subst h
    exact ha _ _ _ _ _ _ _ _ _ _ _ _ _ c har hr
def Always (P : Program) (S : Sums) : Prop := ∀ E : Env, @SumS E P S
theorem noSums_always (P : Program) : Always P noSums := fun E => @noSums_ok E P
/-- the length in bits of a small number: what it is does not matter -/
structure LenK (P : Program) (f : Nat) : Prop where
  known : Known P f
  calls : ∀ (w : World) (p : Nat), p < 8 → Calls P f #[.int .u64 (p : Int)] w fun e w' => ∃ r : Int, 0 ≤ r ∧ r ≤ 255 ∧ e = .returned (.int .i64 r) ∧ w' = w
noncomputable def lenS (f : Nat) : Sums := fun g args H n => sel (Nat.beq g f) (match args with | [x] => gd (Nat.beq (tagOf x) 5) (gd (ltb (payOf x) 8) (.yes (.ok (wG 0 255) H n))) | _ => .no) .no
theorem lenS_always {P : Program} {f : Nat} (K : LenK P f) : Always P (lenS f) := by
  intro E base H n ρ L w g args vs v H' n' cs c ha h
  unfold lenS at h
  rw [sel_beq] at h
  generalize hvs : vs.toList = l at ha
  split at h
  · rename_i hf
    subst hf
    split at h
    · rename_i x
      rcases ha with _ | ⟨_, v1, _, vs1, hr1, ha1⟩
      cases ha1
      have hvv : vs = #[v1] := by cases vs; simp_all
      subst hvv
      obtain ⟨g1, h⟩ := gd_inv h
      obtain ⟨g2, h⟩ := gd_inv h
      have g1 := Nat.eq_of_beq_eq_true g1
      have g2 := (ltb_iff _ _).1 g2
      obtain ⟨p, hp, hpp, rfl⟩ := hr1.u64_inv g1
      rw [hpp] at g2
      injection h with h
      injection h with e1 e2 e3
      subst e1; subst e2; subst e3
      obtain ⟨e, W, ⟨r, h1, h2, he, hW⟩, hcall⟩ := calls_at (K.calls w p g2) cs
      subst he; subst hW
      exact ⟨ρ, L, _, _, c, .refl _ _, Below.refl _ _, .refl _ _ _ _, Nat.le_refl _, .btw 0 255 r (by omega) (by omega) (by omega), K.known, hcall⟩
    · cases h
  · cases h

noncomputable section
/-- the place and the number that an index tells -/
def okIx (j : Nat) : Bool := sel (ltb (Nat.div j 4096) 1000000) (sel (Nat.ble 1 (Nat.mod j 4096)) (Nat.ble (Nat.mod j 4096) 1000) false) false
/-- all answers to all questions -/
def chkT (run : Tab → OR) (k : Nat) : Tab → Bool :=
  Nat.rec (motive := fun _ => Tab → Bool) (fun _ => false)
    (fun _ ih tab => match run tab with
      | .ok v _ _ => Nat.beq v 18
      | .bad q => sel (ltb q 1099511627776) false
        (let j := Nat.pred (Nat.div q 1099511627776)
         let c := Nat.sub (Nat.mod q 1099511627776) 549755813888
         let both (lo hi : Nat) : Bool := sel (ltb lo 1000) (sel (ih ((j, lo, Nat.pred c) :: tab)) (ih ((j, c, hi) :: tab)) false) false
         sel (sel (Nat.ble 1 c) (Nat.ble c 1000) false) (tabGet tab j both (sel (okIx j) (both 0 (Nat.pred (Nat.mod j 4096))) false)) false)) k
end

/-- A code told: what is not known. -/
noncomputable def codeL (code : List Int) (j : Nat) : List Value :=
  if j = 0 then code.map (Value.int .u8) else if j = 1 then (code.take 2000).map (Value.int .u8)
  else if j = 1000 then (if code.length % 3 = 0 then code.map (Value.int .u8) else [])
  else if j = 1001 then (if code.length % 3 = 0 then [.int .u8 0] else code.map (Value.int .u8)) else []
theorem codeL_len {code : List Int} (hl : code.length < 9223372036854775808) (j : Nat) : (codeL code j).length < 9223372036854775808 := by
  unfold codeL
  repeat' split
  all_goals simp
  all_goals omega
@[reducible] noncomputable def codeEnv (code : List Int) (hl : code.length < 9223372036854775808) : Env where
  lst := codeL code
  int := fun j => if 1099511627776 ≤ j then (((codeL code (j - 1099511627776)).length : Nat) : Int)
    else if -9223372036854775808 ≤ pickv (code.take 2000) (j / 4096) (j % 4096) ∧ pickv (code.take 2000) (j / 4096) (j % 4096) < 9223372036854775808 then pickv (code.take 2000) (j / 4096) (j % 4096) else 0
  wf := fun j => by
    split
    · have := codeL_len hl (j - 1099511627776); omega
    · split
      · assumption
      · omega
  len := fun j _ => by
    have : lenIx j = 1099511627776 + j := rfl
    rw [this, if_pos (by omega), show 1099511627776 + j - 1099511627776 = j from by omega]
  byThree := by
    unfold codeL
    simp only [if_neg (show ¬ (1000 : Nat) = 0 by omega), if_neg (show ¬ (1000 : Nat) = 1 by omega), if_pos]
    split
    · rw [List.length_map]; assumption
    · rfl
  notThree := by
    unfold codeL
    simp only [if_neg (show ¬ (1001 : Nat) = 0 by omega), if_neg (show ¬ (1001 : Nat) = 1 by omega), if_neg (show ¬ (1001 : Nat) = 1000 by omega), if_pos]
    split
    · simp
    · rw [List.length_map]; assumption

/-- the index that tells whether three divides the code's length -/
def threeIx (code : List Int) : Nat := if code.length % 3 = 0 then 1000 else 1001
theorem codeL_three (code : List Int) : codeL code (threeIx code) = code.map (Value.int .u8) := by
  unfold codeL threeIx
  split
  · rename_i h; simp [h]
  · rename_i h; simp [h]

theorem codeEnv_ok {code : List Int} (hl : code.length < 9223372036854775808) (hb : ∀ x ∈ code, 0 ≤ x ∧ x ≤ 255) (hne : 1 ≤ code.length) {j0 : Nat} (h0 : codeL code j0 = code.map (Value.int .u8)) : @DrawE (codeEnv code hl) code j0 :=
  letI : Env := codeEnv code hl
  { l0 := h0
    l1 := rfl
    byte := hb
    int := fun p n hp h1 h2 => by
      have hr := pickv_range (c := code.take 2000) (fun x hx => hb x (List.mem_of_mem_take hx)) (by simp; omega) hp h1 h2
      show (if 1099511627776 ≤ p * 4096 + n then _ else _) = _
      rw [if_neg (by omega), show (p * 4096 + n) / 4096 = p from by omega, show (p * 4096 + n) % 4096 = n from by omega, if_pos (by omega)] }

theorem chkT_sound [E : Env] {code : List Int} {j0 : Nat} (hE : DrawE code j0) (hne : 1 ≤ code.length) {run : Tab → OR} {Q : Prop} (hrun : ∀ tab, TabOk tab → isTrue (run tab) = true → Q) : ∀ (k : Nat) (tab : Tab), TabOk tab → chkT run k tab = true → Q
  | 0, _, _, h => by cases h
  | k + 1, tab, hT, h => by
    have e : chkT run (k + 1) tab = match run tab with
      | .ok v _ _ => Nat.beq v 18
      | .bad q => sel (ltb q 1099511627776) false
         (sel (sel (Nat.ble 1 (Nat.sub (Nat.mod q 1099511627776) 549755813888)) (Nat.ble (Nat.sub (Nat.mod q 1099511627776) 549755813888) 1000) false) (tabGet tab (Nat.pred (Nat.div q 1099511627776))
           (fun lo hi => sel (ltb lo 1000) (sel (chkT run k ((Nat.pred (Nat.div q 1099511627776), lo, Nat.pred (Nat.sub (Nat.mod q 1099511627776) 549755813888)) :: tab)) (chkT run k ((Nat.pred (Nat.div q 1099511627776), Nat.sub (Nat.mod q 1099511627776) 549755813888, hi) :: tab)) false) false)
           (sel (okIx (Nat.pred (Nat.div q 1099511627776))) (sel (ltb 0 1000) (sel (chkT run k ((Nat.pred (Nat.div q 1099511627776), 0, Nat.pred (Nat.sub (Nat.mod q 1099511627776) 549755813888)) :: tab)) (chkT run k ((Nat.pred (Nat.div q 1099511627776), Nat.sub (Nat.mod q 1099511627776) 549755813888, Nat.pred (Nat.mod (Nat.pred (Nat.div q 1099511627776)) 4096)) :: tab)) false) false) false)) false) := rfl
    rw [e] at h
    cases hr : run tab with
    | ok v H n =>
      rw [hr] at h
      exact hrun tab hT (by rw [hr]; exact h)
    | bad q =>
      rw [hr] at h
      dsimp only at h
      rw [sel_ltb] at h
      split at h
      · cases h
      · generalize Nat.pred (Nat.div q 1099511627776) = j at h
        generalize Nat.sub (Nat.mod q 1099511627776) 549755813888 = c at h
        cases hcc : sel (Nat.ble 1 c) (Nat.ble c 1000) false with
        | false => rw [hcc] at h; cases h
        | true =>
          rw [hcc, sel_true] at h
          rw [sel_ble] at hcc
          have hc2 : 1 ≤ c ∧ c ≤ 1000 := by
            split at hcc
            · exact ⟨by assumption, Nat.le_of_ble_eq_true hcc⟩
            · cases hcc
          have part : ∀ lo hi : Nat, (lo : Int) ≤ E.int j → E.int j ≤ hi → hi < 1000 → sel (ltb lo 1000) (sel (chkT run k ((j, lo, Nat.pred c) :: tab)) (chkT run k ((j, c, hi) :: tab)) false) false = true → Q := by
            intro lo hi h1 h2 h3 h
            rw [sel_ltb, if_pos (by omega)] at h
            have hp : Nat.pred c = c - 1 := rfl
            have hboth : chkT run k ((j, lo, Nat.pred c) :: tab) = true ∧ chkT run k ((j, c, hi) :: tab) = true := by
              cases hx : chkT run k ((j, lo, Nat.pred c) :: tab) with
              | true => rw [hx] at h; exact ⟨rfl, h⟩
              | false => rw [hx] at h; cases h
            by_cases hlt : E.int j < c
            · refine chkT_sound hE hne hrun k _ ?_ hboth.1
              intro e he
              rcases List.mem_cons.1 he with rfl | he
              · exact .inl ⟨h1, by show E.int j ≤ ((Nat.pred c : Nat) : Int); rw [hp]; omega, by
                  show Nat.pred c < 1000
                  rw [hp]
                  omega⟩
              · exact hT e he
            · refine chkT_sound hE hne hrun k _ ?_ hboth.2
              intro e he
              rcases List.mem_cons.1 he with rfl | he
              · exact .inl ⟨by show (c : Int) ≤ E.int j; omega, h2, h3⟩
              · exact hT e he
          rcases tabGet_inv (j := j) tab hT with h0 | ⟨lo, hi, h0, h1⟩
          · rw [h0, sel_eq] at h
            split at h
            · rename_i hok
              unfold okIx at hok
              rw [sel_ltb, sel_ble] at hok
              split at hok
              · rename_i hp
                split at hok
                · rename_i hn1
                  have hn2 := Nat.le_of_ble_eq_true hok
                  have d1 : Nat.div j 4096 = j / 4096 := rfl
                  have d2 : Nat.mod j 4096 = j % 4096 := rfl
                  rw [d1] at hp
                  rw [d2] at hn1 hn2
                  have hi := hE.int (j / 4096) (j % 4096) hp hn1 hn2
                  have hr := pickv_range (c := code.take 2000) (fun x hx => hE.byte x (List.mem_of_mem_take hx)) (by simp; omega) hp hn1 hn2
                  rw [show j / 4096 * 4096 + j % 4096 = j from by omega] at hi
                  rw [← hi] at hr
                  have d3 : Nat.pred (Nat.mod j 4096) = j % 4096 - 1 := rfl
                  exact part 0 _ (by omega) (by rw [d3]; omega) (by rw [d3]; omega) h
                · cases hok
              · cases hok
            · cases h
          · rw [h0] at h
            rcases h1 with ⟨h1, h2, h3⟩ | ⟨h1, _⟩
            · exact part lo hi h1 h2 h3 h
            · simp only at h1
              rw [sel_ltb, if_neg (by omega)] at h
              cases h
/-- Whatever is drawn, one of the runs is it. -/
def Covers (run : Tab → OR) (tab : Tab) : Prop :=
  ∀ (E : Env) (code : List Int) (j0 : Nat), @DrawE E code j0 → 1 ≤ code.length → @TabOk E tab → ∀ Q : Prop, (∀ E' : Env, E'.lst = E.lst → @DrawE E' code j0 → ∀ tab, @TabOk E' tab → isTrue (run tab) = true → Q) → Q
theorem Covers.of {run : Tab → OR} {tab : Tab} (k : Nat) (h : chkT run k tab = true) : Covers run tab := fun E code j0 hE hne hT Q hrun => @chkT_sound E code j0 hE hne run Q (hrun E rfl hE) k tab hT h
theorem Covers.part {run : Tab → OR} {tab : Tab} (j : Nat) (hj : okIx j = true) (h : ∀ v, v < j % 4096 → Covers run ((j, v, v) :: tab)) : Covers run tab := by
  intro E code j0 hE hne hT Q hrun
  unfold okIx at hj
  rw [sel_ltb, sel_ble] at hj
  split at hj
  · rename_i hp
    split at hj
    · rename_i hn1
      have hn2 := Nat.le_of_ble_eq_true hj
      have d1 : Nat.div j 4096 = j / 4096 := rfl
      have d2 : Nat.mod j 4096 = j % 4096 := rfl
      rw [d1] at hp
      rw [d2] at hn1 hn2
      have hi := hE.int (j / 4096) (j % 4096) hp hn1 hn2
      have hr := pickv_range (c := code.take 2000) (fun x hx => hE.byte x (List.mem_of_mem_take hx)) (by simp; omega) hp hn1 hn2
      rw [show j / 4096 * 4096 + j % 4096 = j from by omega] at hi
      rw [← hi] at hr
      have hv : ((E.int j).toNat : Int) = E.int j := by omega
      refine h (E.int j).toNat (by omega) E code j0 hE hne ?_ Q hrun
      intro e he
      rcases List.mem_cons.1 he with rfl | he
      · exact .inl ⟨by show (((E.int j).toNat : Nat) : Int) ≤ E.int j; omega, by show E.int j ≤ (((E.int j).toNat : Nat) : Int); omega, by show (E.int j).toNat < 1000; omega⟩
      · exact hT e he
    · cases hj
  · cases hj
/-- the numbers below one, one by one -/
def Each (n : Nat) (p : Nat → Prop) : Prop := Nat.rec (motive := fun _ => Prop) True (fun k ih => ih ∧ p k) n
theorem Each.all {p : Nat → Prop} : ∀ {n : Nat}, Each n p → ∀ v, v < n → p v
  | 0, _, v, h => by omega
  | n + 1, he, v, h => by
    by_cases hv : v = n
    · subst hv; exact he.2
    · exact Each.all he.1 v (by omega)

/-- A row of ints of a kind, as the shells of the laws tell it. -/
def RowOf (k : IntKind) (w : World) (x : Addr) (cap : Nat) (zs : List Int) : Prop := zs.length = cap ∧ ∀ i, i < zs.length → w.cell? (x.add i) = some (.int k (zs.getD i 0))

theorem RowOf.block {k : IntKind} {w : World} {x : Addr} {cap : Nat} {zs : List Int} (h : RowOf k w x cap zs) (hc : 0 < cap) :
    x.spot = none ∧ ∃ cs ty fz, w.heap[x.block]? = some (.cells cs ty fz) ∧ x.off + cap ≤ cs.size ∧ ∀ i, i < cap → cs[x.off + i]? = some (.int k (zs.getD i 0)) := by
  obtain ⟨hl, hcell⟩ := h
  have h0 := hcell 0 (by omega)
  have e0 : x.add 0 = x := by simp [Addr.add]
  rw [e0] at h0
  unfold World.cell? at h0
  split at h0
  · rename_i cs ty fz hh
    split at h0
    · cases h0
    · rename_i hsp
      have hsp' : x.spot = none := by
        cases hx : x.spot with
        | none => rfl
        | some s => rw [hx] at hsp; exact absurd rfl hsp
      have hall : ∀ i, i < cap → cs[x.off + i]? = some (.int k (zs.getD i 0)) := by
        intro i hi
        have h1 := hcell i (by omega)
        have e1 : x.add i = ⟨x.block, x.off + i, none⟩ := by
          cases i with
          | zero =>
            rw [e0]
            cases x with
            | mk b o s => simp at hsp' ⊢; exact hsp'
          | succ i => simp [Addr.add]
        rw [e1] at h1
        simpa [World.cell?, hh] using h1
      refine ⟨hsp', cs, ty, fz, hh, ?_, hall⟩
      have := hall (cap - 1) (by omega)
      have := (Array.getElem?_eq_some_iff.1 this).1
      omega
  · cases h0

/-- A law on a code, run on all draws. -/
noncomputable def codeRun (P : Program) (S0 : Sums) (fo fp fuel d f : Nat) (tab : Tab) : OR := funE P (callN P (orS (drawS fo fp tab) S0) fuel d) fuel f [wO 0 0 1 1048576] (hset .nil 0 (.opq 0 1)) 1
noncomputable def codeRunAt (j0 : Nat) (P : Program) (S0 : Sums) (fo fp fuel d f : Nat) (tab : Tab) : OR := funE P (callN P (orS (drawS fo fp tab j0) S0) fuel d) fuel f [wO 0 j0 1 1048576] (hset .nil 0 (.opq j0 1)) 1
noncomputable def longRun (P : Program) (S0 : Sums) (fo fp fuel d f : Nat) : OR := funE P (callN P (orS (drawS fo fp []) S0) fuel d) fuel f [wO 0 0 1048577 0] (hset .nil 0 (.opq 0 1)) 1
noncomputable def emptyRun (P : Program) (S0 : Sums) (fo fp fuel d f : Nat) : OR := funE P (callN P (orS (drawS fo fp []) S0) fuel d) fuel f [wS 0 1 0 0 0] (hset .nil 0 (.cells 0 0 0 0 0 0)) 1
noncomputable def zeroRun (P : Program) (S0 : Sums) (fo fp fuel d f : Nat) : OR := funE P (callN P (orS (drawS fo fp []) S0) fuel d) fuel f [14] .nil 0
noncomputable def nilRun (P : Program) (S0 : Sums) (fo fp fuel d f : Nat) : OR := funE P (callN P (orS (drawS fo fp []) S0) fuel d) fuel f [sNil] .nil 0

@[reducible] noncomputable def anyEnv : Env := codeEnv [0] (by decide)
theorem tabOk_nil [E : Env] : TabOk [] := fun e h => by cases h
theorem draw_any {P : Program} {fo fp tS : Nat} (K : DrawK P fo fp tS) : @SumS anyEnv P (drawS fo fp []) :=
  @drawS_sound anyEnv P fo fp tS [] [0] 0 K (codeEnv_ok (by decide) (by simp) (by decide) rfl) (@tabOk_nil anyEnv)

/-- ██ A law on a code. -/
theorem code_true {P : Program} {S0 : Sums} (hS0 : Always P S0) {fo fp tS fuel d f len cap : Nat} (K : DrawK P fo fp tS) {w : World} {x : Addr} {zs : List Int} (hz : RowOf .u8 w x cap zs) (hcap : 0 < cap) (hle : len ≤ cap) (hc : cap < 9223372036854775808)
    (hb : ∀ z ∈ zs, 0 ≤ z ∧ z ≤ 255) (ix : List Int → Nat) (hix : ∀ code, codeL code (ix code) = code.map (Value.int .u8) ∧ ix code < 1048576)
    (h0 : isTrue (emptyRun P S0 fo fp fuel d f) = true) (h1 : ∀ code, Covers (codeRunAt (ix code) P S0 fo fp fuel d f) []) (h2 : isTrue (longRun P S0 fo fp fuel d f) = true) :
    Calls P f #[.slice (some x) len cap] w fun e w' => e = .returned (.bool true) ∧ Below w.heap.size w w' := by
  obtain ⟨hsp, cs, ty, fz, hh, hsz, hall⟩ := hz.block hcap
  have hx : x = ⟨x.block, x.off, none⟩ := by
    cases x with
    | mk b o s => simp at hsp ⊢; exact hsp
  have hrb : x.block < w.heap.size := (Array.getElem?_eq_some_iff.1 hh).1
  have hzl : zs.length = cap := hz.1
  by_cases hl0 : len = 0
  · subst hl0
    letI : Env := anyEnv
    have c := (Ctx.start w).arg (nb := 0) (ch := 0) (sz := cap) (d := x.off) (by omega) hh hrb hsz (by omega) (by intro i hi; omega)
    refine run_true (orS_sound (draw_any K) (hS0 _)) c (.cons _ _ _ _ ?_ .nil) h0
    exact .slice 0 1 0 0 0 x.block x.off cap cap x (updR_same _ _ _) (by omega) (by omega) (by omega) (by omega) (by omega) hc (.inl rfl) (.inr ⟨hx, by omega⟩)
  · have hcl : (zs.take len).length = len := by simp; omega
    have hcb : ∀ z ∈ zs.take len, 0 ≤ z ∧ z ≤ 255 := fun z hz => hb z (List.mem_of_mem_take hz)
    letI E : Env := codeEnv (zs.take len) (by omega)
    have main : ∀ E : Env, E.lst = codeL (zs.take len) → ∀ j0 : Nat, codeL (zs.take len) j0 = (zs.take len).map (Value.int .u8) → j0 < 1048576 → Ctx w.heap.size (hset .nil 0 (.opq j0 1)) 1 (updR (fun _ => none) 0 (x.block, x.off, cap)) (upd (fun _ => none) 0 (.opq j0 1)) w ∧
        ∀ lo hi : Nat, lo < 4194304 → hi < 4194304 → lo ≤ len → (hi = 0 ∨ len ≤ hi) → VR (updR (fun _ => none) 0 (x.block, x.off, cap)) (upd (fun _ => none) 0 (.opq j0 1)) (wO 0 j0 lo hi) (.slice (some x) len cap) := by
      intro E hEl j0 hj hjl
      have hel : E.lst j0 = (zs.take len).map (Value.int .u8) := by rw [hEl]; exact hj
      have he : (E.lst j0).length = len := by rw [hel, List.length_map, hcl]
      have c := (Ctx.start w).opq (j := j0) (sz := cap) (d := x.off) (by omega) hh hrb hsz (by omega) (fun i hi => by
        rw [hall i (by omega), hel, List.getElem?_map]
        have hi2 : i < (zs.take len).length := by omega
        rw [List.getElem?_eq_getElem hi2]
        have hi3 : i < zs.length := by omega
        simp [List.getD_eq_getElem?_getD, hi3])
      refine ⟨c, ?_⟩
      intro lo hi q1 q2 q3 q4
      have := VR.opq (ρ := updR (fun _ => none) 0 (x.block, x.off, cap)) (L := upd (fun _ => none) 0 (.opq j0 1)) 0 j0 lo hi x.block x.off cap cap (updR_same _ _ _) hjl q1 q2 (by rw [he]; exact q3) (by rw [he]; exact q4) (by rw [he]; exact hle) (by omega) hc
      rw [he, ← hx] at this
      exact this
    by_cases hlong : 1048576 < len
    · obtain ⟨c, word⟩ := main E rfl 0 rfl (by omega)
      have hE : DrawE (zs.take len) 0 := codeEnv_ok (by omega) hcb (by omega) rfl
      exact run_true (orS_sound (drawS_sound K hE tabOk_nil) (hS0 _)) c (.cons _ _ _ _ (word 1048577 0 (by omega) (by omega) (by omega) (.inl rfl)) .nil) h2
    · obtain ⟨hi1, hi2⟩ := hix (zs.take len)
      have hE : DrawE (zs.take len) (ix (zs.take len)) := codeEnv_ok (by omega) hcb (by omega) hi1
      refine h1 (zs.take len) E (zs.take len) _ hE (by omega) tabOk_nil _ fun E' hl' hE' tab hT hr => ?_
      obtain ⟨c, word⟩ := main E' hl' _ hi1 hi2
      exact run_true (orS_sound (drawS_sound K hE' hT) (hS0 _)) c (.cons _ _ _ _ (word 1 1048576 (by omega) (by omega) (by omega) (.inr (by omega))) .nil) hr

theorem code_zero {P : Program} {S0 : Sums} (hS0 : Always P S0) {fo fp tS fuel d f : Nat} (K : DrawK P fo fp tS) {w : World} {x : Addr} (h : isTrue (zeroRun P S0 fo fp fuel d f) = true) :
    Calls P f #[.slice (some x) 0 0] w fun e w' => e = .returned (.bool true) ∧ Below w.heap.size w w' :=
  letI : Env := anyEnv
  run_true (orS_sound (draw_any K) (hS0 _)) (Ctx.start w) (.cons _ _ _ _ (.sl0 x) .nil) h

theorem code_nil {P : Program} {S0 : Sums} (hS0 : Always P S0) {fo fp tS fuel d f : Nat} (K : DrawK P fo fp tS) {w : World} (h : isTrue (nilRun P S0 fo fp fuel d f) = true) :
    Calls P f #[.slice none 0 0] w fun e w' => e = .returned (.bool true) ∧ Below w.heap.size w w' :=
  letI : Env := anyEnv
  run_true (orS_sound (draw_any K) (hS0 _)) (Ctx.start w) (.cons _ _ _ _ .sliceNil .nil) h

theorem wf_byte {n : Int} (h : (Lit.int .u8 n).wf = true) : 0 ≤ n ∧ n ≤ 255 := by
  have hmin : IntKind.u8.min = 0 := rfl
  have hmax : IntKind.u8.max = 255 := rfl
  simp only [Lit.wf, Bool.and_eq_true, decide_eq_true_eq] at h
  rw [hmin, hmax] at h
  exact h

/-- ██ The walk of a law on a code, out of its runs. -/
theorem code_walk {P : Program} {S0 : Sums} (hS0 : Always P S0) {fo fp tS fuel d f len cap : Nat} (K : DrawK P fo fp tS) {w : World} {a : Option Addr} {zs : List Int}
    (w0 : (a = none ∧ len = 0 ∧ cap = 0 ∧ zs = []) ∨ ∃ x, a = some x ∧ len ≤ cap ∧ cap ≤ maxLen ∧ zs.length = cap ∧ (∀ i, i < zs.length → w.cell? (x.add i) = some (.int .u8 (zs.getD i 0))) ∧ ∀ n ∈ zs, (Lit.int .u8 n).wf = true)
    (hn : isTrue (nilRun P S0 fo fp fuel d f) = true) (hz : isTrue (zeroRun P S0 fo fp fuel d f) = true) (h0 : isTrue (emptyRun P S0 fo fp fuel d f) = true) (h2 : isTrue (longRun P S0 fo fp fuel d f) = true)
    (h1 : Covers (codeRun P S0 fo fp fuel d f) []) :
    Calls P f #[.slice a len cap] w fun e w' => e = .returned (.bool true) ∧ Below w.heap.size w w' := by
  rcases w0 with ⟨rfl, rfl, rfl, rfl⟩ | ⟨x, rfl, hl, hm, hzl, hcell, hwz⟩
  · exact code_nil hS0 K hn
  · by_cases hc : cap = 0
    · subst hc
      obtain rfl : len = 0 := by omega
      exact code_zero hS0 K hz
    · unfold maxLen at hm
      exact code_true hS0 K ⟨hzl, hcell⟩ (by omega) hl (by omega) (fun z hz => wf_byte (hwz z hz)) (fun _ => 0) (fun _ => ⟨rfl, by omega⟩) h0 (fun _ => h1) h2

/-- ██ The same, where the law asks whether three divides the code's length: the runs for both. -/
theorem code_walk3 {P : Program} {S0 : Sums} (hS0 : Always P S0) {fo fp tS fuel d f len cap : Nat} (K : DrawK P fo fp tS) {w : World} {a : Option Addr} {zs : List Int}
    (w0 : (a = none ∧ len = 0 ∧ cap = 0 ∧ zs = []) ∨ ∃ x, a = some x ∧ len ≤ cap ∧ cap ≤ maxLen ∧ zs.length = cap ∧ (∀ i, i < zs.length → w.cell? (x.add i) = some (.int .u8 (zs.getD i 0))) ∧ ∀ n ∈ zs, (Lit.int .u8 n).wf = true)
    (hn : isTrue (nilRun P S0 fo fp fuel d f) = true) (hz : isTrue (zeroRun P S0 fo fp fuel d f) = true) (h0 : isTrue (emptyRun P S0 fo fp fuel d f) = true) (h2 : isTrue (longRun P S0 fo fp fuel d f) = true)
    (h1 : Covers (codeRunAt 1000 P S0 fo fp fuel d f) []) (h3 : Covers (codeRunAt 1001 P S0 fo fp fuel d f) []) :
    Calls P f #[.slice a len cap] w fun e w' => e = .returned (.bool true) ∧ Below w.heap.size w w' := by
  rcases w0 with ⟨rfl, rfl, rfl, rfl⟩ | ⟨x, rfl, hl, hm, hzl, hcell, hwz⟩
  · exact code_nil hS0 K hn
  · by_cases hc : cap = 0
    · subst hc
      obtain rfl : len = 0 := by omega
      exact code_zero hS0 K hz
    · unfold maxLen at hm
      refine code_true hS0 K ⟨hzl, hcell⟩ (by omega) hl (by omega) (fun z hz => wf_byte (hwz z hz)) threeIx (fun code => ⟨codeL_three code, ?_⟩) h0 (fun code => ?_) h2
      · unfold threeIx; split <;> omega
      · unfold threeIx; split
        · exact h1
        · exact h3
end Go.Eng
