/- Laws on a code that draw sums: runs with facts; a divisor in common with 1. -/
import Derived.Test.YtliimffphokmpaaEngXi
import Derived.Test.YtliimffphokmpaaEngXh
namespace Go.Eng
set_option linter.unusedSectionVars false
set_option linter.unusedSimpArgs false
set_option linter.unusedVariables false
open Go Go.RowKit

/-- ██ The walk of a law on a code, out of what is drawn and its runs with facts. -/
theorem drawn_walkFX {P : Program} {S0 : Sums} {S1 : Nat → Tab → Sums} (hS0 : Always P S0) (hS1 : ∀ (E : Env) (code : List Int) (j0 : Nat) (tab : Tab), @DrawE E code j0 → @TabOk E tab → @SumS E P (S1 j0 tab)) {fo fp tS fuel d f fd fuel1 d1 len cap : Nat} {one : Bool} (K : DrawK P fo fp tS) {w : World} {a : Option Addr} {zs : List Int}
    (w0 : (a = none ∧ len = 0 ∧ cap = 0 ∧ zs = []) ∨ ∃ x, a = some x ∧ len ≤ cap ∧ cap ≤ maxLen ∧ zs.length = cap ∧ (∀ i, i < zs.length → w.cell? (x.add i) = some (.int .u8 (zs.getD i 0))) ∧ ∀ n ∈ zs, (Lit.int .u8 n).wf = true)
    (hn : isTrue (nilRun P S0 fo fp fuel d f) = true) (hz : isTrue (zeroRun P S0 fo fp fuel d f) = true) (h0 : isTrue (emptyRun P S0 fo fp fuel d f) = true) (h2 : isTrue (longRun P S0 fo fp fuel d f) = true)
    (h1 : CoversG (DrawnF P S0 fd one 0 fuel d f) (fun tab => dRun P (S1 0 tab) fo fp fuel1 d1 fd 0 tab) []) :
    Calls P f #[.slice a len cap] w fun e w' => e = .returned (.bool true) ∧ Below w.heap.size w w' := by
  rcases w0 with ⟨rfl, rfl, rfl, rfl⟩ | ⟨x, rfl, hl, hm, hzl, hcell, hwz⟩
  · exact code_nil hS0 K hn
  by_cases hc0 : cap = 0
  · subst hc0
    obtain rfl : len = 0 := by omega
    exact code_zero hS0 K hz
  unfold maxLen at hm
  have hrow : RowOf .u8 w x cap zs := ⟨hzl, hcell⟩
  have hb : ∀ z ∈ zs, 0 ≤ z ∧ z ≤ 255 := fun z hz => wf_byte (hwz z hz)
  obtain ⟨hsp, cs, ty, fz, hh, hsz, hall⟩ := hrow.block (by omega)
  have hx : x = ⟨x.block, x.off, none⟩ := by
    cases x with
    | mk b o s => simp at hsp ⊢; exact hsp
  have hrb : x.block < w.heap.size := (Array.getElem?_eq_some_iff.1 hh).1
  by_cases hl0 : len = 0
  · subst hl0
    letI : Env := anyEnv
    have c := (Ctx.start w).arg (nb := 0) (ch := 0) (sz := cap) (d := x.off) (by omega) hh hrb hsz (by omega) (by intro i hi; omega)
    refine run_true (orS_sound (draw_any K) (hS0 _)) c (.cons _ _ _ _ ?_ .nil) h0
    exact .slice 0 1 0 0 0 x.block x.off cap cap x (updR_same _ _ _) (by omega) (by omega) (by omega) (by omega) (by omega) (by omega) (.inl rfl) (.inr ⟨hx, by omega⟩)
  · have hcl : (zs.take len).length = len := by simp; omega
    have hcb : ∀ z ∈ zs.take len, 0 ≤ z ∧ z ≤ 255 := fun z hz => hb z (List.mem_of_mem_take hz)
    by_cases hlong : 1048576 < len
    · letI E : Env := codeEnv (zs.take len) (by omega)
      have hE : DrawE (zs.take len) 0 := codeEnv_ok (by omega) hcb (by omega) rfl
      have he : (E.lst 0).length = len := by rw [hE.l0, List.length_map, hcl]
      have c := (Ctx.start w).opq (j := 0) (sz := cap) (d := x.off) (by omega) hh hrb hsz (by omega) (fun i hi => by
        rw [hall i (by omega), hE.l0, List.getElem?_map]
        have hi2 : i < (zs.take len).length := by omega
        rw [List.getElem?_eq_getElem hi2]
        have hi3 : i < zs.length := by omega
        simp [List.getD_eq_getElem?_getD, hi3])
      refine run_true (orS_sound (drawS_sound K hE tabOk_nil) (hS0 _)) c (.cons _ _ _ _ ?_ .nil) h2
      have := VR.opq (ρ := updR (fun _ => none) 0 (x.block, x.off, cap)) (L := upd (fun _ => none) 0 (.opq 0 1)) 0 0 1048577 0 x.block x.off cap cap (updR_same _ _ _) (by omega) (by omega) (by omega) (by rw [he]; omega) (.inl rfl) (by rw [he]; exact hl) (by omega) (by omega)
      rw [he, ← hx] at this
      exact this
    · have hE : @DrawE (codeEnv (zs.take len) (by omega)) (zs.take len) 0 := codeEnv_ok (by omega) hcb (by omega) rfl
      refine h1 (codeEnv (zs.take len) (by omega)) (zs.take len) _ hE (by omega) (@tabOk_nil (codeEnv (zs.take len) (by omega))) _ fun E' hl' hE' tab hT ⟨l, hg, hd⟩ => ?_
      obtain ⟨y, hy, KD⟩ := drawn_of (hS1 E' _ _ _ hE' hT) K (by omega) hE' hT hd
      obtain ⟨l', ⟨t, ht⟩, KD'⟩ := hg.fin KD
      letI E2 : Env := pvEnv E' y hy
      obtain ⟨fs, hfs, hrun⟩ := FT.sound E2 t [] ht (fun f h => by cases h)
      obtain ⟨hlen, hrun⟩ := sel_and hrun
      have hlen := (ltb_iff _ _).1 hlen
      obtain ⟨L0, c0, _⟩ := put_fe fs 0 .nil _ _ w.heap.size w (Ctx.start w) (by omega) hfs
      rw [Nat.zero_add] at c0
      obtain ⟨ρ, L, c1, hv⟩ := put_code (j0 := 0) c0 (by omega) hx hh hrb hsz hall hzl hl (by omega) (@DrawE.l0 E' _ _ hE') (by omega) (by omega) (by omega)
      exact run_true (orS_sound (drewS_sound KD') (hS0 _)) c1 (.cons _ _ _ _ hv .nil) hrun

structure GcdK (P : Program) (fG : Nat) : Prop where
  known : Known P fG
  gcd : ∀ (w : World) (z : Int), -9223372036854775808 ≤ z → z < 9223372036854775808 →
    Calls P fG #[.int .i64 z, .int .i64 1] w fun e w' => e = .returned (.int .i64 1) ∧ Below w.heap.size w w'
/-- the greatest divisor that a number that is not known has in common with 1 -/
noncomputable def gcdS (fG : Nat) : Sums := fun f args H n => sel (Nat.beq f fG) (match args with | [x, y] => gd (Nat.beq y 17) (gd (isP x) (.yes (.ok 17 H n))) | _ => .no) .no
theorem gcdS_always {P : Program} {fG : Nat} (K : GcdK P fG) : Always P (gcdS fG) := by
  intro E base H n ρ L w f args vs v H' n' cs c ha h
  letI := E
  unfold gcdS at h
  rw [sel_beq] at h
  generalize hvs : vs.toList = l at ha
  split at h
  · rename_i hf
    subst hf
    split at h
    · rename_i x y
      rcases ha with _ | ⟨_, v1, _, vs1, hr1, ha1⟩
      rcases ha1 with _ | ⟨_, v2, _, vs2, hr2, ha2⟩
      cases ha2
      have hvv : vs = #[v1, v2] := by cases vs; simp_all
      subst hvv
      obtain ⟨g1, h2⟩ := gd_inv h
      obtain ⟨g2, h3⟩ := gd_inv h2
      clear h h2
      have g1 := Nat.eq_of_beq_eq_true g1
      subst g1
      injection h3 with h4
      injection h4 with e1 e2 e3
      subst e1; subst e2; subst e3
      obtain ⟨a, ha, _, hpa, hv2⟩ := hr2.int_inv (by rfl)
      have ha1 : a = 1 := by
        have : payOf 17 = a := hpa
        rw [← this]; rfl
      subst ha1
      obtain ⟨z, rfl, hz⟩ := num_cell c hr1 (by rw [g2]; cases Nat.beq (tagOf x) 1 <;> rfl)
      have hz : -9223372036854775808 ≤ z ∧ z < 9223372036854775808 := by
        have e1 : IntKind.i64.min = -9223372036854775808 := by decide
        have e2 : IntKind.i64.max = 9223372036854775807 := by decide
        simp only [Lit.wf, e1, e2] at hz
        simp at hz
        omega
      rw [hv2]
      obtain ⟨e, W, ⟨he, hW⟩, hcall⟩ := calls_at (K.gcd w z hz.1 hz.2) cs
      subst he
      exact ⟨ρ, L, W, .int .i64 1, c.later hW, .refl _ _, hW.mono c.sim.bs, .refl _ _ _ _, Nat.le_refl _, VR.int 1 (by decide), K.known, hcall⟩
    · cases h
  · cases h
end Go.Eng
