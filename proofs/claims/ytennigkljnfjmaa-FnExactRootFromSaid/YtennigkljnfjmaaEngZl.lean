/- Laws on short lists whose last number is parted. -/
import Derived.Test.YtennigkljnfjmaaEngZk
namespace Go.Eng
set_option linter.unusedSectionVars false
set_option linter.unusedSimpArgs false
set_option linter.unusedVariables false
open Go Go.RowKit

noncomputable section
/-- a row of n numbers from -m to m, the last one between two bounds -/
def lastB (m n : Nat) (q : Nat × Nat) : List (Nat × Nat) := repB (bM m) (Nat.pred n) ++ [q]
def shRunB (P : Program) (S0 : Sums) (F : Fns) (fN m x fuel d f n : Nat) (q : Nat × Nat) (fs : List FE) : Bool :=
  sel (ltb fs.length 16000) (isTrue (lrunN P S0 F fN x fuel d f [wS fs.length 1 0 n 0] (hset (feH fs 0 .nil) fs.length (.cells n (listW (rowW (lastB m n q) 0)) 0 0 0 0)) (Nat.succ fs.length))) false
def isOkC (c : LC) : Bool := LC.rec (motive := fun _ => Bool) false false false (fun _ => true) (fun _ _ _ => false) false false c
end
theorem lastB_len {m n : Nat} {q : Nat × Nat} (hn : 1 ≤ n) : (lastB m n q).length = n := by
  unfold lastB
  rw [List.length_append, repB_len]
  have e : Nat.pred n = n - 1 := rfl
  simp
  omega
/-- ██ The walk of a law on a short list, out of its runs, those on lists that are in range parted by their last number. -/
theorem back_walk {P : Program} {S0 : Sums} (hS0 : Always P S0) {F : Fns} {tInt fN m x fuel dd f : Nat} (hm : m < 100000000000) (hx : x < 100) {ps : List (Nat × Nat)} (hc : covB (549755813888 + m) ps (549755813888 - m) = true) (K : ListK P F.to F.eq F.mark F.inn F.of tInt) (KN : NoK P fN x) {w : World}
    {a : Option Addr} {len cap : Nat} {zs : List Int} (w0 : IntRow w a len cap zs) (h1 : ∀ c ∈ lcs x, isOkC c = true ∨ FtOk (shRun P S0 F fN m x fuel dd f c)) (h2 : ∀ n, 1 ≤ n → n ≤ x → ∀ q ∈ ps, FtOk (shRunB P S0 F fN m x fuel dd f n q)) :
    Calls P f #[.slice a len cap] w fun e w' => e = .returned (.bool true) ∧ Below w.heap.size w w' := by
  have hr := w0.ra
  obtain ⟨w1, w2, w3⟩ := hr.wf
  obtain ⟨c, hcm, hf⟩ := LC.of m x hr
  obtain ⟨hz, hE⟩ := oneL_listE (l := zs.take len) ⟨w1, w2⟩ (A := fun _ => 0) (C := fun i => nth (zs.take len) i) (hA := fun _ => rng0) (hC := fun i => wf_of_nth w1 i)
  letI E : Env := sEnv (fun _ => 0) (fun i => nth (zs.take len) i) (fun _ => zero0) (oneL (zs.take len)) (fun _ => rng0) (fun i => wf_of_nth w1 i) (fun _ => zero0_size) (fun _ _ => txt0_ok) hz
  rcases h1 c hcm with hok | ⟨t, ht⟩
  · cases c with
    | ok n =>
      obtain ⟨g1, g2, g3, g4⟩ := hf
      have hl := g4 (n - 1) (by omega)
      obtain ⟨q, hq, q1, q2, q3, q4⟩ := covB_of hc (nth (zs.take len) (n - 1) + 549755813888).toNat (by omega) (by omega)
      obtain ⟨t, ht⟩ := h2 n g2 g3 q hq
      obtain ⟨fs, hfs, hrun⟩ := FT.sound E t [] ht (fun f h => by cases h)
      obtain ⟨hlen, hrun⟩ := sel_andN hrun
      have hlen := (ltb_iff _ _).1 hlen
      obtain ⟨L0, c0, _⟩ := put_fe fs 0 .nil _ _ w.heap.size w (Ctx.start w) (by omega) hfs
      rw [Nat.zero_add] at c0
      have hne : zs.take len ≠ [] := fun h => by rw [h] at g1; simp at g1; omega
      have hrh : RowH w a len cap (zs.take len) := hr.resolve_right (fun ⟨_, _, h2, _⟩ => hne h2)
      have hbl := lastB_len (m := m) (q := q) g2
      obtain ⟨ρ, L, c1, _, hv⟩ := put_row (o := 0) (bs := lastB m n q) c0 (by omega) hrh (by omega) (by omega) (by omega) (by rw [hbl]; exact g1.symm)
        (fun b hb => by
          unfold lastB at hb
          rcases List.mem_append.1 hb with hb | hb
          · rw [repB_mem hb]; exact (bM_fits hm (z := 0) ⟨by omega, by omega⟩).2
          · simp at hb; subst hb; exact ⟨by omega, by omega⟩)
        (fun i hi => by
          rw [hbl] at hi
          have e : lastB m n q = repB (bM m) (Nat.pred n) ++ [q] := rfl
          have ep : Nat.pred n = n - 1 := rfl
          rw [e, List.getD_eq_getElem?_getD, List.getElem?_append, repB_len, ep]
          by_cases hin : i < n - 1
          · rw [if_pos hin, ← List.getD_eq_getElem?_getD, ← ep, repB_get _ _ _ (by rw [ep]; exact hin)]
            exact (bM_fits hm (g4 i (by omega))).1
          · have hie : i = n - 1 := by omega
            subst hie
            rw [if_neg hin, Nat.sub_self, List.getElem?_cons_zero]
            exact ⟨.inr (by show (q.1 : Int) - 549755813888 ≤ _; omega), .inr (by show _ ≤ (q.2 : Int) - 549755813888; omega)⟩)
        (fun i _ => (sEnv_pv _).trans (by rw [Nat.zero_add])) (by omega)
      rw [hbl] at c1 hv
      exact run_true (orS_sound (orS_sound (listS_sound K hE) (noS_sound KN hE)) (hS0 _)) c1 (.cons _ _ _ _ hv .nil) hrun
    | _ => cases hok
  · obtain ⟨fs, hfs, hrun⟩ := FT.sound E t [] ht (fun f h => by cases h)
    obtain ⟨hlen, hrun⟩ := sel_andN hrun
    have hlen := (ltb_iff _ _).1 hlen
    obtain ⟨L0, c0, _⟩ := put_fe fs 0 .nil _ _ w.heap.size w (Ctx.start w) (by omega) hfs
    rw [Nat.zero_add] at c0
    obtain ⟨ρ, L, c1, _, hv⟩ := LC.put (j := 16) (o := 0) c0 (by omega) hm hx (by omega) (by omega) hr hf ((sEnv_lst (by omega)).trans (by unfold oneL; rw [if_neg (by omega)])) (fun i _ _ => (sEnv_pv _).trans (by rw [Nat.zero_add]))
    exact run_true (orS_sound (orS_sound (listS_sound K hE) (noS_sound KN hE)) (hS0 _)) c1 (.cons _ _ _ _ hv .nil) hrun
end Go.Eng
