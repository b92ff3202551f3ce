/- The operations on rows: an element's place, a slice of a slice, a store, rows made. -/
import Derived.Test.YthcdiaahpodkoabEngH
namespace Go.Eng
set_option linter.unusedSectionVars false
set_option linter.unusedSimpArgs false
set_option linter.unusedVariables false
open Go Go.RowKit
variable [E : Env]

theorem sInt_small {p : Nat} (h : p < 9223372036854775808) : sInt p = (p : Int) := by unfold sInt; rw [if_pos h]

section
variable {base : Nat} {H H' : Trie} {n n' nt T v : Nat} {ρ : Rho} {L : Look} {w : World} {P : Program} {tmps : Array Value} {o : Oper} {call : Nat → List Nat → Trie → Nat → OR} {cfr : Frame} {ccs : List Frame}

theorem isI_inv {x : Nat} {k : Nat → OR} {r : OR} (h : isI x k = r) (hr : ∀ q, r ≠ .bad q) : tagOf x = 1 ∧ k (payOf x) = r := by
  unfold isI at h
  rw [sel_beq] at h
  split at h
  · exact ⟨by assumption, h⟩
  · exact absurd h.symm (hr _)

theorem run_sizeOf {t : TypeId} {i : TypeInfo} (hi : P.info? t = some i) : (sizeOf t).run P w = .ok i.size w := by simp [sizeOf, typeInfo, hi]
theorem tsz_of {t : TypeId} {i : TypeInfo} (hi : P.info? t = some i) : tsz P t = i.size := by simp [tsz, hi]

theorem info_of_underlying {t : TypeId} {d : TypeDesc} (h : P.underlying t = some d) : ∃ i, P.info? t = some i := by
  unfold Program.underlying at h
  cases hi : P.info? t with
  | none => rw [hi] at h; cases h
  | some i => exact ⟨i, rfl⟩

theorem op_indexAddr (c : Ctx base H n ρ L w) (ht : TR ρ L nt T tmps) {t : TypeId} {x i : Operand} (ho : o.op = .indexAddr t x i) (h : opE P call T H n o.op = .ok v H' n'):
    CalmD ρ L H n w v H' n' (OpDone P tmps o w cfr ccs) := by
  rw [ho] at h
  simp only [opE_eq, opX] at h
  rw [sel_beq] at h
  split at h
  · rename_i h4
    obtain ⟨e, hu, ⟨j, hj⟩, h⟩ := telem_inv h rfl (by simp)
    obtain ⟨hi1, h⟩ := isI_inv h (by simp)
    rw [sel_ltb] at h
    split at h
    · rename_i hlt
      rw [sel_beq] at h
      split at h
      · cases h
      · rename_i hnz
        rw [sel_ltb] at h
        split at h
        · rename_i hsm
          injection h with h1 h2 h3
          subst h1; subst h2; subst h3
          obtain ⟨p, hp, hw, hpp, hv⟩ := (ev_sound ht i (by omega)).int_inv hi1
          rw [hpp] at hlt hsm ⊢
          rcases (ev_sound ht x (by omega)).slice_inv h4 with ⟨h5, _⟩ | ⟨b, es, off, m, k, rb, d, sz, cp, a, hb, he, hof, hm, hk, hmc, hbig, hk1, hcp, hwx, hvx⟩
          · rw [h5] at hnz; exact absurd rfl hnz
          · obtain ⟨_, q1, q2, q3, q4, q5⟩ := s_parts b es off m k he hof hm hk
            rw [hwx, q3] at hsm ⊢
            rw [hwx, q1] at hlt
            rw [q5, Nat.pred_succ]
            have hc0 : cp ≠ 0 := by omega
            obtain ⟨ha, _⟩ := hcp.resolve_left hc0
            rw [tsz_of hj] at hsm ⊢
            have hsI : sInt p = (p : Int) := sInt_small (by omega)
            refine .pure (x := .pointer (some ⟨rb, d + (off + p * j.size), none⟩)) c (.ptr b _ rb d sz hb hsm) (.value ?_)
            have key : (Instr.indexAt t (evT tmps x) (evT tmps i)).run P w = .ok (.pointer (some ⟨rb, d + (off + p * j.size), none⟩)) w := by
              rw [hv, hvx, hsI, ha]
              have had : (⟨rb, d + off, none⟩ : Addr).add (p * j.size) = ⟨rb, d + (off + p * j.size), none⟩ := by rw [addr_add]; simp [Nat.add_assoc]
              simp [Instr.indexAt, asIntOf, run_underlying hu, hlt, run_sizeOf hj, had]
            simp [execOp, ho, key]
        · cases h
    · cases h
  · have nb : tagOf (ev T x) ≠ 15 ∧ tagOf (ev T i) ≠ 15 := by
      unfold indexAddrA at h
      split at h
      · have h := sel_okX h
        rw [sel_beq] at h
        split at h
        · have h := sel_okX h
          unfold ptrAt at h
          rw [sel_beq] at h
          split at h
          · exact ⟨by omega, by omega⟩
          · cases h
        · cases h
      · cases h
    refine (indexAddrA_calm c (ev_sound ht x nb.1) (ev_sound ht i nb.2) h).mono fun r hr => .value ?_
    simp [execOp, ho, hr]

theorem optI_inv {q : Option Operand} {d : Nat} {k : Nat → OR} {r : OR} (h : optI q T d k = r) (hr : ∀ q, r ≠ .bad q) (ht : TR ρ L nt T tmps) :
    ∃ p, ((q = none ∧ p = d) ∨ ∃ x, q = some x ∧ p < 18446744073709551616 ∧ evT tmps x = .int .i64 (sInt p)) ∧ k p = r := by
  cases q with
  | none => exact ⟨d, .inl ⟨rfl, rfl⟩, h⟩
  | some x =>
    obtain ⟨h1, h2⟩ := isI_inv h hr
    obtain ⟨p, hp, _, hpp, hv⟩ := (ev_sound ht x (by omega)).int_inv h1
    rw [hpp] at h2
    exact ⟨p, .inr ⟨x, rfl, hp, hv⟩, h2⟩

theorem run_sliceBounds {lo hi mx : Option Value} {len cap l h m : Nat} (hm : (mx = none ∧ m = cap) ∨ (mx = some (.int .i64 (m : Int)) ∧ hi ≠ none)) (hh : (hi = none ∧ h = len) ∨ hi = some (.int .i64 (h : Int)))
    (hl : (lo = none ∧ l = 0) ∨ lo = some (.int .i64 (l : Int))) (h1 : m ≤ cap) (h2 : h ≤ m) (h3 : l ≤ h) : (Instr.sliceBounds true len cap lo hi mx).run P w = .ok (l, h, m) w := by
  have h4 : h ≤ cap := Nat.le_trans h2 h1
  rcases hm with ⟨rfl, rfl⟩ | ⟨rfl, hne⟩ <;> rcases hh with ⟨rfl, rfl⟩ | rfl <;> rcases hl with ⟨rfl, rfl⟩ | rfl <;>
    first
    | exact absurd rfl hne
    | simp [Instr.sliceBounds, Instr.sliceBound, asIntOf, h1, h2, h3, h4]

theorem op_slice (c : Ctx base H n ρ L w) (ht : TR ρ L nt T tmps) {t : TypeId} {x : Operand} {lo hi mx : Option Operand} (ho : o.op = .slice t x lo hi mx) (h : opE P call T H n o.op = .ok v H' n'):
    CalmD ρ L H n w v H' n' (OpDone P tmps o w cfr ccs) := by
  rw [ho] at h
  simp only [opE_eq, opX] at h
  rw [sel_beq] at h
  split at h
  · rename_i h3
    refine (sliceArr_calm c ht (ev_sound ht x (by omega)) h).mono fun r hr => .value ?_
    simp [execOp, ho, hr]
  simp only [sliceE] at h
  rw [sel_eq] at h
  by_cases hg : sel (Nat.beq (tagOf (ev T x)) 4) (mxOk mx hi) false = true
  · rw [if_pos hg] at h
    rw [sel_beq] at hg
    by_cases h4 : tagOf (ev T x) = 4
    · rw [if_pos h4] at hg
      obtain ⟨e, hu, ⟨j, hj⟩, h⟩ := telem_inv h rfl (by simp)
      rw [tsz_of hj] at h
      -- the room
      have hx := ev_sound ht x (by omega)
      -- the three numbers
      obtain ⟨m, hm, h⟩ := optI_inv h (by simp) ht
      obtain ⟨hh, hhh, h⟩ := optI_inv h (by simp) ht
      obtain ⟨l, hl, h⟩ := optI_inv h (by simp) ht
      rw [sel_ble] at h
      split at h
      · rename_i hmr
        rw [sel_ble] at h
        split at h
        · rename_i hhm
          rw [sel_ble] at h
          split at h
          · rename_i hlh
            -- what the model does, once its capacity and the room are told
            have model : ∀ (a : Option Addr) (len cap mr : Nat), evT tmps x = .slice a len cap → sLen (payOf (ev T x)) = len → (mx = none → mr = cap) → (∀ y, mx = some y → mr = m) → m ≤ mr → mr ≤ cap → cap < 9223372036854775808 →
                (execOp (evT tmps) o).run P w = .ok (.value (.slice (if mr = l then a else a.map (·.add (l * j.size))) (hh - l) (mr - l))) w := by
              intro a len cap mr hv hlen hmn hms hle hcap hbig
              have b1 : (Instr.sliceBounds true len cap (lo.map (evT tmps)) (hi.map (evT tmps)) (mx.map (evT tmps))).run P w = .ok (l, hh, mr) w := by
                refine run_sliceBounds ?_ ?_ ?_ hcap (by omega) hlh
                · rcases hm with ⟨rfl, _⟩ | ⟨y, rfl, _, hy⟩
                  · exact .inl ⟨rfl, hmn rfl⟩
                  · have := hms y rfl
                    subst this
                    refine .inr ⟨by simp [hy, sInt_small (show mr < 9223372036854775808 by omega)], ?_⟩
                    cases hi with
                    | none => cases hg
                    | some _ => simp
                · rcases hhh with ⟨rfl, rfl⟩ | ⟨y, rfl, _, hy⟩
                  · exact .inl ⟨rfl, hlen⟩
                  · exact .inr (by simp [hy, sInt_small (show hh < 9223372036854775808 by omega)])
                · rcases hl with ⟨rfl, rfl⟩ | ⟨y, rfl, _, hy⟩
                  · exact .inl ⟨rfl, rfl⟩
                  · exact .inr (by simp [hy, sInt_small (show l < 9223372036854775808 by omega)])
              simp [execOp, ho, Instr.sliceAt, Instr.slice, run_underlying hu, hv, b1, run_sizeOf hj]
            rcases hx.slice_inv h4 with ⟨h5, h6⟩ | ⟨b, es, off, len, k, rb, d, sz, cp, a, hb, he, hof, hm', hk, hmc, hbig, hk1, hcp, hwx, hvx⟩
            · obtain ⟨_, q1, q2, q3, q4, q5⟩ := s_nil
              rw [h5, q5, sel_beq, if_pos rfl] at h
              injection h with h1 h2 h3
              subst h1; subst h2; subst h3
              have hroom : m = 0 := by rw [h5, q2, q1] at hmr; simpa [sel_beq] using hmr
              have hh0 : hh = 0 := by omega
              have hl0 : l = 0 := by omega
              have := model none 0 0 0 h6 (by rw [h5]; exact q1) (fun _ => rfl) (fun _ _ => hroom.symm) (by omega) (by omega) (by omega)
              refine .pure c .sliceNil (.value ?_)
              rw [this, hh0, hl0]; simp
            · obtain ⟨_, q1, q2, q3, q4, q5⟩ := s_parts b es off len k he hof hm' hk
              have q5' : sBlk (payOf (ev T x)) ≠ 0 := by rw [hwx, q5]; omega
              rw [sel_beq, if_neg q5'] at h
              rw [sel_eq] at h
              split at h
              · rename_i hsel
                rw [sel_beq] at hsel
                split at hsel
                · rename_i hes
                  · rw [sel_ltb] at hsel
                    have hmsm0 : m.succ < small := by
                      split at hsel
                      · assumption
                      · cases hsel
                    rw [if_pos hmsm0] at hsel
                    have hmsm : m + 1 < 1048576 := hmsm0
                    have hsm := (ltb_iff _ _).1 hsel
                    injection h with h1 h2 h3
                    subst h2; subst h3
                    rw [hwx, q4] at hes
                    rw [hwx, q3] at hsm
                    -- the room
                    have hroomc : m ≤ cp := by
                      rw [hwx, q2, q1, sel_beq] at hmr
                      split at hmr
                      · omega
                      · rcases hk1 with h0 | h0
                        · contradiction
                        · rw [h0, Nat.pred_succ] at hmr; exact hmr
                    have hroomb : m < 1048576 := by
                      rw [hwx, q2, q1, sel_beq] at hmr
                      split at hmr
                      · omega
                      · have : k.pred ≤ k := Nat.pred_le k
                        omega
                    · -- the real capacity behind
                      cases mx with
                      | none =>
                        have hms := model (some a) len cp cp hvx (by rw [hwx]; exact q1) (fun _ => rfl) (fun y hy => by cases hy) hroomc (Nat.le_refl _) hbig
                        refine .pure (x := .slice (if cp = l then some a else (some a).map (·.add (l * j.size))) (hh - l) (cp - l)) c ?_ (.value hms)
                        rw [← h1, hwx, q3, q4, q5, q2]
                        rw [show Nat.pred (b + 1) = b from rfl]
                        have ha2 : ∃ a', (if cp = l then some a else (some a).map (·.add (l * j.size))) = some a' ∧ (cp - l = 0 ∨ (a' = ⟨rb, d + (off + l * j.size), none⟩ ∧ (off + l * j.size) + (cp - l) * es ≤ sz)) := by
                          by_cases hcl : cp = l
                          · exact ⟨a, by rw [if_pos hcl], .inl (by omega)⟩
                          · refine ⟨a.add (l * j.size), by rw [if_neg hcl]; rfl, .inr ?_⟩
                            obtain ⟨r1, r2⟩ := hcp.resolve_left (by omega)
                            refine ⟨by rw [r1, addr_add, Nat.add_assoc], ?_⟩
                            rw [← hes, Nat.add_assoc, ← Nat.add_mul, show l + (cp - l) = cp from by omega]; exact r2
                        obtain ⟨a', e1, e2⟩ := ha2
                        rw [e1]
                        refine .slice b es _ (hh - l) _ rb d sz (cp - l) a' hb he hsm (by omega) ?_ (by omega) (by omega) ?_ e2
                        · show sel (Nat.beq k 0) 0 (k - l) < _
                          rw [sel_beq]; split <;> omega
                        · show sel (Nat.beq k 0) 0 (k - l) = 0 ∨ sel (Nat.beq k 0) 0 (k - l) = _
                          rw [sel_beq]; split
                          · exact .inl rfl
                          · right; omega
                      | some y =>
                        have hms := model (some a) len cp m hvx (by rw [hwx]; exact q1) (fun hh => by cases hh) (fun _ _ => rfl) (Nat.le_refl _) hroomc hbig
                        refine .pure (x := .slice (if m = l then some a else (some a).map (·.add (l * j.size))) (hh - l) (m - l)) c ?_ (.value hms)
                        rw [← h1, hwx, q3, q4, q5]
                        rw [show Nat.pred (b + 1) = b from rfl]
                        have ha2 : ∃ a', (if m = l then some a else (some a).map (·.add (l * j.size))) = some a' ∧ (m - l = 0 ∨ (a' = ⟨rb, d + (off + l * j.size), none⟩ ∧ (off + l * j.size) + (m - l) * es ≤ sz)) := by
                          by_cases hcl : m = l
                          · exact ⟨a, by rw [if_pos hcl], .inl (by omega)⟩
                          · refine ⟨a.add (l * j.size), by rw [if_neg hcl]; rfl, .inr ?_⟩
                            obtain ⟨r1, r2⟩ := hcp.resolve_left (by omega)
                            refine ⟨by rw [r1, addr_add, Nat.add_assoc], ?_⟩
                            rw [← hes, Nat.add_assoc, ← Nat.add_mul, show l + (m - l) = m from by omega]
                            have : m * es ≤ cp * es := Nat.mul_le_mul_right _ hroomc
                            omega
                        obtain ⟨a', e1, e2⟩ := ha2
                        rw [e1]
                        exact .slice b es _ (hh - l) (m - l + 1) rb d sz (m - l) a' hb he hsm (by omega) (by omega) (by omega) (by omega) (.inr rfl) e2
                · cases hsel
              · cases h
          · cases h
        · cases h
      · cases h
    · rw [if_neg h4] at hg; cases hg
  · rw [if_neg hg] at h; cases h
end
end Go.Eng
