/- append. -/
import Derived.Test.YthcdiaahpodkoabEngJ
namespace Go.Eng
set_option linter.unusedSectionVars false
set_option linter.unusedSimpArgs false
set_option linter.unusedVariables false
open Go Go.RowKit
variable [E : Env]

section
variable {P : Program} {w : World}

/-- What is appended: m elements with the cells 'news'. -/
def SrcOk (P : Program) (tx : TypeId) (i : TypeInfo) (z : Value) (w : World) (xv : Value) (m : Nat) (news : List Value) : Prop :=
  ((∃ e', P.underlying tx = some (.slice e')) ∧ (Builtin.lenOf xv).run P w = .ok m w ∧ news.length = m * i.size ∧ ∀ w2 : World, w2.heap = w.heap → (Builtin.firstCells i.size m xv).run P w2 = .ok news.toArray w2) ∨
  ((∃ k, P.underlying tx = some (.int k)) ∧ xv = .int .i64 (m : Int) ∧ i.size = 1 ∧ m < 1048576 ∧ i.bytes ≤ 1024 ∧ z.cells = #[z] ∧ news = List.replicate m z)

theorem zeroCells_one (z : Value) (m : Nat) : Builtin.zeroCells #[z] m = (List.replicate m z).toArray := by
  unfold Builtin.zeroCells
  have := range_map_one z m
  simp only [List.size_toArray, List.length_cons, List.length_nil, Nat.zero_add, Nat.mul_one] at this ⊢
  rw [this]; simp

theorem wrap_nat (m : Nat) (h : m < 1048576) : IntKind.i64.wrap (m : Int) = (m : Int) := by rw [wrap_sInt, uInt_nat, sInt_small (by omega)]; omega

theorem run_app_nil {t tx ty e : TypeId} {i : TypeInfo} {z : Value} (ht : P.underlying t = some (.slice e)) (hi : P.info? e = some i) (hz : i.zero = some z) {xv : Value} {m : Nat} {news : List Value}
    (hs : SrcOk P tx i z w xv m news) (h0 : 0 < m) (h63 : m < 1048576) (hb0 : 0 < i.bytes) (hb : i.bytes ≤ 1024) :
    (Builtin.append_ #[t, tx] ty #[.slice none 0 0, xv]).run P w =
      .ok (.slice (some ⟨w.heap.size, 0, none⟩) m (grownCap w m 0 e)) (w.drew.alloc (.cells (news.toArray ++ Builtin.zeroCells z.cells (grownCap w m 0 e - m)) e)) := by
  have hn : m ≠ 0 := by omega
  have h63' : ¬ (9223372036854775807 < (m : Int)) := by omega
  have hmb : m * i.bytes ≤ 1048576 * 1024 := Nat.mul_le_mul (by omega) hb
  have h48' : ¬ (281474976710656 < Builtin.nextslicecap m 0 * i.bytes) := by rw [nextslicecap_zero h0]; omega
  rcases hs with ⟨⟨e', hx⟩, hl, _, hf⟩ | ⟨⟨k, hx⟩, rfl, hsz, _, _, hzc, rfl⟩
  · have hf1 := hf w.drew rfl
    simp [Builtin.append_, run_underlying ht, run_underlying hx, sizeOf, typeInfo, zeroValue, hi, hz, hl, hn, h63', h48', Question.forced, hf1, newRow, grownCap, run_firstCells_none]
  · have hm0 : ¬ ((m : Int) < 0) := by omega
    have hm48 : ¬ (281474976710656 < (m : Int) * (i.bytes : Int)) := by rw [← Int.natCast_mul]; omega
    have hb0' : i.bytes ≠ 0 := by omega
    simp [Builtin.append_, run_underlying ht, run_underlying hx, sizeOf, typeInfo, zeroValue, hi, hz, asInt, asIntOf, wrap_nat m h63, hm0, hm48, hn, hsz, h63', h48', hb0', Question.forced, newRow, grownCap, run_firstCells_none, hzc, zeroCells_one]

theorem run_app_grow {t tx ty e : TypeId} {i : TypeInfo} {z : Value} (ht : P.underlying t = some (.slice e)) (hi : P.info? e = some i) (hz : i.zero = some z) {xv : Value} {m : Nat} {news : List Value}
    (hs : SrcOk P tx i z w xv m news) {b : Addr} {sLen sCap : Nat} {olds : List Value} (hlo : olds.length = sLen * i.size) (holds : ∀ j v, olds[j]? = some v → w.cell? (b.add j) = some v)
    (h0 : 0 < m) (hg : sCap < sLen + m) (h63 : sLen + m < 1048576) (hb0 : 0 < i.bytes) (hb : i.bytes ≤ 1024) :
    (Builtin.append_ #[t, tx] ty #[.slice (some b) sLen sCap, xv]).run P w =
      .ok (.slice (some ⟨w.heap.size, 0, none⟩) (sLen + m) (grownCap w (sLen + m) sCap e))
        (w.drew.alloc (.cells (olds.toArray ++ (news.toArray ++ Builtin.zeroCells z.cells (grownCap w (sLen + m) sCap e - (sLen + m)))) e)) := by
  have hn : ¬ (sLen + m ≤ sCap) := by omega
  have h63' : ¬ (9223372036854775807 < ((sLen : Int) + (m : Int))) := by omega
  have hmb : (sLen + m) * i.bytes ≤ 1048576 * 1024 := Nat.mul_le_mul (by omega) hb
  have h48' : ¬ (281474976710656 < Builtin.nextslicecap (sLen + m) sCap * i.bytes) := by
    have := growslice_fits hg (show (sLen + m) * i.bytes ≤ 140737488355328 by omega); omega
  have hfo := run_firstCells_some (P := P) w.drew i.size sLen b sLen sCap olds hlo (by simpa using holds)
  rcases hs with ⟨⟨e', hx⟩, hl, _, hf⟩ | ⟨⟨k, hx⟩, rfl, hsz, _, _, hzc, rfl⟩
  · have hf1 := hf w.drew rfl
    simp [Builtin.append_, run_underlying ht, run_underlying hx, sizeOf, typeInfo, zeroValue, hi, hz, hl, hn, h63', h48', Question.forced, hf1, hfo, newRow, grownCap]
  · have hm0 : ¬ ((m : Int) < 0) := by omega
    have hmb2 : m * i.bytes ≤ 1048576 * 1024 := Nat.mul_le_mul (by omega) hb
    have hm48 : ¬ (281474976710656 < (m : Int) * (i.bytes : Int)) := by rw [← Int.natCast_mul]; omega
    have hb0' : i.bytes ≠ 0 := by omega
    rw [hsz] at hfo
    have hmz : m ≠ 0 := by omega
    simp [Builtin.append_, run_underlying ht, run_underlying hx, sizeOf, typeInfo, zeroValue, hi, hz, asInt, asIntOf, wrap_nat m (by omega), hm0, hm48, hn, hsz, h63', h48', hb0', hmz, Question.forced, newRow, grownCap, hfo, hzc, zeroCells_one]

theorem run_app_room {t tx ty e : TypeId} {i : TypeInfo} {z : Value} (ht : P.underlying t = some (.slice e)) (hi : P.info? e = some i) (hz : i.zero = some z) {xv : Value} {m : Nat} {news : List Value}
    (hs : SrcOk P tx i z w xv m news) {g off sLen sCap : Nat} {ety : TypeId} {cur : Array Value} (hg : w.heap[g]? = some (.cells cur ety (0, 0))) (h1 : ∀ u ∈ news, u.oneCell' = true)
    (h0 : 0 < m) (hroom : sLen + m ≤ sCap) (hfit : off + sLen * i.size + news.length ≤ cur.size) (hm : m < 1048576) (hb : i.bytes ≤ 1024) :
    (Builtin.append_ #[t, tx] ty #[.slice (some ⟨g, off, none⟩) sLen sCap, xv]).run P w =
      .ok (.slice (some ⟨g, off, none⟩) (sLen + m) sCap) (w.setRow g (cur.toList.take (off + sLen * i.size) ++ news ++ cur.toList.drop (off + sLen * i.size + news.length)).toArray) := by
  have hst := run_storeCells_at P g (off + sLen * i.size) ety news 0 cur w hg (by simpa using hfit) h1
  simp only [Nat.add_zero] at hst
  have hadd : (⟨g, off, none⟩ : Addr).add (sLen * i.size) = ⟨g, off + sLen * i.size, none⟩ := addr_add _ _ _
  rcases hs with ⟨⟨e', hx⟩, hl, _, hf⟩ | ⟨⟨k, hx⟩, rfl, hsz, _, _, hzc, rfl⟩
  · have hf1 := hf w rfl
    simp [Builtin.append_, run_underlying ht, run_underlying hx, sizeOf, typeInfo, hi, hl, hroom, hf1, hadd, hst]
  · have hm0 : ¬ ((m : Int) < 0) := by omega
    have hmb2 : m * i.bytes ≤ 1048576 * 1024 := Nat.mul_le_mul (by omega) hb
    have hm48 : ¬ (281474976710656 < (m : Int) * (i.bytes : Int)) := by rw [← Int.natCast_mul]; omega
    rw [hsz, Nat.mul_one] at hst hadd
    have hmz : m ≠ 0 := by omega
    simp [Builtin.append_, run_underlying ht, run_underlying hx, sizeOf, typeInfo, zeroValue, hi, hz, asInt, asIntOf, wrap_nat m hm, hm0, hm48, hsz, hmz, hzc, zeroCells_one, hadd, hst, hroom]
end
end Go.Eng
