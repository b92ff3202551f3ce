/- What a seat's program says of the two functions by which a code is read. -/
import Derived.Test.YtadmpiidofncpaaEngX
import Derived.Test.YtadmpiidofncpaaProg
import Derived.WalkKit
import Derived.ProofKit
import Derived.OpenShut
import Derived.Below
import Derived.BigQuiet
import Derived.Deep.QuietTactic
import Derived.IntWalk
namespace Go.Proofs.Ytadmpiidofncpaa.draw
open Go.ChangeShapes Go.WideShapes Go.ChangeAt Go.RowKit Go.Eng
set_option linter.unusedVariables false
set_option linter.unusedSimpArgs false
theorem pick_in (w : World) (rb d cb cd len cap p n : Nat) (x : Int) (hn : 1 ≤ n) (hn2 : n ≤ 1000) (hp : p < 1000000) (hl : p < len) (hlen : len ≤ 2000)
    (h0 : w.cell? ⟨rb, d, none⟩ = some (.slice (some ⟨cb, cd, none⟩) len cap)) (h1 : w.cell? ⟨rb, d + 1, none⟩ = some (.int .i64 p)) (hcb : cb ≠ rb)
    (hf : w.frozen? ⟨rb, d + 1, none⟩ = false) (hc : w.cell? ⟨cb, cd + p, none⟩ = some (.int .u8 x)) (hx : 0 ≤ x) (hx2 : x ≤ 255) :
    Calls Try.prog 63 #[.pointer (some ⟨rb, d, none⟩), .int .i64 n] w fun e w' => e = .returned (.int .i64 (x % n)) ∧ w' = w.setCell ⟨rb, d + 1, none⟩ (.int .i64 (p + 1)) := by
  have f1 : decide ((n : Int) < 1) = false := by simp; omega
  have f2 : ((len : Int) == 0) = false := by simp; omega
  have f3 : decide ((p : Int) < (len : Int)) = true := by simp; omega
  have f4 : ¬ (n : Int) = 0 := by omega
  have f5 : ((n : Int) == 0) = false := by simp; omega
  go_enter Try.func63, Try.ntmps63
  go_wp2
  go_ret
  exact ⟨rfl, rfl⟩

theorem pick_out (w : World) (rb d cb cd len cap p n : Nat) (x y : Int) (hn : 1 ≤ n) (hn2 : n ≤ 1000) (hp : p < 1000000) (hl : len ≤ p) (hlen : len ≤ 2000) (hlen1 : 1 ≤ len)
    (h0 : w.cell? ⟨rb, d, none⟩ = some (.slice (some ⟨cb, cd, none⟩) len cap)) (h1 : w.cell? ⟨rb, d + 1, none⟩ = some (.int .i64 p)) (hcb : cb ≠ rb)
    (hf : w.frozen? ⟨rb, d + 1, none⟩ = false) (hc : w.cell? ⟨cb, cd + p % len, none⟩ = some (.int .u8 x)) (hx : 0 ≤ x) (hx2 : x ≤ 255)
    (hc2 : w.cell? ⟨cb, cd + (p * 7 + 3) % len, none⟩ = some (.int .u8 y)) (hy : 0 ≤ y) (hy2 : y ≤ 255) :
    Calls Try.prog 63 #[.pointer (some ⟨rb, d, none⟩), .int .i64 n] w fun e w' => e = .returned (.int .i64 (mixv x y p len n)) ∧ ∃ m, w' = (w.setCell ⟨rb, d + 1, none⟩ (.int .i64 (p + 1))).drewN m := by
  have f1 : decide ((n : Int) < 1) = false := by simp; omega
  have f2 : ((len : Int) == 0) = false := by simp; omega
  have f3 : decide ((p : Int) < (len : Int)) = false := by simp; omega
  have f4 : ¬ (n : Int) = 0 := by omega
  have f5 : ((n : Int) == 0) = false := by simp; omega
  have f6 : ¬ (len : Int) = 0 := by omega
  have f7 : decide (p < len) = false := by simp; omega
  have f8 : ¬ p < len := by omega
  have g1 : p % len < len := Nat.mod_lt _ hlen1
  have g2 : (p * 7 + 3) % len < len := Nat.mod_lt _ hlen1
  have c7 : (p : Int) * 7 + 3 = ((p * 7 + 3 : Nat) : Int) := by omega
  have g3 : (p : Int) % (len : Int) < (len : Int) := by rw [← Int.natCast_emod]; omega
  have g4 : 0 ≤ (p : Int) % (len : Int) := by rw [← Int.natCast_emod]; omega
  have g5 : ((p : Int) % (len : Int)).toNat = p % len := by rw [← Int.natCast_emod]; omega
  have g6 : ((p : Int) * 7 + 3) % (len : Int) < (len : Int) := by rw [c7, ← Int.natCast_emod]; omega
  have g7 : 0 ≤ ((p : Int) * 7 + 3) % (len : Int) := by rw [c7, ← Int.natCast_emod]; omega
  have g8 : (((p : Int) * 7 + 3) % (len : Int)).toNat = (p * 7 + 3) % len := by rw [c7, ← Int.natCast_emod]; omega
  clear c7
  go_enter Try.func63, Try.ntmps63
  go_wp2
  refine wp_region_quiet_lit (by kernel_rfl) (by kernel_rfl) ?_
  repeat (first | go_big_quiet_step (fail) | quiet_step (fail))
  refine wpQuiet_nil ?_
  intro _ hw'
  obtain ⟨nq, hw''⟩ := hw'
  subst hw''
  go_wp2
  go_ret
  exact ⟨rfl, nq, rfl⟩
theorem open_long (w : World) (cb cd len cap : Nat) (hlen : 2000 < len) (hc : len ≤ cap) :
    Calls Try.prog 49 #[.slice (some ⟨cb, cd, none⟩) len cap] w fun e w' => e = .returned (.pointer (some ⟨w.heap.size, 0, none⟩)) ∧ w' = w.alloc (.cells #[.slice (some ⟨cb, cd, none⟩) 2000 cap, .int .i64 0] 120) := by
  have f1 : decide ((2000 : Int) < (len : Int)) = true := by simp; omega
  have f2 : (2000 : Int) ≤ (cap : Int) := by omega
  have f3 : 2000 ≤ cap := by omega
  go_enter Try.func49, Try.ntmps49
  go_wp2
  go_ret
  exact ⟨rfl, rfl⟩
theorem open_any (w : World) (a : Option Addr) (len cap : Nat) (hlen : len ≤ 2000) :
    Calls Try.prog 49 #[.slice a len cap] w fun e w' => e = .returned (.pointer (some ⟨w.heap.size, 0, none⟩)) ∧ w' = w.alloc (.cells #[.slice a len cap, .int .i64 0] 120) := by
  have f1 : decide ((2000 : Int) < (len : Int)) = false := by simp; omega
  go_enter Try.func49, Try.ntmps49
  go_wp2
  go_ret
  exact ⟨rfl, rfl⟩
theorem pick_none (w : World) (rb d p n cap : Nat) (a : Option Addr) (hn : 1 ≤ n) (hn2 : n ≤ 1000) (hp : p < 1000000)
    (h0 : w.cell? ⟨rb, d, none⟩ = some (.slice a 0 cap)) (h1 : w.cell? ⟨rb, d + 1, none⟩ = some (.int .i64 p)) 
    (hf : w.frozen? ⟨rb, d + 1, none⟩ = false) :
    Calls Try.prog 63 #[.pointer (some ⟨rb, d, none⟩), .int .i64 n] w fun e w' => e = .returned (.int .i64 0) ∧ w' = w.setCell ⟨rb, d + 1, none⟩ (.int .i64 (p + 1)) := by
  have f1 : decide ((n : Int) < 1) = false := by simp; omega
  go_enter Try.func63, Try.ntmps63
  go_wp2
  go_ret
  exact ⟨rfl, rfl⟩

theorem drawK : DrawK Try.prog 49 63 120 :=
  { io := ⟨Try.f49, Try.func49, by kernel_rfl, by decide⟩
    ip := ⟨Try.f63, Try.func63, by kernel_rfl, by decide⟩
    short := fun w a len cap h => open_any w a len cap h
    long := fun w cb cd len cap h h2 => open_long w cb cd len cap h h2
    inside := fun w rb d cb cd len cap p n x h1 h2 h3 h4 h5 h6 h7 h8 h9 h10 h11 h12 => pick_in w rb d cb cd len cap p n x h1 h2 h3 h4 h5 h6 h7 h8 h9 h10 h11 h12
    empty := fun w rb d p n cap a h1 h2 h3 h4 h5 h6 => pick_none w rb d p n cap a h1 h2 h3 h4 h5 h6
    outside := fun w rb d cb cd len cap p n x y h1 h2 h3 h4 h5 h6 h7 h8 h9 h10 h11 h12 h13 h14 h15 h16 => pick_out w rb d cb cd len cap p n x y h1 h2 h3 h4 h5 h6 h7 h8 h9 h10 h11 h12 h13 h14 h15 h16 }
end Go.Proofs.Ytadmpiidofncpaa.draw
