/- What a seat's program says of the length in bits of a number. -/
import Derived.Test.YtadmpiidofncpaaEngX
import Derived.Test.YtadmpiidofncpaaProg
import Derived.WalkKit
import Derived.ProofKit
import Derived.OpenShut
import Derived.Below
import Derived.BigQuiet
import Derived.Deep.QuietTactic
import Derived.IntWalk
namespace Go.Proofs.Ytadmpiidofncpaa.len
open Go.ChangeShapes Go.WideShapes Go.ChangeAt Go.RowKit Go.Eng
set_option linter.unusedVariables false
set_option linter.unusedSimpArgs false
def SomeLen (w : World) (e : Ending) (w' : World) : Prop := ∃ r : Int, 0 ≤ r ∧ r ≤ 255 ∧ e = .returned (.int .i64 r) ∧ w' = w
theorem some_byte (w : World) (b : UInt8) {v : Value} (h : v = .int .i64 (wrap64 (wrap64 (b.toNat : Int)))) : SomeLen w (.returned v) w := by
  have hb : b.toNat < 256 := b.toNat_lt
  subst h
  exact ⟨_, by unfold wrap64; omega, by unfold wrap64; omega, rfl, rfl⟩
set_option maxRecDepth 100000 in
theorem len0 (w : World) : Calls Try.prog 183 #[.int .u64 0] w (SomeLen w) := by
  go_enter Try.func183, Try.ntmps183
  go_wp2
  go_ret
  exact some_byte _ _ rfl
set_option maxRecDepth 100000 in
theorem len1 (w : World) : Calls Try.prog 183 #[.int .u64 1] w (SomeLen w) := by
  go_enter Try.func183, Try.ntmps183
  go_wp2
  go_ret
  exact some_byte _ _ rfl
set_option maxRecDepth 100000 in
theorem len2 (w : World) : Calls Try.prog 183 #[.int .u64 2] w (SomeLen w) := by
  go_enter Try.func183, Try.ntmps183
  go_wp2
  go_ret
  exact some_byte _ _ rfl
set_option maxRecDepth 100000 in
theorem len3 (w : World) : Calls Try.prog 183 #[.int .u64 3] w (SomeLen w) := by
  go_enter Try.func183, Try.ntmps183
  go_wp2
  go_ret
  exact some_byte _ _ rfl
set_option maxRecDepth 100000 in
theorem len4 (w : World) : Calls Try.prog 183 #[.int .u64 4] w (SomeLen w) := by
  go_enter Try.func183, Try.ntmps183
  go_wp2
  go_ret
  exact some_byte _ _ rfl
set_option maxRecDepth 100000 in
theorem len5 (w : World) : Calls Try.prog 183 #[.int .u64 5] w (SomeLen w) := by
  go_enter Try.func183, Try.ntmps183
  go_wp2
  go_ret
  exact some_byte _ _ rfl
set_option maxRecDepth 100000 in
theorem len6 (w : World) : Calls Try.prog 183 #[.int .u64 6] w (SomeLen w) := by
  go_enter Try.func183, Try.ntmps183
  go_wp2
  go_ret
  exact some_byte _ _ rfl
set_option maxRecDepth 100000 in
theorem len7 (w : World) : Calls Try.prog 183 #[.int .u64 7] w (SomeLen w) := by
  go_enter Try.func183, Try.ntmps183
  go_wp2
  go_ret
  exact some_byte _ _ rfl
theorem len_any (w : World) (p : Nat) (h : p < 8) : Calls Try.prog 183 #[.int .u64 (p : Int)] w (SomeLen w) := by
  have : p = 0 ∨ p = 1 ∨ p = 2 ∨ p = 3 ∨ p = 4 ∨ p = 5 ∨ p = 6 ∨ p = 7 := by omega
  rcases this with rfl | rfl | rfl | rfl | rfl | rfl | rfl | rfl
  · exact len0 w
  · exact len1 w
  · exact len2 w
  · exact len3 w
  · exact len4 w
  · exact len5 w
  · exact len6 w
  · exact len7 w

theorem lenK : LenK Try.prog 183 :=
  { known := ⟨Try.f183, Try.func183, by kernel_rfl, by decide⟩
    calls := fun w p h => len_any w p h }
end Go.Proofs.Ytadmpiidofncpaa.len
