/- The laws on what is a term, and of which degree. -/
import Derived.Test.YtbpemgpbmabnbaaDoorTmI
import Derived.Test.YtbpemgpbmabnbaaDoorTmR
namespace Go.Proofs.YtbpemgpbmabnbaaDoor.tm
open Go.ChangeShapes Go.WideShapes Go.ChangeAt Go.RowKit Go.Tm
set_option linter.unusedVariables false
set_option linter.unusedSimpArgs false
set_option maxRecDepth 10000

theorem law_in (l : List UInt8) (w : World) (hl : l.length ≤ maxLen) (hg : Laid w) : Calls Tryd.prog 3 #[.string ⟨l.toArray⟩] w fun e w' => e = .returned (.bool true) ∧ Below w.heap.size w w' := by
  obtain ⟨S, hS⟩ : ∃ S : ByteArray, S = ⟨l.toArray⟩ := ⟨_, rfl⟩
  have h1 := spec_in l
  have h2 := impl_in l
  have hz : (S.size : Int) ≤ 9223372036854775807 := by rw [hS]; unfold maxLen at hl; show ((l.length : Nat) : Int) ≤ _; omega
  rw [← hS] at h1 h2 ⊢
  obtain ⟨b, hb⟩ : ∃ b, b = (whole l).isSome := ⟨_, rfl⟩
  rw [← hb] at h1 h2
  have HG := Lib.hid hg
  clear hS hb hg
  by_cases hbig : (1048576 : Int) < S.size
  · go_enter Tryd.func3, Tryd.ntmps3
    go_wp2_with fail
    go_ret
    exact ⟨rfl, Below.refl _ _⟩
  · go_enter Tryd.func3, Tryd.ntmps3
    go_wp2_with (first | (go_at_call 8; (with_reducible refine (h1 _ hl).mono ?_); rintro e w1 ⟨rfl, hb1⟩) | (go_at_call 9; (with_reducible refine (h2 _ hl (HG.out.below hb1)).mono ?_); rintro e w2 ⟨rfl, hb2⟩))
    go_ret
    exact ⟨rfl, hb1.trans (hb2.mono hb1.size)⟩
theorem law_degree (l : List UInt8) (w : World) (hl : l.length ≤ maxLen) (hg : Laid w) : Calls Tryd.prog 4 #[.string ⟨l.toArray⟩] w fun e w' => e = .returned (.bool true) ∧ Below w.heap.size w w' := by
  obtain ⟨S, hS⟩ : ∃ S : ByteArray, S = ⟨l.toArray⟩ := ⟨_, rfl⟩
  have h1 := spec_degree l
  have h2 := impl_degree l
  have hz : (S.size : Int) ≤ 9223372036854775807 := by rw [hS]; unfold maxLen at hl; show ((l.length : Nat) : Int) ≤ _; omega
  rw [← hS] at h1 h2 ⊢
  obtain ⟨n, b, hb⟩ : ∃ (n : Int) (b : Bool), degV l = .tuple #[.int .i64 n, .bool b] := by
    unfold degV
    split
    · exact ⟨_, _, rfl⟩
    · exact ⟨_, _, rfl⟩
  rw [hb] at h1 h2
  have HG := Lib.hid hg
  clear hS hb hg
  by_cases hbig : (1048576 : Int) < S.size
  · go_enter Tryd.func4, Tryd.ntmps4
    go_wp2_with fail
    go_ret
    exact ⟨rfl, Below.refl _ _⟩
  · go_enter Tryd.func4, Tryd.ntmps4
    go_wp2_with (first | (go_at_call 10; (with_reducible refine (h1 _ hl).mono ?_); rintro e w1 ⟨rfl, hb1⟩) | (go_at_call 11; (with_reducible refine (h2 _ hl (HG.out.below hb1)).mono ?_); rintro e w2 ⟨rfl, hb2⟩))
    go_ret
    exact ⟨rfl, hb1.trans (hb2.mono hb1.size)⟩
end Go.Proofs.YtbpemgpbmabnbaaDoor.tm
