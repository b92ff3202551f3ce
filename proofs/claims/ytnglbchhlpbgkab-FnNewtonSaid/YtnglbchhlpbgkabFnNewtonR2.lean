/- Runs of the program at a seat. -/
import Derived.Test.YtnglbchhlpbgkabFnNewtonP
namespace Go.Proofs.Ytnglbchhlpbgkab.fnNewtonRuns
open Go Go.Eng
set_option linter.unusedVariables false
set_option linter.unusedSectionVars false
set_option linter.unusedSimpArgs false
set_option maxRecDepth 100000
open Go.Proofs.Ytnglbchhlpbgkab.newtonDrawn
theorem r_d2 : GoodM Try.prog S0 22 false 0 1000 60 5 d2 := .run ⟨.leaf, by kernel_rfl⟩
theorem r_d8 : GoodM Try.prog S0 22 false 0 1000 60 5 d8 := .run ⟨.leaf, by kernel_rfl⟩
theorem r_d14 : GoodM Try.prog S0 22 false 0 1000 60 5 d14 := .run ⟨.leaf, by kernel_rfl⟩
noncomputable def od20 : PX := (.add (.mul (.mul (.c 3) (.add (.add (.v 0) (.v 1)) (.v 2))) (.mul (.c 3) (.add (.add (.v 0) (.v 1)) (.v 2)))) (.neg (.mul (.c 27) (.mul (.c 1) (.add (.add (.mul (.v 0) (.v 1)) (.mul (.v 0) (.v 2))) (.mul (.v 1) (.v 2)))))))
theorem ld20_0 : noneB [(549755813885, 549755813891), (549755813885, 549755813891), (549755813885, 549755813891)] [(od20, 0, Nat.pred 9223372036854775808)] = true := by kernel_rfl
theorem ld20_1 : drewRunF Try.prog S0 22 false 0 d20 1000 60 5 [((.add (.v 1) (.neg (.v 0))), 0, Nat.pred 9223372036854775808), (od20, 9223372036854775808, 9223372036854775808)] = true := by kernel_rfl
theorem ld20_2 : drewRunF Try.prog S0 22 false 0 d20 1000 60 5 [((.add (.v 2) (.neg (.v 0))), 0, Nat.pred 9223372036854775808), ((.add (.v 1) (.neg (.v 0))), 9223372036854775808, 9223372036854775808), (od20, 9223372036854775808, 9223372036854775808)] = true := by kernel_rfl
theorem ld20_3 : drewRunF Try.prog S0 22 false 0 d20 1000 60 5 [((.add (.v 2) (.neg (.v 0))), 9223372036854775808, 9223372036854775808), ((.add (.v 1) (.neg (.v 0))), 9223372036854775808, 9223372036854775808), (od20, 9223372036854775808, 9223372036854775808)] = true := by kernel_rfl
theorem ld20_4 : drewRunF Try.prog S0 22 false 0 d20 1000 60 5 [((.add (.v 2) (.neg (.v 0))), Nat.succ 9223372036854775808, 18446744073709551615), ((.add (.v 1) (.neg (.v 0))), 9223372036854775808, 9223372036854775808), (od20, 9223372036854775808, 9223372036854775808)] = true := by kernel_rfl
theorem ld20_5 : drewRunF Try.prog S0 22 false 0 d20 1000 60 5 [((.add (.v 1) (.neg (.v 0))), Nat.succ 9223372036854775808, 18446744073709551615), (od20, 9223372036854775808, 9223372036854775808)] = true := by kernel_rfl
theorem ld20_6 : drewRunF Try.prog S0 22 false 0 d20 1000 60 5 [((.add (.v 1) (.neg (.v 0))), 0, Nat.pred 9223372036854775808), (od20, Nat.succ 9223372036854775808, 18446744073709551615)] = true := by kernel_rfl
theorem ld20_7 : drewRunF Try.prog S0 22 false 0 d20 1000 60 5 [((.add (.v 2) (.neg (.v 0))), 0, Nat.pred 9223372036854775808), ((.add (.v 1) (.neg (.v 0))), 9223372036854775808, 9223372036854775808), (od20, Nat.succ 9223372036854775808, 18446744073709551615)] = true := by kernel_rfl
theorem ld20_8 : noneB [(549755813885, 549755813891), (549755813885, 549755813891), (549755813885, 549755813891)] [((.add (.v 2) (.neg (.v 0))), 9223372036854775808, 9223372036854775808), ((.add (.v 1) (.neg (.v 0))), 9223372036854775808, 9223372036854775808), (od20, Nat.succ 9223372036854775808, 18446744073709551615)] = true := by kernel_rfl
theorem ld20_9 : drewRunF Try.prog S0 22 false 0 d20 1000 60 5 [((.add (.v 2) (.neg (.v 0))), Nat.succ 9223372036854775808, 18446744073709551615), ((.add (.v 1) (.neg (.v 0))), 9223372036854775808, 9223372036854775808), (od20, Nat.succ 9223372036854775808, 18446744073709551615)] = true := by kernel_rfl
theorem ld20_10 : drewRunF Try.prog S0 22 false 0 d20 1000 60 5 [((.add (.v 1) (.neg (.v 0))), Nat.succ 9223372036854775808, 18446744073709551615), (od20, Nat.succ 9223372036854775808, 18446744073709551615)] = true := by kernel_rfl
theorem r_d20 : GoodM Try.prog S0 22 false 0 1000 60 5 d20 := .box [(549755813885, 549755813891), (549755813885, 549755813891), (549755813885, 549755813891)] (by kernel_rfl) (.tri od20 9223372036854775808 9223372036854775808 .no (.tri (.add (.v 1) (.neg (.v 0))) 9223372036854775808 9223372036854775808 .leaf (.tri (.add (.v 2) (.neg (.v 0))) 9223372036854775808 9223372036854775808 .leaf .leaf .leaf) .leaf) (.tri (.add (.v 1) (.neg (.v 0))) 9223372036854775808 9223372036854775808 .leaf (.tri (.add (.v 2) (.neg (.v 0))) 9223372036854775808 9223372036854775808 .leaf .no .leaf) .leaf)) (chkFM_tri (by kernel_rfl) (chkFM_no ld20_0) (chkFM_tri (by kernel_rfl) (chkFM_leaf ld20_1) (chkFM_tri (by kernel_rfl) (chkFM_leaf ld20_2) (chkFM_leaf ld20_3) (chkFM_leaf ld20_4)) (chkFM_leaf ld20_5)) (chkFM_tri (by kernel_rfl) (chkFM_leaf ld20_6) (chkFM_tri (by kernel_rfl) (chkFM_leaf ld20_7) (chkFM_no ld20_8) (chkFM_leaf ld20_9)) (chkFM_leaf ld20_10))) [.row [1, 1, 1], .cell 17] (by kernel_rfl)
theorem r_d26 : GoodM Try.prog S0 22 false 0 1000 60 5 d26 := .run ⟨.leaf, by kernel_rfl⟩
theorem r_d32 : GoodM Try.prog S0 22 false 0 1000 60 5 d32 := .run ⟨.leaf, by kernel_rfl⟩
theorem r_d38 : GoodM Try.prog S0 22 false 0 1000 60 5 d38 := .run ⟨.leaf, by kernel_rfl⟩
theorem r_d44 : GoodM Try.prog S0 22 false 0 1000 60 5 d44 := .run ⟨.leaf, by kernel_rfl⟩
theorem r_d50 : GoodM Try.prog S0 22 false 0 1000 60 5 d50 := .run ⟨.leaf, by kernel_rfl⟩
theorem r_d56 : GoodM Try.prog S0 22 false 0 1000 60 5 d56 := .run ⟨.leaf, by kernel_rfl⟩
end Go.Proofs.Ytnglbchhlpbgkab.fnNewtonRuns
