/- Runs of the program at a seat. -/
import Derived.Test.YtnglbchhlpbgkabFnNewtonP
namespace Go.Proofs.Ytnglbchhlpbgkab.fnNewtonRuns
open Go Go.Eng
set_option linter.unusedVariables false
set_option linter.unusedSectionVars false
set_option linter.unusedSimpArgs false
set_option maxRecDepth 100000
open Go.Proofs.Ytnglbchhlpbgkab.newtonDrawn
theorem r_d3 : GoodM Try.prog S0 22 false 0 1000 60 5 d3 := .run ⟨.leaf, by kernel_rfl⟩
theorem r_d9 : GoodM Try.prog S0 22 false 0 1000 60 5 d9 := .run ⟨.leaf, by kernel_rfl⟩
theorem r_d15 : GoodM Try.prog S0 22 false 0 1000 60 5 d15 := .run ⟨.leaf, by kernel_rfl⟩
noncomputable def od21 : PX := (.add (.mul (.mul (.c 3) (.add (.add (.mul (.v 0) (.v 1)) (.mul (.v 0) (.v 2))) (.mul (.v 1) (.v 2)))) (.mul (.c 3) (.add (.add (.mul (.v 0) (.v 1)) (.mul (.v 0) (.v 2))) (.mul (.v 1) (.v 2))))) (.neg (.mul (.c 27) (.mul (.add (.add (.v 0) (.v 1)) (.v 2)) (.mul (.mul (.v 0) (.v 1)) (.v 2))))))
theorem ld21_0 : noneB [(549755813885, 549755813891), (549755813885, 549755813891), (549755813885, 549755813891)] [(od21, 0, Nat.pred 9223372036854775808)] = true := by kernel_rfl
theorem ld21_1 : drewRunF Try.prog S0 22 false 0 d21 1000 60 5 [((.add (.v 1) (.neg (.v 0))), 0, Nat.pred 9223372036854775808), (od21, 9223372036854775808, 9223372036854775808)] = true := by kernel_rfl
theorem ld21_2 : drewRunF Try.prog S0 22 false 0 d21 1000 60 5 [((.add (.v 2) (.neg (.v 0))), 0, Nat.pred 9223372036854775808), ((.add (.v 1) (.neg (.v 0))), 9223372036854775808, 9223372036854775808), (od21, 9223372036854775808, 9223372036854775808)] = true := by kernel_rfl
theorem ld21_3 : drewRunF Try.prog S0 22 false 0 d21 1000 60 5 [((.add (.v 2) (.neg (.v 0))), 9223372036854775808, 9223372036854775808), ((.add (.v 1) (.neg (.v 0))), 9223372036854775808, 9223372036854775808), (od21, 9223372036854775808, 9223372036854775808)] = true := by kernel_rfl
theorem ld21_4 : drewRunF Try.prog S0 22 false 0 d21 1000 60 5 [((.add (.v 2) (.neg (.v 0))), Nat.succ 9223372036854775808, 18446744073709551615), ((.add (.v 1) (.neg (.v 0))), 9223372036854775808, 9223372036854775808), (od21, 9223372036854775808, 9223372036854775808)] = true := by kernel_rfl
theorem ld21_5 : drewRunF Try.prog S0 22 false 0 d21 1000 60 5 [((.add (.v 1) (.neg (.v 0))), Nat.succ 9223372036854775808, 18446744073709551615), (od21, 9223372036854775808, 9223372036854775808)] = true := by kernel_rfl
theorem ld21_6 : drewRunF Try.prog S0 22 false 0 d21 1000 60 5 [((.add (.v 1) (.neg (.v 0))), 0, Nat.pred 9223372036854775808), (od21, Nat.succ 9223372036854775808, 18446744073709551615)] = true := by kernel_rfl
theorem ld21_7 : drewRunF Try.prog S0 22 false 0 d21 1000 60 5 [((.add (.v 2) (.neg (.v 0))), 0, Nat.pred 9223372036854775808), ((.add (.v 1) (.neg (.v 0))), 9223372036854775808, 9223372036854775808), (od21, Nat.succ 9223372036854775808, 18446744073709551615)] = true := by kernel_rfl
theorem ld21_8 : noneB [(549755813885, 549755813891), (549755813885, 549755813891), (549755813885, 549755813891)] [((.add (.v 2) (.neg (.v 0))), 9223372036854775808, 9223372036854775808), ((.add (.v 1) (.neg (.v 0))), 9223372036854775808, 9223372036854775808), (od21, Nat.succ 9223372036854775808, 18446744073709551615)] = true := by kernel_rfl
theorem ld21_9 : drewRunF Try.prog S0 22 false 0 d21 1000 60 5 [((.add (.v 2) (.neg (.v 0))), Nat.succ 9223372036854775808, 18446744073709551615), ((.add (.v 1) (.neg (.v 0))), 9223372036854775808, 9223372036854775808), (od21, Nat.succ 9223372036854775808, 18446744073709551615)] = true := by kernel_rfl
theorem ld21_10 : drewRunF Try.prog S0 22 false 0 d21 1000 60 5 [((.add (.v 1) (.neg (.v 0))), Nat.succ 9223372036854775808, 18446744073709551615), (od21, Nat.succ 9223372036854775808, 18446744073709551615)] = true := by kernel_rfl
theorem r_d21 : GoodM Try.prog S0 22 false 0 1000 60 5 d21 := .box [(549755813885, 549755813891), (549755813885, 549755813891), (549755813885, 549755813891)] (by kernel_rfl) (.tri od21 9223372036854775808 9223372036854775808 .no (.tri (.add (.v 1) (.neg (.v 0))) 9223372036854775808 9223372036854775808 .leaf (.tri (.add (.v 2) (.neg (.v 0))) 9223372036854775808 9223372036854775808 .leaf .leaf .leaf) .leaf) (.tri (.add (.v 1) (.neg (.v 0))) 9223372036854775808 9223372036854775808 .leaf (.tri (.add (.v 2) (.neg (.v 0))) 9223372036854775808 9223372036854775808 .leaf .no .leaf) .leaf)) (chkFM_tri (by kernel_rfl) (chkFM_no ld21_0) (chkFM_tri (by kernel_rfl) (chkFM_leaf ld21_1) (chkFM_tri (by kernel_rfl) (chkFM_leaf ld21_2) (chkFM_leaf ld21_3) (chkFM_leaf ld21_4)) (chkFM_leaf ld21_5)) (chkFM_tri (by kernel_rfl) (chkFM_leaf ld21_6) (chkFM_tri (by kernel_rfl) (chkFM_leaf ld21_7) (chkFM_no ld21_8) (chkFM_leaf ld21_9)) (chkFM_leaf ld21_10))) [.row [1, 1, 1], .cell 33] (by kernel_rfl)
theorem r_d27 : GoodM Try.prog S0 22 false 0 1000 60 5 d27 := .run ⟨.leaf, by kernel_rfl⟩
theorem r_d33 : GoodM Try.prog S0 22 false 0 1000 60 5 d33 := .run ⟨.leaf, by kernel_rfl⟩
theorem r_d39 : GoodM Try.prog S0 22 false 0 1000 60 5 d39 := .run ⟨.leaf, by kernel_rfl⟩
theorem r_d45 : GoodM Try.prog S0 22 false 0 1000 60 5 d45 := .run ⟨.leaf, by kernel_rfl⟩
theorem r_d51 : GoodM Try.prog S0 22 false 0 1000 60 5 d51 := .run ⟨.leaf, by kernel_rfl⟩
theorem r_d57 : GoodM Try.prog S0 22 false 0 1000 60 5 d57 := .run ⟨.leaf, by kernel_rfl⟩
end Go.Proofs.Ytnglbchhlpbgkab.fnNewtonRuns
