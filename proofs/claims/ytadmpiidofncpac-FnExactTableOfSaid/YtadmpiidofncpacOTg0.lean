/- Entries of a table that have been found by runs. -/
import Derived.Test.YtadmpiidofncpacOTgd
namespace Go.Proofs.Ytadmpiidofncpac.tg
open Go Go.Proofs Go.Eng
set_option maxRecDepth 100000
theorem e_0O : grpOk Try.prog t6_3S 107 e_0 = true := by kernel_rfl
theorem s5_0O : grpOk Try.prog s4S 131 s5_0 = true := by kernel_rfl
theorem t6_0O : grpOk Try.prog t5_1S 132 t6_0 = true := by kernel_rfl
theorem t6_2O : grpOk Try.prog t5_1S 132 t6_2 = true := by kernel_rfl
theorem s6_1O : grpOk Try.prog s5_1S 131 s6_1 = true := by kernel_rfl
theorem e_3O : grpOk Try.prog t6_3S 107 e_3 = true := by kernel_rfl
theorem e_5O : grpOk Try.prog t6_3S 107 e_5 = true := by kernel_rfl
theorem s4O : grpOk Try.prog s3S 131 s4 = true := by kernel_rfl
theorem s6_3O : grpOk Try.prog s5_1S 131 s6_3 = true := by kernel_rfl
theorem s5_1O : grpOk Try.prog s4S 131 s5_1 = true := by kernel_rfl
theorem s3O : grpOk Try.prog s2S 131 s3 = true := by kernel_rfl
theorem s2O : grpOk Try.prog s1S 131 s2 = true := by kernel_rfl
theorem s1O : grpOk Try.prog noSums 131 s1 = true := by kernel_rfl
end Go.Proofs.Ytadmpiidofncpac.tg
