/- Entries of a table that have been found by runs. -/
import Derived.Test.YtadmpiidofncpacOTed
namespace Go.Proofs.Ytadmpiidofncpac.te
open Go Go.Proofs Go.Eng
set_option maxRecDepth 100000
theorem s2_2O : grpOk Try.prog s1_3S 153 s2_2 = true := by kernel_rfl
theorem e_0O : grpOk Try.prog t6_3S 104 e_0 = true := by kernel_rfl
theorem e_2O : grpOk Try.prog t6_3S 104 e_2 = true := by kernel_rfl
theorem t6_2O : grpOk Try.prog t5_1S 132 t6_2 = true := by kernel_rfl
theorem e_5O : grpOk Try.prog t6_3S 104 e_5 = true := by kernel_rfl
theorem t4_1O : grpOk Try.prog t3_2S 132 t4_1 = true := by kernel_rfl
theorem s3_0O : grpOk Try.prog s2_5S 153 s3_0 = true := by kernel_rfl
theorem t6_3O : grpOk Try.prog t5_1S 132 t6_3 = true := by kernel_rfl
theorem s4_2O : grpOk Try.prog s3_2S 153 s4_2 = true := by kernel_rfl
end Go.Proofs.Ytadmpiidofncpac.te
