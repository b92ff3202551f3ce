/- Entries of a table that have been found by runs. -/
import Derived.Test.YtadmpiidofncpacOTed
namespace Go.Proofs.Ytadmpiidofncpac.te
open Go Go.Proofs Go.Eng
set_option maxRecDepth 100000
theorem s2_0O : grpOk Try.prog s1_3S 153 s2_0 = true := by kernel_rfl
theorem t4_0O : grpOk Try.prog t3_2S 132 t4_0 = true := by kernel_rfl
theorem t2O : grpOk Try.prog t1S 132 t2 = true := by kernel_rfl
theorem t6_1O : grpOk Try.prog t5_1S 132 t6_1 = true := by kernel_rfl
theorem e_4O : grpOk Try.prog t6_3S 104 e_4 = true := by kernel_rfl
theorem s4_1O : grpOk Try.prog s3_2S 153 s4_1 = true := by kernel_rfl
theorem t3_0O : grpOk Try.prog t2S 132 t3_0 = true := by kernel_rfl
theorem s2_1O : grpOk Try.prog s1_3S 153 s2_1 = true := by kernel_rfl
theorem s2_3O : grpOk Try.prog s1_3S 153 s2_3 = true := by kernel_rfl
end Go.Proofs.Ytadmpiidofncpac.te
