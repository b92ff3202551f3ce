/- Entries of a table that have been found by runs. -/
import Derived.Test.YtadmpiidofncpacOTed
namespace Go.Proofs.Ytadmpiidofncpac.te
open Go Go.Proofs Go.Eng
set_option maxRecDepth 100000
theorem s1_2O : grpOk Try.prog noSums 153 s1_2 = true := by kernel_rfl
theorem s3_1O : grpOk Try.prog s2_5S 153 s3_1 = true := by kernel_rfl
theorem e_1O : grpOk Try.prog t6_3S 104 e_1 = true := by kernel_rfl
theorem t6_0O : grpOk Try.prog t5_1S 132 t6_0 = true := by kernel_rfl
theorem e_3O : grpOk Try.prog t6_3S 104 e_3 = true := by kernel_rfl
theorem t5_1O : grpOk Try.prog t4_2S 132 t5_1 = true := by kernel_rfl
theorem s3_2O : grpOk Try.prog s2_5S 153 s3_2 = true := by kernel_rfl
theorem s4_0O : grpOk Try.prog s3_2S 153 s4_0 = true := by kernel_rfl
theorem t1O : grpOk Try.prog noSums 132 t1 = true := by kernel_rfl
theorem s1_1O : grpOk Try.prog noSums 153 s1_1 = true := by kernel_rfl
end Go.Proofs.Ytadmpiidofncpac.te
