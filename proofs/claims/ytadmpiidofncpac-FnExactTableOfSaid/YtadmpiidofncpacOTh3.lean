/- Entries of a table that have been found by runs. -/
import Derived.Test.YtadmpiidofncpacOThd
namespace Go.Proofs.Ytadmpiidofncpac.th
open Go Go.Proofs Go.Eng
set_option maxRecDepth 100000
theorem e_1O : grpOk Try.prog t6_10S 105 e_1 = true := by kernel_rfl
theorem t3_0O : grpOk Try.prog t2_3S 132 t3_0 = true := by kernel_rfl
theorem t4_1O : grpOk Try.prog t3_8S 132 t4_1 = true := by kernel_rfl
theorem t5_1O : grpOk Try.prog t4_9S 132 t5_1 = true := by kernel_rfl
theorem s1_5O : grpOk Try.prog noSums 153 s1_5 = true := by kernel_rfl
theorem s2_6O : grpOk Try.prog s1_9S 153 s2_6 = true := by kernel_rfl
theorem s3_3O : grpOk Try.prog s2_16S 153 s3_3 = true := by kernel_rfl
theorem t6_1O : grpOk Try.prog t5_4S 132 t6_1 = true := by kernel_rfl
theorem t6_7O : grpOk Try.prog t5_4S 132 t6_7 = true := by kernel_rfl
theorem s3_0O : grpOk Try.prog s2_16S 153 s3_0 = true := by kernel_rfl
theorem t4_0O : grpOk Try.prog t3_8S 132 t4_0 = true := by kernel_rfl
theorem s3_7O : grpOk Try.prog s2_16S 153 s3_7 = true := by kernel_rfl
theorem t3_2O : grpOk Try.prog t2_3S 132 t3_2 = true := by kernel_rfl
end Go.Proofs.Ytadmpiidofncpac.th
