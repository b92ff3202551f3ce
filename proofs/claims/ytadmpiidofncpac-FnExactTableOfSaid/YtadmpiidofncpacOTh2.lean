/- Entries of a table that have been found by runs. -/
import Derived.Test.YtadmpiidofncpacOThd
namespace Go.Proofs.Ytadmpiidofncpac.th
open Go Go.Proofs Go.Eng
set_option maxRecDepth 100000
theorem e_2O : grpOk Try.prog t6_10S 105 e_2 = true := by kernel_rfl
theorem t3_1O : grpOk Try.prog t2_3S 132 t3_1 = true := by kernel_rfl
theorem t4_2O : grpOk Try.prog t3_8S 132 t4_2 = true := by kernel_rfl
theorem t5_2O : grpOk Try.prog t4_9S 132 t5_2 = true := by kernel_rfl
theorem s1_6O : grpOk Try.prog noSums 153 s1_6 = true := by kernel_rfl
theorem s2_7O : grpOk Try.prog s1_9S 153 s2_7 = true := by kernel_rfl
theorem s3_4O : grpOk Try.prog s2_16S 153 s3_4 = true := by kernel_rfl
theorem t6_2O : grpOk Try.prog t5_4S 132 t6_2 = true := by kernel_rfl
theorem t6_9O : grpOk Try.prog t5_4S 132 t6_9 = true := by kernel_rfl
theorem s3_8O : grpOk Try.prog s2_16S 153 s3_8 = true := by kernel_rfl
theorem s2_3O : grpOk Try.prog s1_9S 153 s2_3 = true := by kernel_rfl
theorem t1O : grpOk Try.prog noSums 132 t1 = true := by kernel_rfl
theorem s2_10O : grpOk Try.prog s1_9S 153 s2_10 = true := by kernel_rfl
end Go.Proofs.Ytadmpiidofncpac.th
