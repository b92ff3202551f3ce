/- Entries of a table that have been found by runs. -/
import Derived.Test.YtadmpiidofncpacOThd
namespace Go.Proofs.Ytadmpiidofncpac.th
open Go Go.Proofs Go.Eng
set_option maxRecDepth 100000
theorem e_6O : grpOk Try.prog t6_10S 105 e_6 = true := by kernel_rfl
theorem t2_2O : grpOk Try.prog t1S 132 t2_2 = true := by kernel_rfl
theorem t3_7O : grpOk Try.prog t2_3S 132 t3_7 = true := by kernel_rfl
theorem t5_0O : grpOk Try.prog t4_9S 132 t5_0 = true := by kernel_rfl
theorem s1_4O : grpOk Try.prog noSums 153 s1_4 = true := by kernel_rfl
theorem s2_2O : grpOk Try.prog s1_9S 153 s2_2 = true := by kernel_rfl
theorem s2_13O : grpOk Try.prog s1_9S 153 s2_13 = true := by kernel_rfl
theorem t6_0O : grpOk Try.prog t5_4S 132 t6_0 = true := by kernel_rfl
theorem t6_6O : grpOk Try.prog t5_4S 132 t6_6 = true := by kernel_rfl
theorem s2_16O : grpOk Try.prog s1_9S 153 s2_16 = true := by kernel_rfl
theorem e_8O : grpOk Try.prog t6_10S 105 e_8 = true := by kernel_rfl
theorem s3_1O : grpOk Try.prog s2_16S 153 s3_1 = true := by kernel_rfl
theorem t2_3O : grpOk Try.prog t1S 132 t2_3 = true := by kernel_rfl
end Go.Proofs.Ytadmpiidofncpac.th
