/- Entries of a table that have been found by runs. -/
import Derived.Test.YtadmpiidofncpacOThd
namespace Go.Proofs.Ytadmpiidofncpac.th
open Go Go.Proofs Go.Eng
set_option maxRecDepth 100000
theorem e_0O : grpOk Try.prog t6_10S 105 e_0 = true := by kernel_rfl
theorem t3_3O : grpOk Try.prog t2_3S 132 t3_3 = true := by kernel_rfl
theorem t4_4O : grpOk Try.prog t3_8S 132 t4_4 = true := by kernel_rfl
theorem t5_3O : grpOk Try.prog t4_9S 132 t5_3 = true := by kernel_rfl
theorem s1_7O : grpOk Try.prog noSums 153 s1_7 = true := by kernel_rfl
theorem s2_8O : grpOk Try.prog s1_9S 153 s2_8 = true := by kernel_rfl
theorem s3_5O : grpOk Try.prog s2_16S 153 s3_5 = true := by kernel_rfl
theorem t6_3O : grpOk Try.prog t5_4S 132 t6_3 = true := by kernel_rfl
theorem t6_10O : grpOk Try.prog t5_4S 132 t6_10 = true := by kernel_rfl
theorem s4_0O : grpOk Try.prog s3_8S 153 s4_0 = true := by kernel_rfl
theorem s2_14O : grpOk Try.prog s1_9S 153 s2_14 = true := by kernel_rfl
theorem t4_6O : grpOk Try.prog t3_8S 132 t4_6 = true := by kernel_rfl
theorem t3_8O : grpOk Try.prog t2_3S 132 t3_8 = true := by kernel_rfl
end Go.Proofs.Ytadmpiidofncpac.th
