/- Entries of a table that have been found by runs. -/
import Derived.Test.YtadmpiidofncpacOThd
namespace Go.Proofs.Ytadmpiidofncpac.th
open Go Go.Proofs Go.Eng
set_option maxRecDepth 100000
theorem e_3O : grpOk Try.prog t6_10S 105 e_3 = true := by kernel_rfl
theorem t3_4O : grpOk Try.prog t2_3S 132 t3_4 = true := by kernel_rfl
theorem t4_5O : grpOk Try.prog t3_8S 132 t4_5 = true := by kernel_rfl
theorem s1_0O : grpOk Try.prog noSums 153 s1_0 = true := by kernel_rfl
theorem s1_8O : grpOk Try.prog noSums 153 s1_8 = true := by kernel_rfl
theorem s2_9O : grpOk Try.prog s1_9S 153 s2_9 = true := by kernel_rfl
theorem s4_2O : grpOk Try.prog s3_8S 153 s4_2 = true := by kernel_rfl
theorem t6_4O : grpOk Try.prog t5_4S 132 t6_4 = true := by kernel_rfl
theorem s1_9O : grpOk Try.prog noSums 153 s1_9 = true := by kernel_rfl
theorem s4_1O : grpOk Try.prog s3_8S 153 s4_1 = true := by kernel_rfl
theorem s3_6O : grpOk Try.prog s2_16S 153 s3_6 = true := by kernel_rfl
theorem t4_9O : grpOk Try.prog t3_8S 132 t4_9 = true := by kernel_rfl
theorem s1_3O : grpOk Try.prog noSums 153 s1_3 = true := by kernel_rfl
end Go.Proofs.Ytadmpiidofncpac.th
