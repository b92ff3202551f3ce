/- Entries of a table that have been found by runs. -/
import Derived.Test.YtadmpiidofncpacOThd
namespace Go.Proofs.Ytadmpiidofncpac.th
open Go Go.Proofs Go.Eng
set_option maxRecDepth 100000
theorem e_5O : grpOk Try.prog t6_10S 105 e_5 = true := by kernel_rfl
theorem t2_0O : grpOk Try.prog t1S 132 t2_0 = true := by kernel_rfl
theorem t3_6O : grpOk Try.prog t2_3S 132 t3_6 = true := by kernel_rfl
theorem t4_8O : grpOk Try.prog t3_8S 132 t4_8 = true := by kernel_rfl
theorem s1_2O : grpOk Try.prog noSums 153 s1_2 = true := by kernel_rfl
theorem s2_1O : grpOk Try.prog s1_9S 153 s2_1 = true := by kernel_rfl
theorem s2_12O : grpOk Try.prog s1_9S 153 s2_12 = true := by kernel_rfl
theorem s4_4O : grpOk Try.prog s3_8S 153 s4_4 = true := by kernel_rfl
theorem t6_8O : grpOk Try.prog t5_4S 132 t6_8 = true := by kernel_rfl
theorem s3_2O : grpOk Try.prog s2_16S 153 s3_2 = true := by kernel_rfl
theorem t5_4O : grpOk Try.prog t4_9S 132 t5_4 = true := by kernel_rfl
theorem s2_15O : grpOk Try.prog s1_9S 153 s2_15 = true := by kernel_rfl
theorem t2_1O : grpOk Try.prog t1S 132 t2_1 = true := by kernel_rfl
end Go.Proofs.Ytadmpiidofncpac.th
