/- Entries of a table that have been found by runs. -/
import Derived.Test.YtadmpiidofncpacOThd
namespace Go.Proofs.Ytadmpiidofncpac.th
open Go Go.Proofs Go.Eng
set_option maxRecDepth 100000
theorem e_4O : grpOk Try.prog t6_10S 105 e_4 = true := by kernel_rfl
theorem e_7O : grpOk Try.prog t6_10S 105 e_7 = true := by kernel_rfl
theorem t4_7O : grpOk Try.prog t3_8S 132 t4_7 = true := by kernel_rfl
theorem s1_1O : grpOk Try.prog noSums 153 s1_1 = true := by kernel_rfl
theorem s2_0O : grpOk Try.prog s1_9S 153 s2_0 = true := by kernel_rfl
theorem s2_11O : grpOk Try.prog s1_9S 153 s2_11 = true := by kernel_rfl
theorem s4_3O : grpOk Try.prog s3_8S 153 s4_3 = true := by kernel_rfl
theorem t6_5O : grpOk Try.prog t5_4S 132 t6_5 = true := by kernel_rfl
theorem s2_5O : grpOk Try.prog s1_9S 153 s2_5 = true := by kernel_rfl
theorem s5O : grpOk Try.prog s4_4S 153 s5 = true := by kernel_rfl
theorem s2_4O : grpOk Try.prog s1_9S 153 s2_4 = true := by kernel_rfl
theorem t4_3O : grpOk Try.prog t3_8S 132 t4_3 = true := by kernel_rfl
theorem t3_5O : grpOk Try.prog t2_3S 132 t3_5 = true := by kernel_rfl
end Go.Proofs.Ytadmpiidofncpac.th
