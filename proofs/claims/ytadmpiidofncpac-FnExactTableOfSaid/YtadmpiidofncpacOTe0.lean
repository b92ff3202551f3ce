/- Entries of a table that have been found by runs. -/
import Derived.Test.YtadmpiidofncpacOTed
namespace Go.Proofs.Ytadmpiidofncpac.te
open Go Go.Proofs Go.Eng
set_option maxRecDepth 100000
theorem s1_0O : grpOk Try.prog noSums 153 s1_0 = true := by kernel_rfl
theorem s2_4O : grpOk Try.prog s1_3S 153 s2_4 = true := by kernel_rfl
theorem t5_0O : grpOk Try.prog t4_2S 132 t5_0 = true := by kernel_rfl
theorem t4_2O : grpOk Try.prog t3_2S 132 t4_2 = true := by kernel_rfl
theorem s1_3O : grpOk Try.prog noSums 153 s1_3 = true := by kernel_rfl
theorem t3_2O : grpOk Try.prog t2S 132 t3_2 = true := by kernel_rfl
theorem t3_1O : grpOk Try.prog t2S 132 t3_1 = true := by kernel_rfl
theorem s2_5O : grpOk Try.prog s1_3S 153 s2_5 = true := by kernel_rfl
theorem s5O : grpOk Try.prog s4_2S 153 s5 = true := by kernel_rfl
end Go.Proofs.Ytadmpiidofncpac.te
