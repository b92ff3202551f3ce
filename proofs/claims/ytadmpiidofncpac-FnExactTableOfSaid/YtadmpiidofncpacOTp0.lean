/- Entries of a table that have been found by runs. -/
import Derived.Test.YtadmpiidofncpacOTpd
namespace Go.Proofs.Ytadmpiidofncpac.tp
open Go Go.Proofs Go.Eng
set_option maxRecDepth 100000
theorem s2_1O : grpOk Try.prog s1S 130 s2_1 = true := by kernel_rfl
theorem s4_0O : grpOk Try.prog s3_2S 130 s4_0 = true := by kernel_rfl
theorem e_0O : grpOk Try.prog t6_3S 106 e_0 = true := by kernel_rfl
theorem e_2O : grpOk Try.prog t6_3S 106 e_2 = true := by kernel_rfl
theorem s5_0O : grpOk Try.prog s4_2S 130 s5_0 = true := by kernel_rfl
theorem t4_1O : grpOk Try.prog t3_1S 132 t4_1 = true := by kernel_rfl
theorem t6_0O : grpOk Try.prog t5_1S 132 t6_0 = true := by kernel_rfl
theorem t6_2O : grpOk Try.prog t5_1S 132 t6_2 = true := by kernel_rfl
theorem s6_1O : grpOk Try.prog s5_1S 130 s6_1 = true := by kernel_rfl
theorem e_3O : grpOk Try.prog t6_3S 106 e_3 = true := by kernel_rfl
theorem e_5O : grpOk Try.prog t6_3S 106 e_5 = true := by kernel_rfl
theorem t2O : grpOk Try.prog t1S 132 t2 = true := by kernel_rfl
theorem t6_3O : grpOk Try.prog t5_1S 132 t6_3 = true := by kernel_rfl
theorem s1O : grpOk Try.prog noSums 130 s1 = true := by kernel_rfl
theorem s3_0O : grpOk Try.prog s2_2S 130 s3_0 = true := by kernel_rfl
theorem s2_0O : grpOk Try.prog s1S 130 s2_0 = true := by kernel_rfl
theorem s2_2O : grpOk Try.prog s1S 130 s2_2 = true := by kernel_rfl
end Go.Proofs.Ytadmpiidofncpac.tp
