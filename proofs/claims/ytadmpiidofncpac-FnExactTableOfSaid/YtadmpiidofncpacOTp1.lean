/- Entries of a table that have been found by runs. -/
import Derived.Test.YtadmpiidofncpacOTpd
namespace Go.Proofs.Ytadmpiidofncpac.tp
open Go Go.Proofs Go.Eng
set_option maxRecDepth 100000
theorem s3_1O : grpOk Try.prog s2_2S 130 s3_1 = true := by kernel_rfl
theorem s4_1O : grpOk Try.prog s3_2S 130 s4_1 = true := by kernel_rfl
theorem s5_1O : grpOk Try.prog s4_2S 130 s5_1 = true := by kernel_rfl
theorem t4_0O : grpOk Try.prog t3_1S 132 t4_0 = true := by kernel_rfl
theorem t5_0O : grpOk Try.prog t4_1S 132 t5_0 = true := by kernel_rfl
theorem e_1O : grpOk Try.prog t6_3S 106 e_1 = true := by kernel_rfl
theorem t6_1O : grpOk Try.prog t5_1S 132 t6_1 = true := by kernel_rfl
theorem s6_0O : grpOk Try.prog s5_1S 130 s6_0 = true := by kernel_rfl
theorem s6_2O : grpOk Try.prog s5_1S 130 s6_2 = true := by kernel_rfl
theorem e_4O : grpOk Try.prog t6_3S 106 e_4 = true := by kernel_rfl
theorem t3_1O : grpOk Try.prog t2S 132 t3_1 = true := by kernel_rfl
theorem t5_1O : grpOk Try.prog t4_1S 132 t5_1 = true := by kernel_rfl
theorem s6_3O : grpOk Try.prog s5_1S 130 s6_3 = true := by kernel_rfl
theorem s3_2O : grpOk Try.prog s2_2S 130 s3_2 = true := by kernel_rfl
theorem t3_0O : grpOk Try.prog t2S 132 t3_0 = true := by kernel_rfl
theorem s4_2O : grpOk Try.prog s3_2S 130 s4_2 = true := by kernel_rfl
theorem t1O : grpOk Try.prog noSums 132 t1 = true := by kernel_rfl
end Go.Proofs.Ytadmpiidofncpac.tp
