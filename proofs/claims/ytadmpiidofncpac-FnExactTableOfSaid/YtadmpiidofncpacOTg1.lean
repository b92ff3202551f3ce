/- Entries of a table that have been found by runs. -/
import Derived.Test.YtadmpiidofncpacOTgd
namespace Go.Proofs.Ytadmpiidofncpac.tg
open Go Go.Proofs Go.Eng
set_option maxRecDepth 100000
theorem e_2O : grpOk Try.prog t6_3S 107 e_2 = true := by kernel_rfl
theorem t5_0O : grpOk Try.prog t4S 132 t5_0 = true := by kernel_rfl
theorem e_1O : grpOk Try.prog t6_3S 107 e_1 = true := by kernel_rfl
theorem t6_1O : grpOk Try.prog t5_1S 132 t6_1 = true := by kernel_rfl
theorem s6_0O : grpOk Try.prog s5_1S 131 s6_0 = true := by kernel_rfl
theorem s6_2O : grpOk Try.prog s5_1S 131 s6_2 = true := by kernel_rfl
theorem e_4O : grpOk Try.prog t6_3S 107 e_4 = true := by kernel_rfl
theorem t4O : grpOk Try.prog t3S 132 t4 = true := by kernel_rfl
theorem t6_3O : grpOk Try.prog t5_1S 132 t6_3 = true := by kernel_rfl
theorem t5_1O : grpOk Try.prog t4S 132 t5_1 = true := by kernel_rfl
theorem t3O : grpOk Try.prog t2S 132 t3 = true := by kernel_rfl
theorem t2O : grpOk Try.prog t1S 132 t2 = true := by kernel_rfl
theorem t1O : grpOk Try.prog noSums 132 t1 = true := by kernel_rfl
end Go.Proofs.Ytadmpiidofncpac.tg
