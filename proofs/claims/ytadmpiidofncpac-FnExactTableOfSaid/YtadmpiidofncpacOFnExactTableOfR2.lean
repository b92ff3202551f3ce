/- Runs of a law. -/
import Derived.Test.YtadmpiidofncpacOFnExactTableOfP
import Derived.Test.YtadmpiidofncpacOTh
namespace Go.Proofs.Ytadmpiidofncpac.fnExactTableOfRuns
open Go Go.Proofs Go.Eng
set_option maxRecDepth 100000
theorem r2_0 : Is (.known 2) 0 := good (noSums_always _) (by kernel_rfl)
theorem r2_1 : Is (.known 2) 1 := good th.mA (by kernel_rfl)
theorem r2_2 : Is (.known 2) 2 := good th.mA (by kernel_rfl)
theorem r2_3 : Is (.known 2) 3 := good th.mA (by kernel_rfl)
theorem r2_4 : Is (.known 2) 4 := good th.mA (by kernel_rfl)
theorem r2_5 : Is (.known 2) 5 := good th.mA (by kernel_rfl)
theorem r2_6 : Is (.known 2) 6 := good th.mA (by kernel_rfl)
end Go.Proofs.Ytadmpiidofncpac.fnExactTableOfRuns
