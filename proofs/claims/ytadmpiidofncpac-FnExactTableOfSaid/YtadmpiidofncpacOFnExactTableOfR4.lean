/- Runs of a law. -/
import Derived.Test.YtadmpiidofncpacOFnExactTableOfP
import Derived.Test.YtadmpiidofncpacOTg
namespace Go.Proofs.Ytadmpiidofncpac.fnExactTableOfRuns
open Go Go.Proofs Go.Eng
set_option maxRecDepth 100000
theorem r4_0 : Is (.known 4) 0 := good (noSums_always _) (by kernel_rfl)
theorem r4_1 : Is (.known 4) 1 := good tg.mA (by kernel_rfl)
theorem r4_2 : Is (.known 4) 2 := good tg.mA (by kernel_rfl)
theorem r4_3 : Is (.known 4) 3 := good tg.mA (by kernel_rfl)
theorem r4_4 : Is (.known 4) 4 := good tg.mA (by kernel_rfl)
theorem r4_5 : Is (.known 4) 5 := good tg.mA (by kernel_rfl)
theorem r4_6 : Is (.known 4) 6 := good tg.mA (by kernel_rfl)
end Go.Proofs.Ytadmpiidofncpac.fnExactTableOfRuns
