/- Runs of a law. -/
import Derived.Test.YtadmpiidofncpacOFnExactTableOfP
import Derived.Test.YtadmpiidofncpacOTe
namespace Go.Proofs.Ytadmpiidofncpac.fnExactTableOfRuns
open Go Go.Proofs Go.Eng
set_option maxRecDepth 100000
theorem r1_0 : Is (.known 1) 0 := good (noSums_always _) (by kernel_rfl)
theorem r1_1 : Is (.known 1) 1 := good te.mA (by kernel_rfl)
theorem r1_2 : Is (.known 1) 2 := good te.mA (by kernel_rfl)
theorem r1_3 : Is (.known 1) 3 := good te.mA (by kernel_rfl)
theorem r1_4 : Is (.known 1) 4 := good te.mA (by kernel_rfl)
theorem r1_5 : Is (.known 1) 5 := good te.mA (by kernel_rfl)
theorem r1_6 : Is (.known 1) 6 := good te.mA (by kernel_rfl)
end Go.Proofs.Ytadmpiidofncpac.fnExactTableOfRuns
