/- Runs of a law. -/
import Derived.Test.YtadmpiidofncpacOFnExactTableOfP
import Derived.Test.YtadmpiidofncpacOTp
namespace Go.Proofs.Ytadmpiidofncpac.fnExactTableOfRuns
open Go Go.Proofs Go.Eng
set_option maxRecDepth 100000
theorem r3_0 : Is (.known 3) 0 := good (noSums_always _) (by kernel_rfl)
theorem r3_1 : Is (.known 3) 1 := good tp.mA (by kernel_rfl)
theorem r3_2 : Is (.known 3) 2 := good tp.mA (by kernel_rfl)
theorem r3_3 : Is (.known 3) 3 := good tp.mA (by kernel_rfl)
theorem r3_4 : Is (.known 3) 4 := good tp.mA (by kernel_rfl)
theorem r3_5 : Is (.known 3) 5 := good tp.mA (by kernel_rfl)
theorem r3_6 : Is (.known 3) 6 := good tp.mA (by kernel_rfl)
end Go.Proofs.Ytadmpiidofncpac.fnExactTableOfRuns
