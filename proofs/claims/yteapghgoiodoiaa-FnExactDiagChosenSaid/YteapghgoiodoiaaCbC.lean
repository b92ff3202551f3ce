/- What is known of calls of the program at a seat. -/
import Derived.Test.YteapghgoiodoiaaVaZf
import Derived.Test.YteapghgoiodoiaaDtZC
namespace Go.Proofs.Yteapghgoiodoiaa.CbC
open Go Go.Eng
set_option linter.unusedVariables false
noncomputable def sums : Sums := orS Go.Proofs.Yteapghgoiodoiaa.dt.sumsC (Go.Proofs.Yteapghgoiodoiaa.va.sumsf)
theorem sums_al : Always Try.prog sums := fun E => @orS_sound E _ _ _ (Go.Proofs.Yteapghgoiodoiaa.dt.sumsC_al E) ((Go.Proofs.Yteapghgoiodoiaa.va.sumsf_al) E)
end Go.Proofs.Yteapghgoiodoiaa.CbC
