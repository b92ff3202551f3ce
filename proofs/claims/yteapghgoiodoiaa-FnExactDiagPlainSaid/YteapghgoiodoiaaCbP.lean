/- What is known of calls of the program at a seat. -/
import Derived.Test.YteapghgoiodoiaaVaZp
import Derived.Test.YteapghgoiodoiaaDiagramZ
namespace Go.Proofs.Yteapghgoiodoiaa.CbP
open Go Go.Eng
set_option linter.unusedVariables false
noncomputable def sums : Sums := orS Go.Proofs.Yteapghgoiodoiaa.va.sumsp (Go.Proofs.Yteapghgoiodoiaa.tabDiagram.sums)
theorem sums_al : Always Try.prog sums := fun E => @orS_sound E _ _ _ (Go.Proofs.Yteapghgoiodoiaa.va.sumsp_al E) ((Go.Proofs.Yteapghgoiodoiaa.tabDiagram.sums_always) E)
end Go.Proofs.Yteapghgoiodoiaa.CbP
