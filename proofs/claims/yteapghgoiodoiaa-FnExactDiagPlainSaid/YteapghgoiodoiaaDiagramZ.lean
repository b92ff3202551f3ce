/- What is known of calls of the program at a seat. -/
import Derived.Test.YteapghgoiodoiaaDiagramI0
import Derived.Test.YteapghgoiodoiaaDiagramS0
namespace Go.Proofs.Yteapghgoiodoiaa.tabDiagram
open Go Go.Eng
set_option linter.unusedVariables false
set_option linter.unusedSectionVars false
set_option linter.unusedSimpArgs false
noncomputable def sums : Sums := orS i1S (orS i2S (orS i3S (orS i4S (orS i5S (orS i6S (orS s1S (orS s2S (orS s3S (orS s4S (orS s5S (s6S)))))))))))
theorem sums_always : Always Try.prog sums := orS_always i1S_always (orS_always i2S_always (orS_always i3S_always (orS_always i4S_always (orS_always i5S_always (orS_always i6S_always (orS_always s1S_always (orS_always s2S_always (orS_always s3S_always (orS_always s4S_always (orS_always s5S_always (s6S_always)))))))))))
end Go.Proofs.Yteapghgoiodoiaa.tabDiagram
