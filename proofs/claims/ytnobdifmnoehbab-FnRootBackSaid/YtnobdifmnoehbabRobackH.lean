/- Runs of the program at a seat. -/
import Derived.Test.YtnobdifmnoehbabEngXi
import Derived.Test.YtnobdifmnoehbabProg
namespace Go.Proofs.Ytnobdifmnoehbab.roback
open Go Go.Eng
set_option linter.unusedVariables false
set_option linter.unusedSectionVars false
set_option linter.unusedSimpArgs false
set_option maxRecDepth 100000
noncomputable def dR : Tab → OR := dRun Try.prog noSums 47 71 1000 60 41 0
noncomputable def t_e1 : List DI := [.row [42535295865126979339443567386372898060]]
noncomputable def t_x1 : List DI := [.row [16017]]
noncomputable def t_e1p : List DI := [.row [17]]
noncomputable def t_e1m : List DI := [.row [295147905179352825841]]
noncomputable def t_e2 : List DI := [.row [42535295865126979339443567386372898060, 42535295865146322152557401453168196876]]
noncomputable def t_x2 : List DI := [.row [16017, 42535295865146322152557401453168196876]]
noncomputable def t_e2p : List DI := [.row [42535295865126979339443567386372898060, 17]]
noncomputable def t_x2p : List DI := [.row [16017, 17]]
noncomputable def t_e2m : List DI := [.row [42535295865126979339443567386372898060, 295147905179352825841]]
noncomputable def t_x2m : List DI := [.row [16017, 295147905179352825841]]
noncomputable def t_e3 : List DI := [.row [42535295865126979339443567386372898060, 42535295865146322152557401453168196876, 42535295865165664965671235519963495692]]
noncomputable def t_x3 : List DI := [.row [16017, 42535295865146322152557401453168196876, 42535295865165664965671235519963495692]]
noncomputable def t_e3p : List DI := [.row [42535295865126979339443567386372898060, 42535295865146322152557401453168196876, 17]]
noncomputable def t_x3p : List DI := [.row [16017, 42535295865146322152557401453168196876, 17]]
noncomputable def t_e3m : List DI := [.row [42535295865126979339443567386372898060, 42535295865146322152557401453168196876, 295147905179352825841]]
noncomputable def t_x3m : List DI := [.row [16017, 42535295865146322152557401453168196876, 295147905179352825841]]
noncomputable def t_e4 : List DI := [.row [42535295865126979339443567386372898060, 42535295865146322152557401453168196876, 42535295865165664965671235519963495692, 42535295865185007778785069586758794508]]
noncomputable def t_x4 : List DI := [.row [16017, 42535295865146322152557401453168196876, 42535295865165664965671235519963495692, 42535295865185007778785069586758794508]]
noncomputable def t_e4p : List DI := [.row [42535295865126979339443567386372898060, 42535295865146322152557401453168196876, 42535295865165664965671235519963495692, 17]]
noncomputable def t_x4p : List DI := [.row [16017, 42535295865146322152557401453168196876, 42535295865165664965671235519963495692, 17]]
noncomputable def t_e4m : List DI := [.row [42535295865126979339443567386372898060, 42535295865146322152557401453168196876, 42535295865165664965671235519963495692, 295147905179352825841]]
noncomputable def t_x4m : List DI := [.row [16017, 42535295865146322152557401453168196876, 42535295865165664965671235519963495692, 295147905179352825841]]
noncomputable def l_L0 : List (List DI) := [t_e1, t_x1, t_e1p, t_e1m]
noncomputable def l_L1 : List (List DI) := [t_e2, t_x2, t_e2p, t_x2p, t_e2m, t_x2m]
noncomputable def l_L2 : List (List DI) := [t_e3, t_x3, t_e3p, t_x3p, t_e3m, t_x3m]
noncomputable def l_L3 : List (List DI) := [t_e4, t_x4, t_e4p, t_x4p, t_e4m, t_x4m]
noncomputable def l_L4 : List (List DI) := [t_e1, t_e1p, t_e1m]
noncomputable def l_L5 : List (List DI) := [t_e2, t_e2p, t_e2m]
noncomputable def l_L6 : List (List DI) := [t_e3, t_e3p, t_e3m]
noncomputable def l_L7 : List (List DI) := [t_e4, t_e4p, t_e4m]
end Go.Proofs.Ytnobdifmnoehbab.roback
