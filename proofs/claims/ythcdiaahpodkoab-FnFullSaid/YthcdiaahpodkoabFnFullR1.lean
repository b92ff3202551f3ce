/- Runs of the program at a seat. -/
import Derived.Test.YthcdiaahpodkoabFnFullP
namespace Go.Proofs.Ythcdiaahpodkoab.fnFullRuns
open Go Go.Eng
set_option linter.unusedVariables false
set_option linter.unusedSectionVars false
set_option linter.unusedSimpArgs false
set_option maxRecDepth 100000 in
theorem r_d1 : run Go.Proofs.Ythcdiaahpodkoab.numberDrawn.d1 = true := by kernel_rfl
set_option maxRecDepth 100000 in
theorem r_d5 : run Go.Proofs.Ythcdiaahpodkoab.numberDrawn.d5 = true := by kernel_rfl
set_option maxRecDepth 100000 in
theorem r_d9 : run Go.Proofs.Ythcdiaahpodkoab.numberDrawn.d9 = true := by kernel_rfl
set_option maxRecDepth 100000 in
theorem r_d13 : run Go.Proofs.Ythcdiaahpodkoab.numberDrawn.d13 = true := by kernel_rfl
set_option maxRecDepth 100000 in
theorem r_d17 : run Go.Proofs.Ythcdiaahpodkoab.numberDrawn.d17 = true := by kernel_rfl
set_option maxRecDepth 100000 in
theorem r_d21 : run Go.Proofs.Ythcdiaahpodkoab.numberDrawn.d21 = true := by kernel_rfl
set_option maxRecDepth 100000 in
theorem r_d25 : run Go.Proofs.Ythcdiaahpodkoab.numberDrawn.d25 = true := by kernel_rfl
set_option maxRecDepth 100000 in
theorem r_d29 : run Go.Proofs.Ythcdiaahpodkoab.numberDrawn.d29 = true := by kernel_rfl
set_option maxRecDepth 100000 in
theorem r_d33 : run Go.Proofs.Ythcdiaahpodkoab.numberDrawn.d33 = true := by kernel_rfl
set_option maxRecDepth 100000 in
theorem r_d37 : run Go.Proofs.Ythcdiaahpodkoab.numberDrawn.d37 = true := by kernel_rfl
set_option maxRecDepth 100000 in
theorem r_d41 : run Go.Proofs.Ythcdiaahpodkoab.numberDrawn.d41 = true := by kernel_rfl
set_option maxRecDepth 100000 in
theorem r_d45 : run Go.Proofs.Ythcdiaahpodkoab.numberDrawn.d45 = true := by kernel_rfl
set_option maxRecDepth 100000 in
theorem r_d49 : run Go.Proofs.Ythcdiaahpodkoab.numberDrawn.d49 = true := by kernel_rfl
set_option maxRecDepth 100000 in
theorem r_d53 : run Go.Proofs.Ythcdiaahpodkoab.numberDrawn.d53 = true := by kernel_rfl
set_option maxRecDepth 100000 in
theorem r_d57 : run Go.Proofs.Ythcdiaahpodkoab.numberDrawn.d57 = true := by kernel_rfl
set_option maxRecDepth 100000 in
theorem r_d61 : run Go.Proofs.Ythcdiaahpodkoab.numberDrawn.d61 = true := by kernel_rfl
set_option maxRecDepth 100000 in
theorem r_d65 : run Go.Proofs.Ythcdiaahpodkoab.numberDrawn.d65 = true := by kernel_rfl
set_option maxRecDepth 100000 in
theorem r_d69 : run Go.Proofs.Ythcdiaahpodkoab.numberDrawn.d69 = true := by kernel_rfl
set_option maxRecDepth 100000 in
theorem r_d73 : run Go.Proofs.Ythcdiaahpodkoab.numberDrawn.d73 = true := by kernel_rfl
set_option maxRecDepth 100000 in
theorem r_d77 : run Go.Proofs.Ythcdiaahpodkoab.numberDrawn.d77 = true := by kernel_rfl
set_option maxRecDepth 100000 in
theorem r_d81 : run Go.Proofs.Ythcdiaahpodkoab.numberDrawn.d81 = true := by kernel_rfl
set_option maxRecDepth 100000 in
theorem r_d85 : run Go.Proofs.Ythcdiaahpodkoab.numberDrawn.d85 = true := by kernel_rfl
set_option maxRecDepth 100000 in
theorem r_d89 : run Go.Proofs.Ythcdiaahpodkoab.numberDrawn.d89 = true := by kernel_rfl
set_option maxRecDepth 100000 in
theorem r_d93 : run Go.Proofs.Ythcdiaahpodkoab.numberDrawn.d93 = true := by kernel_rfl
set_option maxRecDepth 100000 in
theorem r_d97 : run Go.Proofs.Ythcdiaahpodkoab.numberDrawn.d97 = true := by kernel_rfl
set_option maxRecDepth 100000 in
theorem r_d101 : run Go.Proofs.Ythcdiaahpodkoab.numberDrawn.d101 = true := by kernel_rfl
set_option maxRecDepth 100000 in
theorem r_d105 : run Go.Proofs.Ythcdiaahpodkoab.numberDrawn.d105 = true := by kernel_rfl
set_option maxRecDepth 100000 in
theorem r_d109 : run Go.Proofs.Ythcdiaahpodkoab.numberDrawn.d109 = true := by kernel_rfl
set_option maxRecDepth 100000 in
theorem r_d113 : run Go.Proofs.Ythcdiaahpodkoab.numberDrawn.d113 = true := by kernel_rfl
end Go.Proofs.Ythcdiaahpodkoab.fnFullRuns
