/- Runs of the program at a seat. -/
import Derived.Test.YthcdiaahpodkoabFnFullP
namespace Go.Proofs.Ythcdiaahpodkoab.fnFullRuns
open Go Go.Eng
set_option linter.unusedVariables false
set_option linter.unusedSectionVars false
set_option linter.unusedSimpArgs false
set_option maxRecDepth 100000 in
theorem r_d3 : run Go.Proofs.Ythcdiaahpodkoab.numberDrawn.d3 = true := by kernel_rfl
set_option maxRecDepth 100000 in
theorem r_d7 : run Go.Proofs.Ythcdiaahpodkoab.numberDrawn.d7 = true := by kernel_rfl
set_option maxRecDepth 100000 in
theorem r_d11 : run Go.Proofs.Ythcdiaahpodkoab.numberDrawn.d11 = true := by kernel_rfl
set_option maxRecDepth 100000 in
theorem r_d15 : run Go.Proofs.Ythcdiaahpodkoab.numberDrawn.d15 = true := by kernel_rfl
set_option maxRecDepth 100000 in
theorem r_d19 : run Go.Proofs.Ythcdiaahpodkoab.numberDrawn.d19 = true := by kernel_rfl
set_option maxRecDepth 100000 in
theorem r_d23 : run Go.Proofs.Ythcdiaahpodkoab.numberDrawn.d23 = true := by kernel_rfl
set_option maxRecDepth 100000 in
theorem r_d27 : run Go.Proofs.Ythcdiaahpodkoab.numberDrawn.d27 = true := by kernel_rfl
set_option maxRecDepth 100000 in
theorem r_d31 : run Go.Proofs.Ythcdiaahpodkoab.numberDrawn.d31 = true := by kernel_rfl
set_option maxRecDepth 100000 in
theorem r_d35 : run Go.Proofs.Ythcdiaahpodkoab.numberDrawn.d35 = true := by kernel_rfl
set_option maxRecDepth 100000 in
theorem r_d39 : run Go.Proofs.Ythcdiaahpodkoab.numberDrawn.d39 = true := by kernel_rfl
set_option maxRecDepth 100000 in
theorem r_d43 : run Go.Proofs.Ythcdiaahpodkoab.numberDrawn.d43 = true := by kernel_rfl
set_option maxRecDepth 100000 in
theorem r_d47 : run Go.Proofs.Ythcdiaahpodkoab.numberDrawn.d47 = true := by kernel_rfl
set_option maxRecDepth 100000 in
theorem r_d51 : run Go.Proofs.Ythcdiaahpodkoab.numberDrawn.d51 = true := by kernel_rfl
set_option maxRecDepth 100000 in
theorem r_d55 : run Go.Proofs.Ythcdiaahpodkoab.numberDrawn.d55 = true := by kernel_rfl
set_option maxRecDepth 100000 in
theorem r_d59 : run Go.Proofs.Ythcdiaahpodkoab.numberDrawn.d59 = true := by kernel_rfl
set_option maxRecDepth 100000 in
theorem r_d63 : run Go.Proofs.Ythcdiaahpodkoab.numberDrawn.d63 = true := by kernel_rfl
set_option maxRecDepth 100000 in
theorem r_d67 : run Go.Proofs.Ythcdiaahpodkoab.numberDrawn.d67 = true := by kernel_rfl
set_option maxRecDepth 100000 in
theorem r_d71 : run Go.Proofs.Ythcdiaahpodkoab.numberDrawn.d71 = true := by kernel_rfl
set_option maxRecDepth 100000 in
theorem r_d75 : run Go.Proofs.Ythcdiaahpodkoab.numberDrawn.d75 = true := by kernel_rfl
set_option maxRecDepth 100000 in
theorem r_d79 : run Go.Proofs.Ythcdiaahpodkoab.numberDrawn.d79 = true := by kernel_rfl
set_option maxRecDepth 100000 in
theorem r_d83 : run Go.Proofs.Ythcdiaahpodkoab.numberDrawn.d83 = true := by kernel_rfl
set_option maxRecDepth 100000 in
theorem r_d87 : run Go.Proofs.Ythcdiaahpodkoab.numberDrawn.d87 = true := by kernel_rfl
set_option maxRecDepth 100000 in
theorem r_d91 : run Go.Proofs.Ythcdiaahpodkoab.numberDrawn.d91 = true := by kernel_rfl
set_option maxRecDepth 100000 in
theorem r_d95 : run Go.Proofs.Ythcdiaahpodkoab.numberDrawn.d95 = true := by kernel_rfl
set_option maxRecDepth 100000 in
theorem r_d99 : run Go.Proofs.Ythcdiaahpodkoab.numberDrawn.d99 = true := by kernel_rfl
set_option maxRecDepth 100000 in
theorem r_d103 : run Go.Proofs.Ythcdiaahpodkoab.numberDrawn.d103 = true := by kernel_rfl
set_option maxRecDepth 100000 in
theorem r_d107 : run Go.Proofs.Ythcdiaahpodkoab.numberDrawn.d107 = true := by kernel_rfl
set_option maxRecDepth 100000 in
theorem r_d111 : run Go.Proofs.Ythcdiaahpodkoab.numberDrawn.d111 = true := by kernel_rfl
set_option maxRecDepth 100000 in
theorem r_d115 : run Go.Proofs.Ythcdiaahpodkoab.numberDrawn.d115 = true := by kernel_rfl
end Go.Proofs.Ythcdiaahpodkoab.fnFullRuns
