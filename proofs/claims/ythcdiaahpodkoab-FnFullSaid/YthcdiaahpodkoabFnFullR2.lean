/- Runs of the program at a seat. -/
import Derived.Test.YthcdiaahpodkoabFnFullP
namespace Go.Proofs.Ythcdiaahpodkoab.fnFullRuns
open Go Go.Eng
set_option linter.unusedVariables false
set_option linter.unusedSectionVars false
set_option linter.unusedSimpArgs false
set_option maxRecDepth 100000 in
theorem r_d2 : run Go.Proofs.Ythcdiaahpodkoab.numberDrawn.d2 = true := by kernel_rfl
set_option maxRecDepth 100000 in
theorem r_d6 : run Go.Proofs.Ythcdiaahpodkoab.numberDrawn.d6 = true := by kernel_rfl
set_option maxRecDepth 100000 in
theorem r_d10 : run Go.Proofs.Ythcdiaahpodkoab.numberDrawn.d10 = true := by kernel_rfl
set_option maxRecDepth 100000 in
theorem r_d14 : run Go.Proofs.Ythcdiaahpodkoab.numberDrawn.d14 = true := by kernel_rfl
set_option maxRecDepth 100000 in
theorem r_d18 : run Go.Proofs.Ythcdiaahpodkoab.numberDrawn.d18 = true := by kernel_rfl
set_option maxRecDepth 100000 in
theorem r_d22 : run Go.Proofs.Ythcdiaahpodkoab.numberDrawn.d22 = true := by kernel_rfl
set_option maxRecDepth 100000 in
theorem r_d26 : run Go.Proofs.Ythcdiaahpodkoab.numberDrawn.d26 = true := by kernel_rfl
set_option maxRecDepth 100000 in
theorem r_d30 : run Go.Proofs.Ythcdiaahpodkoab.numberDrawn.d30 = true := by kernel_rfl
set_option maxRecDepth 100000 in
theorem r_d34 : run Go.Proofs.Ythcdiaahpodkoab.numberDrawn.d34 = true := by kernel_rfl
set_option maxRecDepth 100000 in
theorem r_d38 : run Go.Proofs.Ythcdiaahpodkoab.numberDrawn.d38 = true := by kernel_rfl
set_option maxRecDepth 100000 in
theorem r_d42 : run Go.Proofs.Ythcdiaahpodkoab.numberDrawn.d42 = true := by kernel_rfl
set_option maxRecDepth 100000 in
theorem r_d46 : run Go.Proofs.Ythcdiaahpodkoab.numberDrawn.d46 = true := by kernel_rfl
set_option maxRecDepth 100000 in
theorem r_d50 : run Go.Proofs.Ythcdiaahpodkoab.numberDrawn.d50 = true := by kernel_rfl
set_option maxRecDepth 100000 in
theorem r_d54 : run Go.Proofs.Ythcdiaahpodkoab.numberDrawn.d54 = true := by kernel_rfl
set_option maxRecDepth 100000 in
theorem r_d58 : run Go.Proofs.Ythcdiaahpodkoab.numberDrawn.d58 = true := by kernel_rfl
set_option maxRecDepth 100000 in
theorem r_d62 : run Go.Proofs.Ythcdiaahpodkoab.numberDrawn.d62 = true := by kernel_rfl
set_option maxRecDepth 100000 in
theorem r_d66 : run Go.Proofs.Ythcdiaahpodkoab.numberDrawn.d66 = true := by kernel_rfl
set_option maxRecDepth 100000 in
theorem r_d70 : run Go.Proofs.Ythcdiaahpodkoab.numberDrawn.d70 = true := by kernel_rfl
set_option maxRecDepth 100000 in
theorem r_d74 : run Go.Proofs.Ythcdiaahpodkoab.numberDrawn.d74 = true := by kernel_rfl
set_option maxRecDepth 100000 in
theorem r_d78 : run Go.Proofs.Ythcdiaahpodkoab.numberDrawn.d78 = true := by kernel_rfl
set_option maxRecDepth 100000 in
theorem r_d82 : run Go.Proofs.Ythcdiaahpodkoab.numberDrawn.d82 = true := by kernel_rfl
set_option maxRecDepth 100000 in
theorem r_d86 : run Go.Proofs.Ythcdiaahpodkoab.numberDrawn.d86 = true := by kernel_rfl
set_option maxRecDepth 100000 in
theorem r_d90 : run Go.Proofs.Ythcdiaahpodkoab.numberDrawn.d90 = true := by kernel_rfl
set_option maxRecDepth 100000 in
theorem r_d94 : run Go.Proofs.Ythcdiaahpodkoab.numberDrawn.d94 = true := by kernel_rfl
set_option maxRecDepth 100000 in
theorem r_d98 : run Go.Proofs.Ythcdiaahpodkoab.numberDrawn.d98 = true := by kernel_rfl
set_option maxRecDepth 100000 in
theorem r_d102 : run Go.Proofs.Ythcdiaahpodkoab.numberDrawn.d102 = true := by kernel_rfl
set_option maxRecDepth 100000 in
theorem r_d106 : run Go.Proofs.Ythcdiaahpodkoab.numberDrawn.d106 = true := by kernel_rfl
set_option maxRecDepth 100000 in
theorem r_d110 : run Go.Proofs.Ythcdiaahpodkoab.numberDrawn.d110 = true := by kernel_rfl
set_option maxRecDepth 100000 in
theorem r_d114 : run Go.Proofs.Ythcdiaahpodkoab.numberDrawn.d114 = true := by kernel_rfl
end Go.Proofs.Ythcdiaahpodkoab.fnFullRuns
