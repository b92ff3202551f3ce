/- Runs of the program at a seat. -/
import Derived.Test.YthcdiaahpodkoabFnFullP
namespace Go.Proofs.Ythcdiaahpodkoab.fnFullRuns
open Go Go.Eng
set_option linter.unusedVariables false
set_option linter.unusedSectionVars false
set_option linter.unusedSimpArgs false
set_option maxRecDepth 100000 in
theorem r_d0 : run Go.Proofs.Ythcdiaahpodkoab.numberDrawn.d0 = true := by kernel_rfl
set_option maxRecDepth 100000 in
theorem r_d4 : run Go.Proofs.Ythcdiaahpodkoab.numberDrawn.d4 = true := by kernel_rfl
set_option maxRecDepth 100000 in
theorem r_d8 : run Go.Proofs.Ythcdiaahpodkoab.numberDrawn.d8 = true := by kernel_rfl
set_option maxRecDepth 100000 in
theorem r_d12 : run Go.Proofs.Ythcdiaahpodkoab.numberDrawn.d12 = true := by kernel_rfl
set_option maxRecDepth 100000 in
theorem r_d16 : run Go.Proofs.Ythcdiaahpodkoab.numberDrawn.d16 = true := by kernel_rfl
set_option maxRecDepth 100000 in
theorem r_d20 : run Go.Proofs.Ythcdiaahpodkoab.numberDrawn.d20 = true := by kernel_rfl
set_option maxRecDepth 100000 in
theorem r_d24 : run Go.Proofs.Ythcdiaahpodkoab.numberDrawn.d24 = true := by kernel_rfl
set_option maxRecDepth 100000 in
theorem r_d28 : run Go.Proofs.Ythcdiaahpodkoab.numberDrawn.d28 = true := by kernel_rfl
set_option maxRecDepth 100000 in
theorem r_d32 : run Go.Proofs.Ythcdiaahpodkoab.numberDrawn.d32 = true := by kernel_rfl
set_option maxRecDepth 100000 in
theorem r_d36 : run Go.Proofs.Ythcdiaahpodkoab.numberDrawn.d36 = true := by kernel_rfl
set_option maxRecDepth 100000 in
theorem r_d40 : run Go.Proofs.Ythcdiaahpodkoab.numberDrawn.d40 = true := by kernel_rfl
set_option maxRecDepth 100000 in
theorem r_d44 : run Go.Proofs.Ythcdiaahpodkoab.numberDrawn.d44 = true := by kernel_rfl
set_option maxRecDepth 100000 in
theorem r_d48 : run Go.Proofs.Ythcdiaahpodkoab.numberDrawn.d48 = true := by kernel_rfl
set_option maxRecDepth 100000 in
theorem r_d52 : run Go.Proofs.Ythcdiaahpodkoab.numberDrawn.d52 = true := by kernel_rfl
set_option maxRecDepth 100000 in
theorem r_d56 : run Go.Proofs.Ythcdiaahpodkoab.numberDrawn.d56 = true := by kernel_rfl
set_option maxRecDepth 100000 in
theorem r_d60 : run Go.Proofs.Ythcdiaahpodkoab.numberDrawn.d60 = true := by kernel_rfl
set_option maxRecDepth 100000 in
theorem r_d64 : run Go.Proofs.Ythcdiaahpodkoab.numberDrawn.d64 = true := by kernel_rfl
set_option maxRecDepth 100000 in
theorem r_d68 : run Go.Proofs.Ythcdiaahpodkoab.numberDrawn.d68 = true := by kernel_rfl
set_option maxRecDepth 100000 in
theorem r_d72 : run Go.Proofs.Ythcdiaahpodkoab.numberDrawn.d72 = true := by kernel_rfl
set_option maxRecDepth 100000 in
theorem r_d76 : run Go.Proofs.Ythcdiaahpodkoab.numberDrawn.d76 = true := by kernel_rfl
set_option maxRecDepth 100000 in
theorem r_d80 : run Go.Proofs.Ythcdiaahpodkoab.numberDrawn.d80 = true := by kernel_rfl
set_option maxRecDepth 100000 in
theorem r_d84 : run Go.Proofs.Ythcdiaahpodkoab.numberDrawn.d84 = true := by kernel_rfl
set_option maxRecDepth 100000 in
theorem r_d88 : run Go.Proofs.Ythcdiaahpodkoab.numberDrawn.d88 = true := by kernel_rfl
set_option maxRecDepth 100000 in
theorem r_d92 : run Go.Proofs.Ythcdiaahpodkoab.numberDrawn.d92 = true := by kernel_rfl
set_option maxRecDepth 100000 in
theorem r_d96 : run Go.Proofs.Ythcdiaahpodkoab.numberDrawn.d96 = true := by kernel_rfl
set_option maxRecDepth 100000 in
theorem r_d100 : run Go.Proofs.Ythcdiaahpodkoab.numberDrawn.d100 = true := by kernel_rfl
set_option maxRecDepth 100000 in
theorem r_d104 : run Go.Proofs.Ythcdiaahpodkoab.numberDrawn.d104 = true := by kernel_rfl
set_option maxRecDepth 100000 in
theorem r_d108 : run Go.Proofs.Ythcdiaahpodkoab.numberDrawn.d108 = true := by kernel_rfl
set_option maxRecDepth 100000 in
theorem r_d112 : run Go.Proofs.Ythcdiaahpodkoab.numberDrawn.d112 = true := by kernel_rfl
set_option maxRecDepth 100000 in
theorem r_d116 : run Go.Proofs.Ythcdiaahpodkoab.numberDrawn.d116 = true := by kernel_rfl
end Go.Proofs.Ythcdiaahpodkoab.fnFullRuns
