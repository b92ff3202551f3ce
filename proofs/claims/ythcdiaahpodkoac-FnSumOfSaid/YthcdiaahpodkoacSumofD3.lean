/- Runs of the program at a seat. -/
import Derived.Test.YthcdiaahpodkoacSumofH
namespace Go.Proofs.Ythcdiaahpodkoac.sumofDrawn
open Go Go.Eng
set_option linter.unusedVariables false
set_option linter.unusedSectionVars false
set_option linter.unusedSimpArgs false
set_option maxRecDepth 100000 in
theorem c6_7 : chkR (anyDrew false ls26) dR (.part 15 fun _ => .three 12348 (.of 400) (.of 400) (.of 400)) [(8203, 7, 7), (4103, 6, 6)] = true := by kernel_rfl
set_option maxRecDepth 100000 in
theorem c5_5 : chkR (anyDrew false ls17) dR (.part 15 fun _ => .three 12348 (.of 400) (.of 400) (.of 400)) [(8199, 5, 5), (4103, 5, 5)] = true := by kernel_rfl
set_option maxRecDepth 100000 in
theorem c4_4 : chkR (anyDrew false ls11) dR (.part 15 fun _ => .three 12348 (.of 400) (.of 400) (.of 400)) [(8197, 4, 4), (4103, 4, 4)] = true := by kernel_rfl
set_option maxRecDepth 100000 in
theorem c5_2 : chkR (anyDrew false ls14) dR (.part 15 fun _ => .three 12348 (.of 400) (.of 400) (.of 400)) [(8199, 2, 2), (4103, 5, 5)] = true := by kernel_rfl
set_option maxRecDepth 100000 in
theorem c6_0 : chkR (anyDrew false ls19) dR (.part 15 fun _ => .three 12348 (.of 400) (.of 400) (.of 400)) [(8203, 0, 0), (4103, 6, 6)] = true := by kernel_rfl
set_option maxRecDepth 100000 in
theorem c3_1 : chkR (anyDrew false ls5) dR (.part 15 fun _ => .three 12348 (.of 400) (.of 400) (.of 400)) [(8195, 1, 1), (4103, 3, 3)] = true := by kernel_rfl
set_option maxRecDepth 100000 in
theorem c2_0 : chkR (anyDrew false ls2) dR (.part 15 fun _ => .three 12348 (.of 400) (.of 400) (.of 400)) [(8194, 0, 0), (4103, 2, 2)] = true := by kernel_rfl
end Go.Proofs.Ythcdiaahpodkoac.sumofDrawn
