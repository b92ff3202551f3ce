/- Runs of the program at a seat. -/
import Derived.Test.YthcdiaahpodkoacSumofH
namespace Go.Proofs.Ythcdiaahpodkoac.sumofDrawn
open Go Go.Eng
set_option linter.unusedVariables false
set_option linter.unusedSectionVars false
set_option linter.unusedSimpArgs false
set_option maxRecDepth 100000 in
theorem c6_9 : chkR (anyDrew false ls28) dR (.part 15 fun _ => .three 12348 (.of 400) (.of 400) (.of 400)) [(8203, 9, 9), (4103, 6, 6)] = true := by kernel_rfl
set_option maxRecDepth 100000 in
theorem c5_6 : chkR (anyDrew false ls18) dR (.part 15 fun _ => .three 12348 (.of 400) (.of 400) (.of 400)) [(8199, 6, 6), (4103, 5, 5)] = true := by kernel_rfl
set_option maxRecDepth 100000 in
theorem c5_4 : chkR (anyDrew false ls16) dR (.part 15 fun _ => .three 12348 (.of 400) (.of 400) (.of 400)) [(8199, 4, 4), (4103, 5, 5)] = true := by kernel_rfl
set_option maxRecDepth 100000 in
theorem c6_2 : chkR (anyDrew false ls21) dR (.part 15 fun _ => .three 12348 (.of 400) (.of 400) (.of 400)) [(8203, 2, 2), (4103, 6, 6)] = true := by kernel_rfl
set_option maxRecDepth 100000 in
theorem c4_2 : chkR (anyDrew false ls9) dR (.part 15 fun _ => .three 12348 (.of 400) (.of 400) (.of 400)) [(8197, 2, 2), (4103, 4, 4)] = true := by kernel_rfl
set_option maxRecDepth 100000 in
theorem c4_1 : chkR (anyDrew false ls8) dR (.part 15 fun _ => .three 12348 (.of 400) (.of 400) (.of 400)) [(8197, 1, 1), (4103, 4, 4)] = true := by kernel_rfl
set_option maxRecDepth 100000 in
theorem c2_1 : chkR (anyDrew false ls3) dR (.part 15 fun _ => .three 12348 (.of 400) (.of 400) (.of 400)) [(8194, 1, 1), (4103, 2, 2)] = true := by kernel_rfl
set_option maxRecDepth 100000 in
theorem c0_0 : chkR (anyDrew false ls0) dR (.part 15 fun _ => .three 12348 (.of 400) (.of 400) (.of 400)) [(4103, 0, 0)] = true := by kernel_rfl
end Go.Proofs.Ythcdiaahpodkoac.sumofDrawn
