/- Runs of the program at a seat. -/
import Derived.Test.YthcdiaahpodkoacSumofH
namespace Go.Proofs.Ythcdiaahpodkoac.sumofDrawn
open Go Go.Eng
set_option linter.unusedVariables false
set_option linter.unusedSectionVars false
set_option linter.unusedSimpArgs false
set_option maxRecDepth 100000 in
theorem c6_10 : chkR (anyDrew false ls29) dR (.part 15 fun _ => .three 12348 (.of 400) (.of 400) (.of 400)) [(8203, 10, 10), (4103, 6, 6)] = true := by kernel_rfl
set_option maxRecDepth 100000 in
theorem c6_6 : chkR (anyDrew false ls25) dR (.part 15 fun _ => .three 12348 (.of 400) (.of 400) (.of 400)) [(8203, 6, 6), (4103, 6, 6)] = true := by kernel_rfl
set_option maxRecDepth 100000 in
theorem c6_4 : chkR (anyDrew false ls23) dR (.part 15 fun _ => .three 12348 (.of 400) (.of 400) (.of 400)) [(8203, 4, 4), (4103, 6, 6)] = true := by kernel_rfl
set_option maxRecDepth 100000 in
theorem c5_3 : chkR (anyDrew false ls15) dR (.part 15 fun _ => .three 12348 (.of 400) (.of 400) (.of 400)) [(8199, 3, 3), (4103, 5, 5)] = true := by kernel_rfl
set_option maxRecDepth 100000 in
theorem c6_1 : chkR (anyDrew false ls20) dR (.part 15 fun _ => .three 12348 (.of 400) (.of 400) (.of 400)) [(8203, 1, 1), (4103, 6, 6)] = true := by kernel_rfl
set_option maxRecDepth 100000 in
theorem c3_2 : chkR (anyDrew false ls6) dR (.part 15 fun _ => .three 12348 (.of 400) (.of 400) (.of 400)) [(8195, 2, 2), (4103, 3, 3)] = true := by kernel_rfl
set_option maxRecDepth 100000 in
theorem c4_0 : chkR (anyDrew false ls7) dR (.part 15 fun _ => .three 12348 (.of 400) (.of 400) (.of 400)) [(8197, 0, 0), (4103, 4, 4)] = true := by kernel_rfl
set_option maxRecDepth 100000 in
theorem c1_0 : chkR (anyDrew false ls1) dR (.part 15 fun _ => .three 12348 (.of 400) (.of 400) (.of 400)) [(4103, 1, 1)] = true := by kernel_rfl
end Go.Proofs.Ythcdiaahpodkoac.sumofDrawn
