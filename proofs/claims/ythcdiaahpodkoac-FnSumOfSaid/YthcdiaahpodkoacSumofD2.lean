/- Runs of the program at a seat. -/
import Derived.Test.YthcdiaahpodkoacSumofH
namespace Go.Proofs.Ythcdiaahpodkoac.sumofDrawn
open Go Go.Eng
set_option linter.unusedVariables false
set_option linter.unusedSectionVars false
set_option linter.unusedSimpArgs false
set_option maxRecDepth 100000 in
theorem c6_8 : chkR (anyDrew false ls27) dR (.part 15 fun _ => .three 12348 (.of 400) (.of 400) (.of 400)) [(8203, 8, 8), (4103, 6, 6)] = true := by kernel_rfl
set_option maxRecDepth 100000 in
theorem c6_5 : chkR (anyDrew false ls24) dR (.part 15 fun _ => .three 12348 (.of 400) (.of 400) (.of 400)) [(8203, 5, 5), (4103, 6, 6)] = true := by kernel_rfl
set_option maxRecDepth 100000 in
theorem c6_3 : chkR (anyDrew false ls22) dR (.part 15 fun _ => .three 12348 (.of 400) (.of 400) (.of 400)) [(8203, 3, 3), (4103, 6, 6)] = true := by kernel_rfl
set_option maxRecDepth 100000 in
theorem c4_3 : chkR (anyDrew false ls10) dR (.part 15 fun _ => .three 12348 (.of 400) (.of 400) (.of 400)) [(8197, 3, 3), (4103, 4, 4)] = true := by kernel_rfl
set_option maxRecDepth 100000 in
theorem c5_1 : chkR (anyDrew false ls13) dR (.part 15 fun _ => .three 12348 (.of 400) (.of 400) (.of 400)) [(8199, 1, 1), (4103, 5, 5)] = true := by kernel_rfl
set_option maxRecDepth 100000 in
theorem c5_0 : chkR (anyDrew false ls12) dR (.part 15 fun _ => .three 12348 (.of 400) (.of 400) (.of 400)) [(8199, 0, 0), (4103, 5, 5)] = true := by kernel_rfl
set_option maxRecDepth 100000 in
theorem c3_0 : chkR (anyDrew false ls4) dR (.part 15 fun _ => .three 12348 (.of 400) (.of 400) (.of 400)) [(8195, 0, 0), (4103, 3, 3)] = true := by kernel_rfl
end Go.Proofs.Ythcdiaahpodkoac.sumofDrawn
