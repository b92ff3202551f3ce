/- Runs of the program at a seat. -/
import Derived.Test.YtnglbchhlpbgkaaHFnExactMeanSchurP
namespace Go.Proofs.Ytnglbchhlpbgkaa.fnExactMeanSchurRuns
open Go Go.Eng
set_option linter.unusedVariables false
set_option linter.unusedSectionVars false
set_option linter.unusedSimpArgs false
set_option maxRecDepth 100000
theorem r0_0 : gB (zcs (-5) 10) (fun c => gB (zcs 0 4) (fun d => run (.low (-5)) (.low (-5)) c d)) = true := by kernel_rfl
theorem r0_4 : gB (zcs (-5) 10) (fun c => gB (zcs 0 4) (fun d => run (.low (-5)) (.is 3) c d)) = true := by kernel_rfl
theorem r0_8 : gB (zcs (-5) 10) (fun c => gB (zcs 0 4) (fun d => run (.low (-5)) (.is (-1)) c d)) = true := by kernel_rfl
theorem r0_12 : gB (zcs (-5) 10) (fun c => gB (zcs 0 4) (fun d => run (.low (-5)) (.is (-5)) c d)) = true := by kernel_rfl
theorem r1_3 : gB (zcs (-5) 10) (fun c => gB (zcs 0 4) (fun d => run (.up 5) (.is 4) c d)) = true := by kernel_rfl
theorem r1_7 : gB (zcs (-5) 10) (fun c => gB (zcs 0 4) (fun d => run (.up 5) (.is 0) c d)) = true := by kernel_rfl
theorem r1_11 : gB (zcs (-5) 10) (fun c => gB (zcs 0 4) (fun d => run (.up 5) (.is (-4)) c d)) = true := by kernel_rfl
theorem r2_2 : gB (zcs (-5) 10) (fun c => gB (zcs 0 4) (fun d => run (.is 5) (.is 5) c d)) = true := by kernel_rfl
theorem r2_6 : gB (zcs (-5) 10) (fun c => gB (zcs 0 4) (fun d => run (.is 5) (.is 1) c d)) = true := by kernel_rfl
theorem r2_10 : gB (zcs (-5) 10) (fun c => gB (zcs 0 4) (fun d => run (.is 5) (.is (-3)) c d)) = true := by kernel_rfl
theorem r3_1 : gB (zcs (-5) 10) (fun c => gB (zcs 0 4) (fun d => run (.is 4) (.up 5) c d)) = true := by kernel_rfl
theorem r3_5 : gB (zcs (-5) 10) (fun c => gB (zcs 0 4) (fun d => run (.is 4) (.is 2) c d)) = true := by kernel_rfl
theorem r3_9 : gB (zcs (-5) 10) (fun c => gB (zcs 0 4) (fun d => run (.is 4) (.is (-2)) c d)) = true := by kernel_rfl
theorem r4_0 : gB (zcs (-5) 10) (fun c => gB (zcs 0 4) (fun d => run (.is 3) (.low (-5)) c d)) = true := by kernel_rfl
theorem r4_4 : gB (zcs (-5) 10) (fun c => gB (zcs 0 4) (fun d => run (.is 3) (.is 3) c d)) = true := by kernel_rfl
theorem r4_8 : gB (zcs (-5) 10) (fun c => gB (zcs 0 4) (fun d => run (.is 3) (.is (-1)) c d)) = true := by kernel_rfl
theorem r4_12 : gB (zcs (-5) 10) (fun c => gB (zcs 0 4) (fun d => run (.is 3) (.is (-5)) c d)) = true := by kernel_rfl
theorem r5_3 : gB (zcs (-5) 10) (fun c => gB (zcs 0 4) (fun d => run (.is 2) (.is 4) c d)) = true := by kernel_rfl
theorem r5_7 : gB (zcs (-5) 10) (fun c => gB (zcs 0 4) (fun d => run (.is 2) (.is 0) c d)) = true := by kernel_rfl
theorem r5_11 : gB (zcs (-5) 10) (fun c => gB (zcs 0 4) (fun d => run (.is 2) (.is (-4)) c d)) = true := by kernel_rfl
theorem r6_2 : gB (zcs (-5) 10) (fun c => gB (zcs 0 4) (fun d => run (.is 1) (.is 5) c d)) = true := by kernel_rfl
theorem r6_6 : gB (zcs (-5) 10) (fun c => gB (zcs 0 4) (fun d => run (.is 1) (.is 1) c d)) = true := by kernel_rfl
theorem r6_10 : gB (zcs (-5) 10) (fun c => gB (zcs 0 4) (fun d => run (.is 1) (.is (-3)) c d)) = true := by kernel_rfl
theorem r7_1 : gB (zcs (-5) 10) (fun c => gB (zcs 0 4) (fun d => run (.is 0) (.up 5) c d)) = true := by kernel_rfl
theorem r7_5 : gB (zcs (-5) 10) (fun c => gB (zcs 0 4) (fun d => run (.is 0) (.is 2) c d)) = true := by kernel_rfl
theorem r7_9 : gB (zcs (-5) 10) (fun c => gB (zcs 0 4) (fun d => run (.is 0) (.is (-2)) c d)) = true := by kernel_rfl
theorem r8_0 : gB (zcs (-5) 10) (fun c => gB (zcs 0 4) (fun d => run (.is (-1)) (.low (-5)) c d)) = true := by kernel_rfl
theorem r8_4 : gB (zcs (-5) 10) (fun c => gB (zcs 0 4) (fun d => run (.is (-1)) (.is 3) c d)) = true := by kernel_rfl
theorem r8_8 : gB (zcs (-5) 10) (fun c => gB (zcs 0 4) (fun d => run (.is (-1)) (.is (-1)) c d)) = true := by kernel_rfl
theorem r8_12 : gB (zcs (-5) 10) (fun c => gB (zcs 0 4) (fun d => run (.is (-1)) (.is (-5)) c d)) = true := by kernel_rfl
theorem r9_3 : gB (zcs (-5) 10) (fun c => gB (zcs 0 4) (fun d => run (.is (-2)) (.is 4) c d)) = true := by kernel_rfl
theorem r9_7 : gB (zcs (-5) 10) (fun c => gB (zcs 0 4) (fun d => run (.is (-2)) (.is 0) c d)) = true := by kernel_rfl
theorem r9_11 : gB (zcs (-5) 10) (fun c => gB (zcs 0 4) (fun d => run (.is (-2)) (.is (-4)) c d)) = true := by kernel_rfl
theorem r10_2 : gB (zcs (-5) 10) (fun c => gB (zcs 0 4) (fun d => run (.is (-3)) (.is 5) c d)) = true := by kernel_rfl
theorem r10_6 : gB (zcs (-5) 10) (fun c => gB (zcs 0 4) (fun d => run (.is (-3)) (.is 1) c d)) = true := by kernel_rfl
theorem r10_10 : gB (zcs (-5) 10) (fun c => gB (zcs 0 4) (fun d => run (.is (-3)) (.is (-3)) c d)) = true := by kernel_rfl
theorem r11_1 : gB (zcs (-5) 10) (fun c => gB (zcs 0 4) (fun d => run (.is (-4)) (.up 5) c d)) = true := by kernel_rfl
theorem r11_5 : gB (zcs (-5) 10) (fun c => gB (zcs 0 4) (fun d => run (.is (-4)) (.is 2) c d)) = true := by kernel_rfl
theorem r11_9 : gB (zcs (-5) 10) (fun c => gB (zcs 0 4) (fun d => run (.is (-4)) (.is (-2)) c d)) = true := by kernel_rfl
theorem r12_0 : gB (zcs (-5) 10) (fun c => gB (zcs 0 4) (fun d => run (.is (-5)) (.low (-5)) c d)) = true := by kernel_rfl
theorem r12_4 : gB (zcs (-5) 10) (fun c => gB (zcs 0 4) (fun d => run (.is (-5)) (.is 3) c d)) = true := by kernel_rfl
theorem r12_8 : gB (zcs (-5) 10) (fun c => gB (zcs 0 4) (fun d => run (.is (-5)) (.is (-1)) c d)) = true := by kernel_rfl
theorem r12_12 : gB (zcs (-5) 10) (fun c => gB (zcs 0 4) (fun d => run (.is (-5)) (.is (-5)) c d)) = true := by kernel_rfl
end Go.Proofs.Ytnglbchhlpbgkaa.fnExactMeanSchurRuns
