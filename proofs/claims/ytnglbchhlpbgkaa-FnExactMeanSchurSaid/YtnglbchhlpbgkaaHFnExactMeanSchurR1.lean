/- Runs of the program at a seat. -/
import Derived.Test.YtnglbchhlpbgkaaHFnExactMeanSchurP
namespace Go.Proofs.Ytnglbchhlpbgkaa.fnExactMeanSchurRuns
open Go Go.Eng
set_option linter.unusedVariables false
set_option linter.unusedSectionVars false
set_option linter.unusedSimpArgs false
set_option maxRecDepth 100000
theorem r0_1 : gB (zcs (-5) 10) (fun c => gB (zcs 0 4) (fun d => run (.low (-5)) (.up 5) c d)) = true := by kernel_rfl
theorem r0_5 : gB (zcs (-5) 10) (fun c => gB (zcs 0 4) (fun d => run (.low (-5)) (.is 2) c d)) = true := by kernel_rfl
theorem r0_9 : gB (zcs (-5) 10) (fun c => gB (zcs 0 4) (fun d => run (.low (-5)) (.is (-2)) c d)) = true := by kernel_rfl
theorem r1_0 : gB (zcs (-5) 10) (fun c => gB (zcs 0 4) (fun d => run (.up 5) (.low (-5)) c d)) = true := by kernel_rfl
theorem r1_4 : gB (zcs (-5) 10) (fun c => gB (zcs 0 4) (fun d => run (.up 5) (.is 3) c d)) = true := by kernel_rfl
theorem r1_8 : gB (zcs (-5) 10) (fun c => gB (zcs 0 4) (fun d => run (.up 5) (.is (-1)) c d)) = true := by kernel_rfl
theorem r1_12 : gB (zcs (-5) 10) (fun c => gB (zcs 0 4) (fun d => run (.up 5) (.is (-5)) c d)) = true := by kernel_rfl
theorem r2_3 : gB (zcs (-5) 10) (fun c => gB (zcs 0 4) (fun d => run (.is 5) (.is 4) c d)) = true := by kernel_rfl
theorem r2_7 : gB (zcs (-5) 10) (fun c => gB (zcs 0 4) (fun d => run (.is 5) (.is 0) c d)) = true := by kernel_rfl
theorem r2_11 : gB (zcs (-5) 10) (fun c => gB (zcs 0 4) (fun d => run (.is 5) (.is (-4)) c d)) = true := by kernel_rfl
theorem r3_2 : gB (zcs (-5) 10) (fun c => gB (zcs 0 4) (fun d => run (.is 4) (.is 5) c d)) = true := by kernel_rfl
theorem r3_6 : gB (zcs (-5) 10) (fun c => gB (zcs 0 4) (fun d => run (.is 4) (.is 1) c d)) = true := by kernel_rfl
theorem r3_10 : gB (zcs (-5) 10) (fun c => gB (zcs 0 4) (fun d => run (.is 4) (.is (-3)) c d)) = true := by kernel_rfl
theorem r4_1 : gB (zcs (-5) 10) (fun c => gB (zcs 0 4) (fun d => run (.is 3) (.up 5) c d)) = true := by kernel_rfl
theorem r4_5 : gB (zcs (-5) 10) (fun c => gB (zcs 0 4) (fun d => run (.is 3) (.is 2) c d)) = true := by kernel_rfl
theorem r4_9 : gB (zcs (-5) 10) (fun c => gB (zcs 0 4) (fun d => run (.is 3) (.is (-2)) c d)) = true := by kernel_rfl
theorem r5_0 : gB (zcs (-5) 10) (fun c => gB (zcs 0 4) (fun d => run (.is 2) (.low (-5)) c d)) = true := by kernel_rfl
theorem r5_4 : gB (zcs (-5) 10) (fun c => gB (zcs 0 4) (fun d => run (.is 2) (.is 3) c d)) = true := by kernel_rfl
theorem r5_8 : gB (zcs (-5) 10) (fun c => gB (zcs 0 4) (fun d => run (.is 2) (.is (-1)) c d)) = true := by kernel_rfl
theorem r5_12 : gB (zcs (-5) 10) (fun c => gB (zcs 0 4) (fun d => run (.is 2) (.is (-5)) c d)) = true := by kernel_rfl
theorem r6_3 : gB (zcs (-5) 10) (fun c => gB (zcs 0 4) (fun d => run (.is 1) (.is 4) c d)) = true := by kernel_rfl
theorem r6_7 : gB (zcs (-5) 10) (fun c => gB (zcs 0 4) (fun d => run (.is 1) (.is 0) c d)) = true := by kernel_rfl
theorem r6_11 : gB (zcs (-5) 10) (fun c => gB (zcs 0 4) (fun d => run (.is 1) (.is (-4)) c d)) = true := by kernel_rfl
theorem r7_2 : gB (zcs (-5) 10) (fun c => gB (zcs 0 4) (fun d => run (.is 0) (.is 5) c d)) = true := by kernel_rfl
theorem r7_6 : gB (zcs (-5) 10) (fun c => gB (zcs 0 4) (fun d => run (.is 0) (.is 1) c d)) = true := by kernel_rfl
theorem r7_10 : gB (zcs (-5) 10) (fun c => gB (zcs 0 4) (fun d => run (.is 0) (.is (-3)) c d)) = true := by kernel_rfl
theorem r8_1 : gB (zcs (-5) 10) (fun c => gB (zcs 0 4) (fun d => run (.is (-1)) (.up 5) c d)) = true := by kernel_rfl
theorem r8_5 : gB (zcs (-5) 10) (fun c => gB (zcs 0 4) (fun d => run (.is (-1)) (.is 2) c d)) = true := by kernel_rfl
theorem r8_9 : gB (zcs (-5) 10) (fun c => gB (zcs 0 4) (fun d => run (.is (-1)) (.is (-2)) c d)) = true := by kernel_rfl
theorem r9_0 : gB (zcs (-5) 10) (fun c => gB (zcs 0 4) (fun d => run (.is (-2)) (.low (-5)) c d)) = true := by kernel_rfl
theorem r9_4 : gB (zcs (-5) 10) (fun c => gB (zcs 0 4) (fun d => run (.is (-2)) (.is 3) c d)) = true := by kernel_rfl
theorem r9_8 : gB (zcs (-5) 10) (fun c => gB (zcs 0 4) (fun d => run (.is (-2)) (.is (-1)) c d)) = true := by kernel_rfl
theorem r9_12 : gB (zcs (-5) 10) (fun c => gB (zcs 0 4) (fun d => run (.is (-2)) (.is (-5)) c d)) = true := by kernel_rfl
theorem r10_3 : gB (zcs (-5) 10) (fun c => gB (zcs 0 4) (fun d => run (.is (-3)) (.is 4) c d)) = true := by kernel_rfl
theorem r10_7 : gB (zcs (-5) 10) (fun c => gB (zcs 0 4) (fun d => run (.is (-3)) (.is 0) c d)) = true := by kernel_rfl
theorem r10_11 : gB (zcs (-5) 10) (fun c => gB (zcs 0 4) (fun d => run (.is (-3)) (.is (-4)) c d)) = true := by kernel_rfl
theorem r11_2 : gB (zcs (-5) 10) (fun c => gB (zcs 0 4) (fun d => run (.is (-4)) (.is 5) c d)) = true := by kernel_rfl
theorem r11_6 : gB (zcs (-5) 10) (fun c => gB (zcs 0 4) (fun d => run (.is (-4)) (.is 1) c d)) = true := by kernel_rfl
theorem r11_10 : gB (zcs (-5) 10) (fun c => gB (zcs 0 4) (fun d => run (.is (-4)) (.is (-3)) c d)) = true := by kernel_rfl
theorem r12_1 : gB (zcs (-5) 10) (fun c => gB (zcs 0 4) (fun d => run (.is (-5)) (.up 5) c d)) = true := by kernel_rfl
theorem r12_5 : gB (zcs (-5) 10) (fun c => gB (zcs 0 4) (fun d => run (.is (-5)) (.is 2) c d)) = true := by kernel_rfl
theorem r12_9 : gB (zcs (-5) 10) (fun c => gB (zcs 0 4) (fun d => run (.is (-5)) (.is (-2)) c d)) = true := by kernel_rfl
end Go.Proofs.Ytnglbchhlpbgkaa.fnExactMeanSchurRuns
