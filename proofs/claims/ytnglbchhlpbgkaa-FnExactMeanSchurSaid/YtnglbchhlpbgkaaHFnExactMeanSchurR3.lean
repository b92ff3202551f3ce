/- Runs of the program at a seat. -/
import Derived.Test.YtnglbchhlpbgkaaHFnExactMeanSchurP
namespace Go.Proofs.Ytnglbchhlpbgkaa.fnExactMeanSchurRuns
open Go Go.Eng
set_option linter.unusedVariables false
set_option linter.unusedSectionVars false
set_option linter.unusedSimpArgs false
set_option maxRecDepth 100000
theorem r0_3 : gB (zcs (-5) 10) (fun c => gB (zcs 0 4) (fun d => run (.low (-5)) (.is 4) c d)) = true := by kernel_rfl
theorem r0_7 : gB (zcs (-5) 10) (fun c => gB (zcs 0 4) (fun d => run (.low (-5)) (.is 0) c d)) = true := by kernel_rfl
theorem r0_11 : gB (zcs (-5) 10) (fun c => gB (zcs 0 4) (fun d => run (.low (-5)) (.is (-4)) c d)) = true := by kernel_rfl
theorem r1_2 : gB (zcs (-5) 10) (fun c => gB (zcs 0 4) (fun d => run (.up 5) (.is 5) c d)) = true := by kernel_rfl
theorem r1_6 : gB (zcs (-5) 10) (fun c => gB (zcs 0 4) (fun d => run (.up 5) (.is 1) c d)) = true := by kernel_rfl
theorem r1_10 : gB (zcs (-5) 10) (fun c => gB (zcs 0 4) (fun d => run (.up 5) (.is (-3)) c d)) = true := by kernel_rfl
theorem r2_1 : gB (zcs (-5) 10) (fun c => gB (zcs 0 4) (fun d => run (.is 5) (.up 5) c d)) = true := by kernel_rfl
theorem r2_5 : gB (zcs (-5) 10) (fun c => gB (zcs 0 4) (fun d => run (.is 5) (.is 2) c d)) = true := by kernel_rfl
theorem r2_9 : gB (zcs (-5) 10) (fun c => gB (zcs 0 4) (fun d => run (.is 5) (.is (-2)) c d)) = true := by kernel_rfl
theorem r3_0 : gB (zcs (-5) 10) (fun c => gB (zcs 0 4) (fun d => run (.is 4) (.low (-5)) c d)) = true := by kernel_rfl
theorem r3_4 : gB (zcs (-5) 10) (fun c => gB (zcs 0 4) (fun d => run (.is 4) (.is 3) c d)) = true := by kernel_rfl
theorem r3_8 : gB (zcs (-5) 10) (fun c => gB (zcs 0 4) (fun d => run (.is 4) (.is (-1)) c d)) = true := by kernel_rfl
theorem r3_12 : gB (zcs (-5) 10) (fun c => gB (zcs 0 4) (fun d => run (.is 4) (.is (-5)) c d)) = true := by kernel_rfl
theorem r4_3 : gB (zcs (-5) 10) (fun c => gB (zcs 0 4) (fun d => run (.is 3) (.is 4) c d)) = true := by kernel_rfl
theorem r4_7 : gB (zcs (-5) 10) (fun c => gB (zcs 0 4) (fun d => run (.is 3) (.is 0) c d)) = true := by kernel_rfl
theorem r4_11 : gB (zcs (-5) 10) (fun c => gB (zcs 0 4) (fun d => run (.is 3) (.is (-4)) c d)) = true := by kernel_rfl
theorem r5_2 : gB (zcs (-5) 10) (fun c => gB (zcs 0 4) (fun d => run (.is 2) (.is 5) c d)) = true := by kernel_rfl
theorem r5_6 : gB (zcs (-5) 10) (fun c => gB (zcs 0 4) (fun d => run (.is 2) (.is 1) c d)) = true := by kernel_rfl
theorem r5_10 : gB (zcs (-5) 10) (fun c => gB (zcs 0 4) (fun d => run (.is 2) (.is (-3)) c d)) = true := by kernel_rfl
theorem r6_1 : gB (zcs (-5) 10) (fun c => gB (zcs 0 4) (fun d => run (.is 1) (.up 5) c d)) = true := by kernel_rfl
theorem r6_5 : gB (zcs (-5) 10) (fun c => gB (zcs 0 4) (fun d => run (.is 1) (.is 2) c d)) = true := by kernel_rfl
theorem r6_9 : gB (zcs (-5) 10) (fun c => gB (zcs 0 4) (fun d => run (.is 1) (.is (-2)) c d)) = true := by kernel_rfl
theorem r7_0 : gB (zcs (-5) 10) (fun c => gB (zcs 0 4) (fun d => run (.is 0) (.low (-5)) c d)) = true := by kernel_rfl
theorem r7_4 : gB (zcs (-5) 10) (fun c => gB (zcs 0 4) (fun d => run (.is 0) (.is 3) c d)) = true := by kernel_rfl
theorem r7_8 : gB (zcs (-5) 10) (fun c => gB (zcs 0 4) (fun d => run (.is 0) (.is (-1)) c d)) = true := by kernel_rfl
theorem r7_12 : gB (zcs (-5) 10) (fun c => gB (zcs 0 4) (fun d => run (.is 0) (.is (-5)) c d)) = true := by kernel_rfl
theorem r8_3 : gB (zcs (-5) 10) (fun c => gB (zcs 0 4) (fun d => run (.is (-1)) (.is 4) c d)) = true := by kernel_rfl
theorem r8_7 : gB (zcs (-5) 10) (fun c => gB (zcs 0 4) (fun d => run (.is (-1)) (.is 0) c d)) = true := by kernel_rfl
theorem r8_11 : gB (zcs (-5) 10) (fun c => gB (zcs 0 4) (fun d => run (.is (-1)) (.is (-4)) c d)) = true := by kernel_rfl
theorem r9_2 : gB (zcs (-5) 10) (fun c => gB (zcs 0 4) (fun d => run (.is (-2)) (.is 5) c d)) = true := by kernel_rfl
theorem r9_6 : gB (zcs (-5) 10) (fun c => gB (zcs 0 4) (fun d => run (.is (-2)) (.is 1) c d)) = true := by kernel_rfl
theorem r9_10 : gB (zcs (-5) 10) (fun c => gB (zcs 0 4) (fun d => run (.is (-2)) (.is (-3)) c d)) = true := by kernel_rfl
theorem r10_1 : gB (zcs (-5) 10) (fun c => gB (zcs 0 4) (fun d => run (.is (-3)) (.up 5) c d)) = true := by kernel_rfl
theorem r10_5 : gB (zcs (-5) 10) (fun c => gB (zcs 0 4) (fun d => run (.is (-3)) (.is 2) c d)) = true := by kernel_rfl
theorem r10_9 : gB (zcs (-5) 10) (fun c => gB (zcs 0 4) (fun d => run (.is (-3)) (.is (-2)) c d)) = true := by kernel_rfl
theorem r11_0 : gB (zcs (-5) 10) (fun c => gB (zcs 0 4) (fun d => run (.is (-4)) (.low (-5)) c d)) = true := by kernel_rfl
theorem r11_4 : gB (zcs (-5) 10) (fun c => gB (zcs 0 4) (fun d => run (.is (-4)) (.is 3) c d)) = true := by kernel_rfl
theorem r11_8 : gB (zcs (-5) 10) (fun c => gB (zcs 0 4) (fun d => run (.is (-4)) (.is (-1)) c d)) = true := by kernel_rfl
theorem r11_12 : gB (zcs (-5) 10) (fun c => gB (zcs 0 4) (fun d => run (.is (-4)) (.is (-5)) c d)) = true := by kernel_rfl
theorem r12_3 : gB (zcs (-5) 10) (fun c => gB (zcs 0 4) (fun d => run (.is (-5)) (.is 4) c d)) = true := by kernel_rfl
theorem r12_7 : gB (zcs (-5) 10) (fun c => gB (zcs 0 4) (fun d => run (.is (-5)) (.is 0) c d)) = true := by kernel_rfl
theorem r12_11 : gB (zcs (-5) 10) (fun c => gB (zcs 0 4) (fun d => run (.is (-5)) (.is (-4)) c d)) = true := by kernel_rfl
end Go.Proofs.Ytnglbchhlpbgkaa.fnExactMeanSchurRuns
