/- Runs of the program at a seat. -/
import Derived.Test.YtnglbchhlpbgkaaHFnExactMeanSchurP
namespace Go.Proofs.Ytnglbchhlpbgkaa.fnExactMeanSchurRuns
open Go Go.Eng
set_option linter.unusedVariables false
set_option linter.unusedSectionVars false
set_option linter.unusedSimpArgs false
set_option maxRecDepth 100000
theorem r0_2 : gB (zcs (-5) 10) (fun c => gB (zcs 0 4) (fun d => run (.low (-5)) (.is 5) c d)) = true := by kernel_rfl
theorem r0_6 : gB (zcs (-5) 10) (fun c => gB (zcs 0 4) (fun d => run (.low (-5)) (.is 1) c d)) = true := by kernel_rfl
theorem r0_10 : gB (zcs (-5) 10) (fun c => gB (zcs 0 4) (fun d => run (.low (-5)) (.is (-3)) c d)) = true := by kernel_rfl
theorem r1_1 : gB (zcs (-5) 10) (fun c => gB (zcs 0 4) (fun d => run (.up 5) (.up 5) c d)) = true := by kernel_rfl
theorem r1_5 : gB (zcs (-5) 10) (fun c => gB (zcs 0 4) (fun d => run (.up 5) (.is 2) c d)) = true := by kernel_rfl
theorem r1_9 : gB (zcs (-5) 10) (fun c => gB (zcs 0 4) (fun d => run (.up 5) (.is (-2)) c d)) = true := by kernel_rfl
theorem r2_0 : gB (zcs (-5) 10) (fun c => gB (zcs 0 4) (fun d => run (.is 5) (.low (-5)) c d)) = true := by kernel_rfl
theorem r2_4 : gB (zcs (-5) 10) (fun c => gB (zcs 0 4) (fun d => run (.is 5) (.is 3) c d)) = true := by kernel_rfl
theorem r2_8 : gB (zcs (-5) 10) (fun c => gB (zcs 0 4) (fun d => run (.is 5) (.is (-1)) c d)) = true := by kernel_rfl
theorem r2_12 : gB (zcs (-5) 10) (fun c => gB (zcs 0 4) (fun d => run (.is 5) (.is (-5)) c d)) = true := by kernel_rfl
theorem r3_3 : gB (zcs (-5) 10) (fun c => gB (zcs 0 4) (fun d => run (.is 4) (.is 4) c d)) = true := by kernel_rfl
theorem r3_7 : gB (zcs (-5) 10) (fun c => gB (zcs 0 4) (fun d => run (.is 4) (.is 0) c d)) = true := by kernel_rfl
theorem r3_11 : gB (zcs (-5) 10) (fun c => gB (zcs 0 4) (fun d => run (.is 4) (.is (-4)) c d)) = true := by kernel_rfl
theorem r4_2 : gB (zcs (-5) 10) (fun c => gB (zcs 0 4) (fun d => run (.is 3) (.is 5) c d)) = true := by kernel_rfl
theorem r4_6 : gB (zcs (-5) 10) (fun c => gB (zcs 0 4) (fun d => run (.is 3) (.is 1) c d)) = true := by kernel_rfl
theorem r4_10 : gB (zcs (-5) 10) (fun c => gB (zcs 0 4) (fun d => run (.is 3) (.is (-3)) c d)) = true := by kernel_rfl
theorem r5_1 : gB (zcs (-5) 10) (fun c => gB (zcs 0 4) (fun d => run (.is 2) (.up 5) c d)) = true := by kernel_rfl
theorem r5_5 : gB (zcs (-5) 10) (fun c => gB (zcs 0 4) (fun d => run (.is 2) (.is 2) c d)) = true := by kernel_rfl
theorem r5_9 : gB (zcs (-5) 10) (fun c => gB (zcs 0 4) (fun d => run (.is 2) (.is (-2)) c d)) = true := by kernel_rfl
theorem r6_0 : gB (zcs (-5) 10) (fun c => gB (zcs 0 4) (fun d => run (.is 1) (.low (-5)) c d)) = true := by kernel_rfl
theorem r6_4 : gB (zcs (-5) 10) (fun c => gB (zcs 0 4) (fun d => run (.is 1) (.is 3) c d)) = true := by kernel_rfl
theorem r6_8 : gB (zcs (-5) 10) (fun c => gB (zcs 0 4) (fun d => run (.is 1) (.is (-1)) c d)) = true := by kernel_rfl
theorem r6_12 : gB (zcs (-5) 10) (fun c => gB (zcs 0 4) (fun d => run (.is 1) (.is (-5)) c d)) = true := by kernel_rfl
theorem r7_3 : gB (zcs (-5) 10) (fun c => gB (zcs 0 4) (fun d => run (.is 0) (.is 4) c d)) = true := by kernel_rfl
theorem r7_7 : gB (zcs (-5) 10) (fun c => gB (zcs 0 4) (fun d => run (.is 0) (.is 0) c d)) = true := by kernel_rfl
theorem r7_11 : gB (zcs (-5) 10) (fun c => gB (zcs 0 4) (fun d => run (.is 0) (.is (-4)) c d)) = true := by kernel_rfl
theorem r8_2 : gB (zcs (-5) 10) (fun c => gB (zcs 0 4) (fun d => run (.is (-1)) (.is 5) c d)) = true := by kernel_rfl
theorem r8_6 : gB (zcs (-5) 10) (fun c => gB (zcs 0 4) (fun d => run (.is (-1)) (.is 1) c d)) = true := by kernel_rfl
theorem r8_10 : gB (zcs (-5) 10) (fun c => gB (zcs 0 4) (fun d => run (.is (-1)) (.is (-3)) c d)) = true := by kernel_rfl
theorem r9_1 : gB (zcs (-5) 10) (fun c => gB (zcs 0 4) (fun d => run (.is (-2)) (.up 5) c d)) = true := by kernel_rfl
theorem r9_5 : gB (zcs (-5) 10) (fun c => gB (zcs 0 4) (fun d => run (.is (-2)) (.is 2) c d)) = true := by kernel_rfl
theorem r9_9 : gB (zcs (-5) 10) (fun c => gB (zcs 0 4) (fun d => run (.is (-2)) (.is (-2)) c d)) = true := by kernel_rfl
theorem r10_0 : gB (zcs (-5) 10) (fun c => gB (zcs 0 4) (fun d => run (.is (-3)) (.low (-5)) c d)) = true := by kernel_rfl
theorem r10_4 : gB (zcs (-5) 10) (fun c => gB (zcs 0 4) (fun d => run (.is (-3)) (.is 3) c d)) = true := by kernel_rfl
theorem r10_8 : gB (zcs (-5) 10) (fun c => gB (zcs 0 4) (fun d => run (.is (-3)) (.is (-1)) c d)) = true := by kernel_rfl
theorem r10_12 : gB (zcs (-5) 10) (fun c => gB (zcs 0 4) (fun d => run (.is (-3)) (.is (-5)) c d)) = true := by kernel_rfl
theorem r11_3 : gB (zcs (-5) 10) (fun c => gB (zcs 0 4) (fun d => run (.is (-4)) (.is 4) c d)) = true := by kernel_rfl
theorem r11_7 : gB (zcs (-5) 10) (fun c => gB (zcs 0 4) (fun d => run (.is (-4)) (.is 0) c d)) = true := by kernel_rfl
theorem r11_11 : gB (zcs (-5) 10) (fun c => gB (zcs 0 4) (fun d => run (.is (-4)) (.is (-4)) c d)) = true := by kernel_rfl
theorem r12_2 : gB (zcs (-5) 10) (fun c => gB (zcs 0 4) (fun d => run (.is (-5)) (.is 5) c d)) = true := by kernel_rfl
theorem r12_6 : gB (zcs (-5) 10) (fun c => gB (zcs 0 4) (fun d => run (.is (-5)) (.is 1) c d)) = true := by kernel_rfl
theorem r12_10 : gB (zcs (-5) 10) (fun c => gB (zcs 0 4) (fun d => run (.is (-5)) (.is (-3)) c d)) = true := by kernel_rfl
end Go.Proofs.Ytnglbchhlpbgkaa.fnExactMeanSchurRuns
