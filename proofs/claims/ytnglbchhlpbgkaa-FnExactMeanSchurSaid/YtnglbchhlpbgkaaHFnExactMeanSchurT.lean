/- Runs of the program at a seat. -/
import Derived.Test.YtnglbchhlpbgkaaHFnExactMeanSchurR0
import Derived.Test.YtnglbchhlpbgkaaHFnExactMeanSchurR1
import Derived.Test.YtnglbchhlpbgkaaHFnExactMeanSchurR2
import Derived.Test.YtnglbchhlpbgkaaHFnExactMeanSchurR3
namespace Go.Proofs.Ytnglbchhlpbgkaa.fnExactMeanSchurRuns
open Go Go.Eng
set_option linter.unusedVariables false
set_option linter.unusedSectionVars false
set_option linter.unusedSimpArgs false
set_option maxRecDepth 100000
theorem s0 : ∀ b ∈ zcs (-5) 10, gB (zcs (-5) 10) (fun c => gB (zcs 0 4) (fun d => run (.low (-5)) b c d)) = true := by
  rw [eqA]
  exact cm r0_0 (cm r0_1 (cm r0_2 (cm r0_3 (cm r0_4 (cm r0_5 (cm r0_6 (cm r0_7 (cm r0_8 (cm r0_9 (cm r0_10 (cm r0_11 (cm r0_12 (nm)))))))))))))
theorem s1 : ∀ b ∈ zcs (-5) 10, gB (zcs (-5) 10) (fun c => gB (zcs 0 4) (fun d => run (.up 5) b c d)) = true := by
  rw [eqA]
  exact cm r1_0 (cm r1_1 (cm r1_2 (cm r1_3 (cm r1_4 (cm r1_5 (cm r1_6 (cm r1_7 (cm r1_8 (cm r1_9 (cm r1_10 (cm r1_11 (cm r1_12 (nm)))))))))))))
theorem s2 : ∀ b ∈ zcs (-5) 10, gB (zcs (-5) 10) (fun c => gB (zcs 0 4) (fun d => run (.is 5) b c d)) = true := by
  rw [eqA]
  exact cm r2_0 (cm r2_1 (cm r2_2 (cm r2_3 (cm r2_4 (cm r2_5 (cm r2_6 (cm r2_7 (cm r2_8 (cm r2_9 (cm r2_10 (cm r2_11 (cm r2_12 (nm)))))))))))))
theorem s3 : ∀ b ∈ zcs (-5) 10, gB (zcs (-5) 10) (fun c => gB (zcs 0 4) (fun d => run (.is 4) b c d)) = true := by
  rw [eqA]
  exact cm r3_0 (cm r3_1 (cm r3_2 (cm r3_3 (cm r3_4 (cm r3_5 (cm r3_6 (cm r3_7 (cm r3_8 (cm r3_9 (cm r3_10 (cm r3_11 (cm r3_12 (nm)))))))))))))
theorem s4 : ∀ b ∈ zcs (-5) 10, gB (zcs (-5) 10) (fun c => gB (zcs 0 4) (fun d => run (.is 3) b c d)) = true := by
  rw [eqA]
  exact cm r4_0 (cm r4_1 (cm r4_2 (cm r4_3 (cm r4_4 (cm r4_5 (cm r4_6 (cm r4_7 (cm r4_8 (cm r4_9 (cm r4_10 (cm r4_11 (cm r4_12 (nm)))))))))))))
theorem s5 : ∀ b ∈ zcs (-5) 10, gB (zcs (-5) 10) (fun c => gB (zcs 0 4) (fun d => run (.is 2) b c d)) = true := by
  rw [eqA]
  exact cm r5_0 (cm r5_1 (cm r5_2 (cm r5_3 (cm r5_4 (cm r5_5 (cm r5_6 (cm r5_7 (cm r5_8 (cm r5_9 (cm r5_10 (cm r5_11 (cm r5_12 (nm)))))))))))))
theorem s6 : ∀ b ∈ zcs (-5) 10, gB (zcs (-5) 10) (fun c => gB (zcs 0 4) (fun d => run (.is 1) b c d)) = true := by
  rw [eqA]
  exact cm r6_0 (cm r6_1 (cm r6_2 (cm r6_3 (cm r6_4 (cm r6_5 (cm r6_6 (cm r6_7 (cm r6_8 (cm r6_9 (cm r6_10 (cm r6_11 (cm r6_12 (nm)))))))))))))
theorem s7 : ∀ b ∈ zcs (-5) 10, gB (zcs (-5) 10) (fun c => gB (zcs 0 4) (fun d => run (.is 0) b c d)) = true := by
  rw [eqA]
  exact cm r7_0 (cm r7_1 (cm r7_2 (cm r7_3 (cm r7_4 (cm r7_5 (cm r7_6 (cm r7_7 (cm r7_8 (cm r7_9 (cm r7_10 (cm r7_11 (cm r7_12 (nm)))))))))))))
theorem s8 : ∀ b ∈ zcs (-5) 10, gB (zcs (-5) 10) (fun c => gB (zcs 0 4) (fun d => run (.is (-1)) b c d)) = true := by
  rw [eqA]
  exact cm r8_0 (cm r8_1 (cm r8_2 (cm r8_3 (cm r8_4 (cm r8_5 (cm r8_6 (cm r8_7 (cm r8_8 (cm r8_9 (cm r8_10 (cm r8_11 (cm r8_12 (nm)))))))))))))
theorem s9 : ∀ b ∈ zcs (-5) 10, gB (zcs (-5) 10) (fun c => gB (zcs 0 4) (fun d => run (.is (-2)) b c d)) = true := by
  rw [eqA]
  exact cm r9_0 (cm r9_1 (cm r9_2 (cm r9_3 (cm r9_4 (cm r9_5 (cm r9_6 (cm r9_7 (cm r9_8 (cm r9_9 (cm r9_10 (cm r9_11 (cm r9_12 (nm)))))))))))))
theorem s10 : ∀ b ∈ zcs (-5) 10, gB (zcs (-5) 10) (fun c => gB (zcs 0 4) (fun d => run (.is (-3)) b c d)) = true := by
  rw [eqA]
  exact cm r10_0 (cm r10_1 (cm r10_2 (cm r10_3 (cm r10_4 (cm r10_5 (cm r10_6 (cm r10_7 (cm r10_8 (cm r10_9 (cm r10_10 (cm r10_11 (cm r10_12 (nm)))))))))))))
theorem s11 : ∀ b ∈ zcs (-5) 10, gB (zcs (-5) 10) (fun c => gB (zcs 0 4) (fun d => run (.is (-4)) b c d)) = true := by
  rw [eqA]
  exact cm r11_0 (cm r11_1 (cm r11_2 (cm r11_3 (cm r11_4 (cm r11_5 (cm r11_6 (cm r11_7 (cm r11_8 (cm r11_9 (cm r11_10 (cm r11_11 (cm r11_12 (nm)))))))))))))
theorem s12 : ∀ b ∈ zcs (-5) 10, gB (zcs (-5) 10) (fun c => gB (zcs 0 4) (fun d => run (.is (-5)) b c d)) = true := by
  rw [eqA]
  exact cm r12_0 (cm r12_1 (cm r12_2 (cm r12_3 (cm r12_4 (cm r12_5 (cm r12_6 (cm r12_7 (cm r12_8 (cm r12_9 (cm r12_10 (cm r12_11 (cm r12_12 (nm)))))))))))))
theorem rows0 : ∀ a ∈ zcs (-5) 10, ∀ b ∈ zcs (-5) 10, gB (zcs (-5) 10) (fun c => gB (zcs 0 4) (fun d => run a b c d)) = true := by
  have h : ∀ a ∈ [.low (-5), .up 5, .is 5, .is 4, .is 3, .is 2, .is 1, .is 0, .is (-1), .is (-2), .is (-3), .is (-4), .is (-5)], ∀ b ∈ zcs (-5) 10, gB (zcs (-5) 10) (fun c => gB (zcs 0 4) (fun d => run a b c d)) = true := cm s0 (cm s1 (cm s2 (cm s3 (cm s4 (cm s5 (cm s6 (cm s7 (cm s8 (cm s9 (cm s10 (cm s11 (cm s12 (nm)))))))))))))
  rw [← eqA] at h
  exact h
theorem rows : ∀ a ∈ zcs (-5) 10, ∀ b ∈ zcs (-5) 10, ∀ c ∈ zcs (-5) 10, ∀ d ∈ zcs 0 4, run a b c d = true := fun a ha b hb c hc d hd => gB_mem (gB_mem (rows0 a ha b hb) c hc) d hd
end Go.Proofs.Ytnglbchhlpbgkaa.fnExactMeanSchurRuns
