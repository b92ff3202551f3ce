/- The runs of FnExactAtShare. -/
import Derived.Test.YthcdiaahpodkoaeFnExactAtShareP
namespace Go.Proofs.Ythcdiaahpodkoae.fnExactAtShareRuns
open Go.Eng
set_option linter.unusedVariables false
set_option linter.unusedSectionVars false
set_option linter.unusedSimpArgs false
set_option maxRecDepth 100000 in
theorem r0_2_0 : run (.known 0) .no .nil = true := by kernel_rfl
set_option maxRecDepth 100000 in
theorem r0_2_1 : run (.known 0) .no .zero = true := by kernel_rfl
set_option maxRecDepth 100000 in
theorem r0_2_2 : run (.known 0) .no .no = true := by kernel_rfl
set_option maxRecDepth 100000 in
theorem r0_2_3 : run (.known 0) .no .long = true := by kernel_rfl
set_option maxRecDepth 100000 in
theorem r0_2_4 : run (.known 0) .no (.pt 0) = true := by kernel_rfl
set_option maxRecDepth 100000 in
theorem r0_2_5 : run (.known 0) .no (.pt 1) = true := by kernel_rfl
set_option maxRecDepth 100000 in
theorem r0_2_6 : run (.known 0) .no (.pt 2) = true := by kernel_rfl
set_option maxRecDepth 100000 in
theorem r0_2_7 : run (.known 0) .no (.pt 3) = true := by kernel_rfl
set_option maxRecDepth 100000 in
theorem r0_2_8 : run (.known 0) .no (.pt 4) = true := by kernel_rfl
set_option maxRecDepth 100000 in
theorem r0_2_9 : run (.known 0) .no (.pt 5) = true := by kernel_rfl
theorem r0_2 : AllL (fun c => run (.known 0) .no c = true) pclasses := ⟨r0_2_0, r0_2_1, r0_2_2, r0_2_3, r0_2_4, r0_2_5, r0_2_6, r0_2_7, r0_2_8, r0_2_9, trivial⟩
set_option maxRecDepth 100000 in
theorem r0_6_0 : run (.known 0) (.row [1, 1]) .nil = true := by kernel_rfl
set_option maxRecDepth 100000 in
theorem r0_6_1 : run (.known 0) (.row [1, 1]) .zero = true := by kernel_rfl
set_option maxRecDepth 100000 in
theorem r0_6_2 : run (.known 0) (.row [1, 1]) .no = true := by kernel_rfl
set_option maxRecDepth 100000 in
theorem r0_6_3 : run (.known 0) (.row [1, 1]) .long = true := by kernel_rfl
set_option maxRecDepth 100000 in
theorem r0_6_4 : run (.known 0) (.row [1, 1]) (.pt 0) = true := by kernel_rfl
set_option maxRecDepth 100000 in
theorem r0_6_5 : run (.known 0) (.row [1, 1]) (.pt 1) = true := by kernel_rfl
set_option maxRecDepth 100000 in
theorem r0_6_6 : run (.known 0) (.row [1, 1]) (.pt 2) = true := by kernel_rfl
set_option maxRecDepth 100000 in
theorem r0_6_7 : run (.known 0) (.row [1, 1]) (.pt 3) = true := by kernel_rfl
set_option maxRecDepth 100000 in
theorem r0_6_8 : run (.known 0) (.row [1, 1]) (.pt 4) = true := by kernel_rfl
set_option maxRecDepth 100000 in
theorem r0_6_9 : run (.known 0) (.row [1, 1]) (.pt 5) = true := by kernel_rfl
theorem r0_6 : AllL (fun c => run (.known 0) (.row [1, 1]) c = true) pclasses := ⟨r0_6_0, r0_6_1, r0_6_2, r0_6_3, r0_6_4, r0_6_5, r0_6_6, r0_6_7, r0_6_8, r0_6_9, trivial⟩
set_option maxRecDepth 100000 in
theorem r0_10_0 : run (.known 0) (.row [1, 1, 1, 1, 1, 1]) .nil = true := by kernel_rfl
set_option maxRecDepth 100000 in
theorem r0_10_1 : run (.known 0) (.row [1, 1, 1, 1, 1, 1]) .zero = true := by kernel_rfl
set_option maxRecDepth 100000 in
theorem r0_10_2 : run (.known 0) (.row [1, 1, 1, 1, 1, 1]) .no = true := by kernel_rfl
set_option maxRecDepth 100000 in
theorem r0_10_3 : run (.known 0) (.row [1, 1, 1, 1, 1, 1]) .long = true := by kernel_rfl
set_option maxRecDepth 100000 in
theorem r0_10_4 : run (.known 0) (.row [1, 1, 1, 1, 1, 1]) (.pt 0) = true := by kernel_rfl
set_option maxRecDepth 100000 in
theorem r0_10_5 : run (.known 0) (.row [1, 1, 1, 1, 1, 1]) (.pt 1) = true := by kernel_rfl
set_option maxRecDepth 100000 in
theorem r0_10_6 : run (.known 0) (.row [1, 1, 1, 1, 1, 1]) (.pt 2) = true := by kernel_rfl
set_option maxRecDepth 100000 in
theorem r0_10_7 : run (.known 0) (.row [1, 1, 1, 1, 1, 1]) (.pt 3) = true := by kernel_rfl
set_option maxRecDepth 100000 in
theorem r0_10_8 : run (.known 0) (.row [1, 1, 1, 1, 1, 1]) (.pt 4) = true := by kernel_rfl
set_option maxRecDepth 100000 in
theorem r0_10_9 : run (.known 0) (.row [1, 1, 1, 1, 1, 1]) (.pt 5) = true := by kernel_rfl
theorem r0_10 : AllL (fun c => run (.known 0) (.row [1, 1, 1, 1, 1, 1]) c = true) pclasses := ⟨r0_10_0, r0_10_1, r0_10_2, r0_10_3, r0_10_4, r0_10_5, r0_10_6, r0_10_7, r0_10_8, r0_10_9, trivial⟩
set_option maxRecDepth 100000 in
theorem r0_14_0 : run (.known 0) (.row [2, 1, 1, 1]) .nil = true := by kernel_rfl
set_option maxRecDepth 100000 in
theorem r0_14_1 : run (.known 0) (.row [2, 1, 1, 1]) .zero = true := by kernel_rfl
set_option maxRecDepth 100000 in
theorem r0_14_2 : run (.known 0) (.row [2, 1, 1, 1]) .no = true := by kernel_rfl
set_option maxRecDepth 100000 in
theorem r0_14_3 : run (.known 0) (.row [2, 1, 1, 1]) .long = true := by kernel_rfl
set_option maxRecDepth 100000 in
theorem r0_14_4 : run (.known 0) (.row [2, 1, 1, 1]) (.pt 0) = true := by kernel_rfl
set_option maxRecDepth 100000 in
theorem r0_14_5 : run (.known 0) (.row [2, 1, 1, 1]) (.pt 1) = true := by kernel_rfl
set_option maxRecDepth 100000 in
theorem r0_14_6 : run (.known 0) (.row [2, 1, 1, 1]) (.pt 2) = true := by kernel_rfl
set_option maxRecDepth 100000 in
theorem r0_14_7 : run (.known 0) (.row [2, 1, 1, 1]) (.pt 3) = true := by kernel_rfl
set_option maxRecDepth 100000 in
theorem r0_14_8 : run (.known 0) (.row [2, 1, 1, 1]) (.pt 4) = true := by kernel_rfl
set_option maxRecDepth 100000 in
theorem r0_14_9 : run (.known 0) (.row [2, 1, 1, 1]) (.pt 5) = true := by kernel_rfl
theorem r0_14 : AllL (fun c => run (.known 0) (.row [2, 1, 1, 1]) c = true) pclasses := ⟨r0_14_0, r0_14_1, r0_14_2, r0_14_3, r0_14_4, r0_14_5, r0_14_6, r0_14_7, r0_14_8, r0_14_9, trivial⟩
set_option maxRecDepth 100000 in
theorem r0_18_0 : run (.known 0) (.row [2, 2, 1, 1]) .nil = true := by kernel_rfl
set_option maxRecDepth 100000 in
theorem r0_18_1 : run (.known 0) (.row [2, 2, 1, 1]) .zero = true := by kernel_rfl
set_option maxRecDepth 100000 in
theorem r0_18_2 : run (.known 0) (.row [2, 2, 1, 1]) .no = true := by kernel_rfl
set_option maxRecDepth 100000 in
theorem r0_18_3 : run (.known 0) (.row [2, 2, 1, 1]) .long = true := by kernel_rfl
set_option maxRecDepth 100000 in
theorem r0_18_4 : run (.known 0) (.row [2, 2, 1, 1]) (.pt 0) = true := by kernel_rfl
set_option maxRecDepth 100000 in
theorem r0_18_5 : run (.known 0) (.row [2, 2, 1, 1]) (.pt 1) = true := by kernel_rfl
set_option maxRecDepth 100000 in
theorem r0_18_6 : run (.known 0) (.row [2, 2, 1, 1]) (.pt 2) = true := by kernel_rfl
set_option maxRecDepth 100000 in
theorem r0_18_7 : run (.known 0) (.row [2, 2, 1, 1]) (.pt 3) = true := by kernel_rfl
set_option maxRecDepth 100000 in
theorem r0_18_8 : run (.known 0) (.row [2, 2, 1, 1]) (.pt 4) = true := by kernel_rfl
set_option maxRecDepth 100000 in
theorem r0_18_9 : run (.known 0) (.row [2, 2, 1, 1]) (.pt 5) = true := by kernel_rfl
theorem r0_18 : AllL (fun c => run (.known 0) (.row [2, 2, 1, 1]) c = true) pclasses := ⟨r0_18_0, r0_18_1, r0_18_2, r0_18_3, r0_18_4, r0_18_5, r0_18_6, r0_18_7, r0_18_8, r0_18_9, trivial⟩
set_option maxRecDepth 100000 in
theorem r0_22_0 : run (.known 0) (.row [3, 1, 1]) .nil = true := by kernel_rfl
set_option maxRecDepth 100000 in
theorem r0_22_1 : run (.known 0) (.row [3, 1, 1]) .zero = true := by kernel_rfl
set_option maxRecDepth 100000 in
theorem r0_22_2 : run (.known 0) (.row [3, 1, 1]) .no = true := by kernel_rfl
set_option maxRecDepth 100000 in
theorem r0_22_3 : run (.known 0) (.row [3, 1, 1]) .long = true := by kernel_rfl
set_option maxRecDepth 100000 in
theorem r0_22_4 : run (.known 0) (.row [3, 1, 1]) (.pt 0) = true := by kernel_rfl
set_option maxRecDepth 100000 in
theorem r0_22_5 : run (.known 0) (.row [3, 1, 1]) (.pt 1) = true := by kernel_rfl
set_option maxRecDepth 100000 in
theorem r0_22_6 : run (.known 0) (.row [3, 1, 1]) (.pt 2) = true := by kernel_rfl
set_option maxRecDepth 100000 in
theorem r0_22_7 : run (.known 0) (.row [3, 1, 1]) (.pt 3) = true := by kernel_rfl
set_option maxRecDepth 100000 in
theorem r0_22_8 : run (.known 0) (.row [3, 1, 1]) (.pt 4) = true := by kernel_rfl
set_option maxRecDepth 100000 in
theorem r0_22_9 : run (.known 0) (.row [3, 1, 1]) (.pt 5) = true := by kernel_rfl
theorem r0_22 : AllL (fun c => run (.known 0) (.row [3, 1, 1]) c = true) pclasses := ⟨r0_22_0, r0_22_1, r0_22_2, r0_22_3, r0_22_4, r0_22_5, r0_22_6, r0_22_7, r0_22_8, r0_22_9, trivial⟩
set_option maxRecDepth 100000 in
theorem r0_26_0 : run (.known 0) (.row [3, 3]) .nil = true := by kernel_rfl
set_option maxRecDepth 100000 in
theorem r0_26_1 : run (.known 0) (.row [3, 3]) .zero = true := by kernel_rfl
set_option maxRecDepth 100000 in
theorem r0_26_2 : run (.known 0) (.row [3, 3]) .no = true := by kernel_rfl
set_option maxRecDepth 100000 in
theorem r0_26_3 : run (.known 0) (.row [3, 3]) .long = true := by kernel_rfl
set_option maxRecDepth 100000 in
theorem r0_26_4 : run (.known 0) (.row [3, 3]) (.pt 0) = true := by kernel_rfl
set_option maxRecDepth 100000 in
theorem r0_26_5 : run (.known 0) (.row [3, 3]) (.pt 1) = true := by kernel_rfl
set_option maxRecDepth 100000 in
theorem r0_26_6 : run (.known 0) (.row [3, 3]) (.pt 2) = true := by kernel_rfl
set_option maxRecDepth 100000 in
theorem r0_26_7 : run (.known 0) (.row [3, 3]) (.pt 3) = true := by kernel_rfl
set_option maxRecDepth 100000 in
theorem r0_26_8 : run (.known 0) (.row [3, 3]) (.pt 4) = true := by kernel_rfl
set_option maxRecDepth 100000 in
theorem r0_26_9 : run (.known 0) (.row [3, 3]) (.pt 5) = true := by kernel_rfl
theorem r0_26 : AllL (fun c => run (.known 0) (.row [3, 3]) c = true) pclasses := ⟨r0_26_0, r0_26_1, r0_26_2, r0_26_3, r0_26_4, r0_26_5, r0_26_6, r0_26_7, r0_26_8, r0_26_9, trivial⟩
set_option maxRecDepth 100000 in
theorem r0_30_0 : run (.known 0) (.row [4, 2]) .nil = true := by kernel_rfl
set_option maxRecDepth 100000 in
theorem r0_30_1 : run (.known 0) (.row [4, 2]) .zero = true := by kernel_rfl
set_option maxRecDepth 100000 in
theorem r0_30_2 : run (.known 0) (.row [4, 2]) .no = true := by kernel_rfl
set_option maxRecDepth 100000 in
theorem r0_30_3 : run (.known 0) (.row [4, 2]) .long = true := by kernel_rfl
set_option maxRecDepth 100000 in
theorem r0_30_4 : run (.known 0) (.row [4, 2]) (.pt 0) = true := by kernel_rfl
set_option maxRecDepth 100000 in
theorem r0_30_5 : run (.known 0) (.row [4, 2]) (.pt 1) = true := by kernel_rfl
set_option maxRecDepth 100000 in
theorem r0_30_6 : run (.known 0) (.row [4, 2]) (.pt 2) = true := by kernel_rfl
set_option maxRecDepth 100000 in
theorem r0_30_7 : run (.known 0) (.row [4, 2]) (.pt 3) = true := by kernel_rfl
set_option maxRecDepth 100000 in
theorem r0_30_8 : run (.known 0) (.row [4, 2]) (.pt 4) = true := by kernel_rfl
set_option maxRecDepth 100000 in
theorem r0_30_9 : run (.known 0) (.row [4, 2]) (.pt 5) = true := by kernel_rfl
theorem r0_30 : AllL (fun c => run (.known 0) (.row [4, 2]) c = true) pclasses := ⟨r0_30_0, r0_30_1, r0_30_2, r0_30_3, r0_30_4, r0_30_5, r0_30_6, r0_30_7, r0_30_8, r0_30_9, trivial⟩
set_option maxRecDepth 100000 in
theorem r1_0_0 : run (.known 1) .nil .nil = true := by kernel_rfl
set_option maxRecDepth 100000 in
theorem r1_0_1 : run (.known 1) .nil .zero = true := by kernel_rfl
set_option maxRecDepth 100000 in
theorem r1_0_2 : run (.known 1) .nil .no = true := by kernel_rfl
set_option maxRecDepth 100000 in
theorem r1_0_3 : run (.known 1) .nil .long = true := by kernel_rfl
set_option maxRecDepth 100000 in
theorem r1_0_4 : run (.known 1) .nil (.pt 0) = true := by kernel_rfl
set_option maxRecDepth 100000 in
theorem r1_0_5 : run (.known 1) .nil (.pt 1) = true := by kernel_rfl
set_option maxRecDepth 100000 in
theorem r1_0_6 : run (.known 1) .nil (.pt 2) = true := by kernel_rfl
set_option maxRecDepth 100000 in
theorem r1_0_7 : run (.known 1) .nil (.pt 3) = true := by kernel_rfl
set_option maxRecDepth 100000 in
theorem r1_0_8 : run (.known 1) .nil (.pt 4) = true := by kernel_rfl
set_option maxRecDepth 100000 in
theorem r1_0_9 : run (.known 1) .nil (.pt 5) = true := by kernel_rfl
theorem r1_0 : AllL (fun c => run (.known 1) .nil c = true) pclasses := ⟨r1_0_0, r1_0_1, r1_0_2, r1_0_3, r1_0_4, r1_0_5, r1_0_6, r1_0_7, r1_0_8, r1_0_9, trivial⟩
set_option maxRecDepth 100000 in
theorem r1_4_0 : run (.known 1) (.row []) .nil = true := by kernel_rfl
set_option maxRecDepth 100000 in
theorem r1_4_1 : run (.known 1) (.row []) .zero = true := by kernel_rfl
set_option maxRecDepth 100000 in
theorem r1_4_2 : run (.known 1) (.row []) .no = true := by kernel_rfl
set_option maxRecDepth 100000 in
theorem r1_4_3 : run (.known 1) (.row []) .long = true := by kernel_rfl
set_option maxRecDepth 100000 in
theorem r1_4_4 : run (.known 1) (.row []) (.pt 0) = true := by kernel_rfl
set_option maxRecDepth 100000 in
theorem r1_4_5 : run (.known 1) (.row []) (.pt 1) = true := by kernel_rfl
set_option maxRecDepth 100000 in
theorem r1_4_6 : run (.known 1) (.row []) (.pt 2) = true := by kernel_rfl
set_option maxRecDepth 100000 in
theorem r1_4_7 : run (.known 1) (.row []) (.pt 3) = true := by kernel_rfl
set_option maxRecDepth 100000 in
theorem r1_4_8 : run (.known 1) (.row []) (.pt 4) = true := by kernel_rfl
set_option maxRecDepth 100000 in
theorem r1_4_9 : run (.known 1) (.row []) (.pt 5) = true := by kernel_rfl
theorem r1_4 : AllL (fun c => run (.known 1) (.row []) c = true) pclasses := ⟨r1_4_0, r1_4_1, r1_4_2, r1_4_3, r1_4_4, r1_4_5, r1_4_6, r1_4_7, r1_4_8, r1_4_9, trivial⟩
set_option maxRecDepth 100000 in
theorem r1_8_0 : run (.known 1) (.row [1, 1, 1, 1]) .nil = true := by kernel_rfl
set_option maxRecDepth 100000 in
theorem r1_8_1 : run (.known 1) (.row [1, 1, 1, 1]) .zero = true := by kernel_rfl
set_option maxRecDepth 100000 in
theorem r1_8_2 : run (.known 1) (.row [1, 1, 1, 1]) .no = true := by kernel_rfl
set_option maxRecDepth 100000 in
theorem r1_8_3 : run (.known 1) (.row [1, 1, 1, 1]) .long = true := by kernel_rfl
set_option maxRecDepth 100000 in
theorem r1_8_4 : run (.known 1) (.row [1, 1, 1, 1]) (.pt 0) = true := by kernel_rfl
set_option maxRecDepth 100000 in
theorem r1_8_5 : run (.known 1) (.row [1, 1, 1, 1]) (.pt 1) = true := by kernel_rfl
set_option maxRecDepth 100000 in
theorem r1_8_6 : run (.known 1) (.row [1, 1, 1, 1]) (.pt 2) = true := by kernel_rfl
set_option maxRecDepth 100000 in
theorem r1_8_7 : run (.known 1) (.row [1, 1, 1, 1]) (.pt 3) = true := by kernel_rfl
set_option maxRecDepth 100000 in
theorem r1_8_8 : run (.known 1) (.row [1, 1, 1, 1]) (.pt 4) = true := by kernel_rfl
set_option maxRecDepth 100000 in
theorem r1_8_9 : run (.known 1) (.row [1, 1, 1, 1]) (.pt 5) = true := by kernel_rfl
theorem r1_8 : AllL (fun c => run (.known 1) (.row [1, 1, 1, 1]) c = true) pclasses := ⟨r1_8_0, r1_8_1, r1_8_2, r1_8_3, r1_8_4, r1_8_5, r1_8_6, r1_8_7, r1_8_8, r1_8_9, trivial⟩
set_option maxRecDepth 100000 in
theorem r1_12_0 : run (.known 1) (.row [2, 1]) .nil = true := by kernel_rfl
set_option maxRecDepth 100000 in
theorem r1_12_1 : run (.known 1) (.row [2, 1]) .zero = true := by kernel_rfl
set_option maxRecDepth 100000 in
theorem r1_12_2 : run (.known 1) (.row [2, 1]) .no = true := by kernel_rfl
set_option maxRecDepth 100000 in
theorem r1_12_3 : run (.known 1) (.row [2, 1]) .long = true := by kernel_rfl
set_option maxRecDepth 100000 in
theorem r1_12_4 : run (.known 1) (.row [2, 1]) (.pt 0) = true := by kernel_rfl
set_option maxRecDepth 100000 in
theorem r1_12_5 : run (.known 1) (.row [2, 1]) (.pt 1) = true := by kernel_rfl
set_option maxRecDepth 100000 in
theorem r1_12_6 : run (.known 1) (.row [2, 1]) (.pt 2) = true := by kernel_rfl
set_option maxRecDepth 100000 in
theorem r1_12_7 : run (.known 1) (.row [2, 1]) (.pt 3) = true := by kernel_rfl
set_option maxRecDepth 100000 in
theorem r1_12_8 : run (.known 1) (.row [2, 1]) (.pt 4) = true := by kernel_rfl
set_option maxRecDepth 100000 in
theorem r1_12_9 : run (.known 1) (.row [2, 1]) (.pt 5) = true := by kernel_rfl
theorem r1_12 : AllL (fun c => run (.known 1) (.row [2, 1]) c = true) pclasses := ⟨r1_12_0, r1_12_1, r1_12_2, r1_12_3, r1_12_4, r1_12_5, r1_12_6, r1_12_7, r1_12_8, r1_12_9, trivial⟩
set_option maxRecDepth 100000 in
theorem r1_16_0 : run (.known 1) (.row [2, 2]) .nil = true := by kernel_rfl
set_option maxRecDepth 100000 in
theorem r1_16_1 : run (.known 1) (.row [2, 2]) .zero = true := by kernel_rfl
set_option maxRecDepth 100000 in
theorem r1_16_2 : run (.known 1) (.row [2, 2]) .no = true := by kernel_rfl
set_option maxRecDepth 100000 in
theorem r1_16_3 : run (.known 1) (.row [2, 2]) .long = true := by kernel_rfl
set_option maxRecDepth 100000 in
theorem r1_16_4 : run (.known 1) (.row [2, 2]) (.pt 0) = true := by kernel_rfl
set_option maxRecDepth 100000 in
theorem r1_16_5 : run (.known 1) (.row [2, 2]) (.pt 1) = true := by kernel_rfl
set_option maxRecDepth 100000 in
theorem r1_16_6 : run (.known 1) (.row [2, 2]) (.pt 2) = true := by kernel_rfl
set_option maxRecDepth 100000 in
theorem r1_16_7 : run (.known 1) (.row [2, 2]) (.pt 3) = true := by kernel_rfl
set_option maxRecDepth 100000 in
theorem r1_16_8 : run (.known 1) (.row [2, 2]) (.pt 4) = true := by kernel_rfl
set_option maxRecDepth 100000 in
theorem r1_16_9 : run (.known 1) (.row [2, 2]) (.pt 5) = true := by kernel_rfl
theorem r1_16 : AllL (fun c => run (.known 1) (.row [2, 2]) c = true) pclasses := ⟨r1_16_0, r1_16_1, r1_16_2, r1_16_3, r1_16_4, r1_16_5, r1_16_6, r1_16_7, r1_16_8, r1_16_9, trivial⟩
set_option maxRecDepth 100000 in
theorem r1_20_0 : run (.known 1) (.row [3]) .nil = true := by kernel_rfl
set_option maxRecDepth 100000 in
theorem r1_20_1 : run (.known 1) (.row [3]) .zero = true := by kernel_rfl
set_option maxRecDepth 100000 in
theorem r1_20_2 : run (.known 1) (.row [3]) .no = true := by kernel_rfl
set_option maxRecDepth 100000 in
theorem r1_20_3 : run (.known 1) (.row [3]) .long = true := by kernel_rfl
set_option maxRecDepth 100000 in
theorem r1_20_4 : run (.known 1) (.row [3]) (.pt 0) = true := by kernel_rfl
set_option maxRecDepth 100000 in
theorem r1_20_5 : run (.known 1) (.row [3]) (.pt 1) = true := by kernel_rfl
set_option maxRecDepth 100000 in
theorem r1_20_6 : run (.known 1) (.row [3]) (.pt 2) = true := by kernel_rfl
set_option maxRecDepth 100000 in
theorem r1_20_7 : run (.known 1) (.row [3]) (.pt 3) = true := by kernel_rfl
set_option maxRecDepth 100000 in
theorem r1_20_8 : run (.known 1) (.row [3]) (.pt 4) = true := by kernel_rfl
set_option maxRecDepth 100000 in
theorem r1_20_9 : run (.known 1) (.row [3]) (.pt 5) = true := by kernel_rfl
theorem r1_20 : AllL (fun c => run (.known 1) (.row [3]) c = true) pclasses := ⟨r1_20_0, r1_20_1, r1_20_2, r1_20_3, r1_20_4, r1_20_5, r1_20_6, r1_20_7, r1_20_8, r1_20_9, trivial⟩
set_option maxRecDepth 100000 in
theorem r1_24_0 : run (.known 1) (.row [3, 2]) .nil = true := by kernel_rfl
set_option maxRecDepth 100000 in
theorem r1_24_1 : run (.known 1) (.row [3, 2]) .zero = true := by kernel_rfl
set_option maxRecDepth 100000 in
theorem r1_24_2 : run (.known 1) (.row [3, 2]) .no = true := by kernel_rfl
set_option maxRecDepth 100000 in
theorem r1_24_3 : run (.known 1) (.row [3, 2]) .long = true := by kernel_rfl
set_option maxRecDepth 100000 in
theorem r1_24_4 : run (.known 1) (.row [3, 2]) (.pt 0) = true := by kernel_rfl
set_option maxRecDepth 100000 in
theorem r1_24_5 : run (.known 1) (.row [3, 2]) (.pt 1) = true := by kernel_rfl
set_option maxRecDepth 100000 in
theorem r1_24_6 : run (.known 1) (.row [3, 2]) (.pt 2) = true := by kernel_rfl
set_option maxRecDepth 100000 in
theorem r1_24_7 : run (.known 1) (.row [3, 2]) (.pt 3) = true := by kernel_rfl
set_option maxRecDepth 100000 in
theorem r1_24_8 : run (.known 1) (.row [3, 2]) (.pt 4) = true := by kernel_rfl
set_option maxRecDepth 100000 in
theorem r1_24_9 : run (.known 1) (.row [3, 2]) (.pt 5) = true := by kernel_rfl
theorem r1_24 : AllL (fun c => run (.known 1) (.row [3, 2]) c = true) pclasses := ⟨r1_24_0, r1_24_1, r1_24_2, r1_24_3, r1_24_4, r1_24_5, r1_24_6, r1_24_7, r1_24_8, r1_24_9, trivial⟩
set_option maxRecDepth 100000 in
theorem r1_28_0 : run (.known 1) (.row [4, 1]) .nil = true := by kernel_rfl
set_option maxRecDepth 100000 in
theorem r1_28_1 : run (.known 1) (.row [4, 1]) .zero = true := by kernel_rfl
set_option maxRecDepth 100000 in
theorem r1_28_2 : run (.known 1) (.row [4, 1]) .no = true := by kernel_rfl
set_option maxRecDepth 100000 in
theorem r1_28_3 : run (.known 1) (.row [4, 1]) .long = true := by kernel_rfl
set_option maxRecDepth 100000 in
theorem r1_28_4 : run (.known 1) (.row [4, 1]) (.pt 0) = true := by kernel_rfl
set_option maxRecDepth 100000 in
theorem r1_28_5 : run (.known 1) (.row [4, 1]) (.pt 1) = true := by kernel_rfl
set_option maxRecDepth 100000 in
theorem r1_28_6 : run (.known 1) (.row [4, 1]) (.pt 2) = true := by kernel_rfl
set_option maxRecDepth 100000 in
theorem r1_28_7 : run (.known 1) (.row [4, 1]) (.pt 3) = true := by kernel_rfl
set_option maxRecDepth 100000 in
theorem r1_28_8 : run (.known 1) (.row [4, 1]) (.pt 4) = true := by kernel_rfl
set_option maxRecDepth 100000 in
theorem r1_28_9 : run (.known 1) (.row [4, 1]) (.pt 5) = true := by kernel_rfl
theorem r1_28 : AllL (fun c => run (.known 1) (.row [4, 1]) c = true) pclasses := ⟨r1_28_0, r1_28_1, r1_28_2, r1_28_3, r1_28_4, r1_28_5, r1_28_6, r1_28_7, r1_28_8, r1_28_9, trivial⟩
set_option maxRecDepth 100000 in
theorem r1_32_0 : run (.known 1) (.row [5, 1]) .nil = true := by kernel_rfl
set_option maxRecDepth 100000 in
theorem r1_32_1 : run (.known 1) (.row [5, 1]) .zero = true := by kernel_rfl
set_option maxRecDepth 100000 in
theorem r1_32_2 : run (.known 1) (.row [5, 1]) .no = true := by kernel_rfl
set_option maxRecDepth 100000 in
theorem r1_32_3 : run (.known 1) (.row [5, 1]) .long = true := by kernel_rfl
set_option maxRecDepth 100000 in
theorem r1_32_4 : run (.known 1) (.row [5, 1]) (.pt 0) = true := by kernel_rfl
set_option maxRecDepth 100000 in
theorem r1_32_5 : run (.known 1) (.row [5, 1]) (.pt 1) = true := by kernel_rfl
set_option maxRecDepth 100000 in
theorem r1_32_6 : run (.known 1) (.row [5, 1]) (.pt 2) = true := by kernel_rfl
set_option maxRecDepth 100000 in
theorem r1_32_7 : run (.known 1) (.row [5, 1]) (.pt 3) = true := by kernel_rfl
set_option maxRecDepth 100000 in
theorem r1_32_8 : run (.known 1) (.row [5, 1]) (.pt 4) = true := by kernel_rfl
set_option maxRecDepth 100000 in
theorem r1_32_9 : run (.known 1) (.row [5, 1]) (.pt 5) = true := by kernel_rfl
theorem r1_32 : AllL (fun c => run (.known 1) (.row [5, 1]) c = true) pclasses := ⟨r1_32_0, r1_32_1, r1_32_2, r1_32_3, r1_32_4, r1_32_5, r1_32_6, r1_32_7, r1_32_8, r1_32_9, trivial⟩
set_option maxRecDepth 100000 in
theorem r2_2_0 : run (.known 2) .no .nil = true := by kernel_rfl
set_option maxRecDepth 100000 in
theorem r2_2_1 : run (.known 2) .no .zero = true := by kernel_rfl
set_option maxRecDepth 100000 in
theorem r2_2_2 : run (.known 2) .no .no = true := by kernel_rfl
set_option maxRecDepth 100000 in
theorem r2_2_3 : run (.known 2) .no .long = true := by kernel_rfl
set_option maxRecDepth 100000 in
theorem r2_2_4 : run (.known 2) .no (.pt 0) = true := by kernel_rfl
set_option maxRecDepth 100000 in
theorem r2_2_5 : run (.known 2) .no (.pt 1) = true := by kernel_rfl
set_option maxRecDepth 100000 in
theorem r2_2_6 : run (.known 2) .no (.pt 2) = true := by kernel_rfl
set_option maxRecDepth 100000 in
theorem r2_2_7 : run (.known 2) .no (.pt 3) = true := by kernel_rfl
set_option maxRecDepth 100000 in
theorem r2_2_8 : run (.known 2) .no (.pt 4) = true := by kernel_rfl
set_option maxRecDepth 100000 in
theorem r2_2_9 : run (.known 2) .no (.pt 5) = true := by kernel_rfl
theorem r2_2 : AllL (fun c => run (.known 2) .no c = true) pclasses := ⟨r2_2_0, r2_2_1, r2_2_2, r2_2_3, r2_2_4, r2_2_5, r2_2_6, r2_2_7, r2_2_8, r2_2_9, trivial⟩
set_option maxRecDepth 100000 in
theorem r2_6_0 : run (.known 2) (.row [1, 1]) .nil = true := by kernel_rfl
set_option maxRecDepth 100000 in
theorem r2_6_1 : run (.known 2) (.row [1, 1]) .zero = true := by kernel_rfl
set_option maxRecDepth 100000 in
theorem r2_6_2 : run (.known 2) (.row [1, 1]) .no = true := by kernel_rfl
set_option maxRecDepth 100000 in
theorem r2_6_3 : run (.known 2) (.row [1, 1]) .long = true := by kernel_rfl
set_option maxRecDepth 100000 in
theorem r2_6_4 : run (.known 2) (.row [1, 1]) (.pt 0) = true := by kernel_rfl
set_option maxRecDepth 100000 in
theorem r2_6_5 : run (.known 2) (.row [1, 1]) (.pt 1) = true := by kernel_rfl
set_option maxRecDepth 100000 in
theorem r2_6_6 : run (.known 2) (.row [1, 1]) (.pt 2) = true := by kernel_rfl
set_option maxRecDepth 100000 in
theorem r2_6_7 : run (.known 2) (.row [1, 1]) (.pt 3) = true := by kernel_rfl
set_option maxRecDepth 100000 in
theorem r2_6_8 : run (.known 2) (.row [1, 1]) (.pt 4) = true := by kernel_rfl
set_option maxRecDepth 100000 in
theorem r2_6_9 : run (.known 2) (.row [1, 1]) (.pt 5) = true := by kernel_rfl
theorem r2_6 : AllL (fun c => run (.known 2) (.row [1, 1]) c = true) pclasses := ⟨r2_6_0, r2_6_1, r2_6_2, r2_6_3, r2_6_4, r2_6_5, r2_6_6, r2_6_7, r2_6_8, r2_6_9, trivial⟩
set_option maxRecDepth 100000 in
theorem r2_10_0 : run (.known 2) (.row [1, 1, 1, 1, 1, 1]) .nil = true := by kernel_rfl
set_option maxRecDepth 100000 in
theorem r2_10_1 : run (.known 2) (.row [1, 1, 1, 1, 1, 1]) .zero = true := by kernel_rfl
set_option maxRecDepth 100000 in
theorem r2_10_2 : run (.known 2) (.row [1, 1, 1, 1, 1, 1]) .no = true := by kernel_rfl
set_option maxRecDepth 100000 in
theorem r2_10_3 : run (.known 2) (.row [1, 1, 1, 1, 1, 1]) .long = true := by kernel_rfl
set_option maxRecDepth 100000 in
theorem r2_10_4 : run (.known 2) (.row [1, 1, 1, 1, 1, 1]) (.pt 0) = true := by kernel_rfl
set_option maxRecDepth 100000 in
theorem r2_10_5 : run (.known 2) (.row [1, 1, 1, 1, 1, 1]) (.pt 1) = true := by kernel_rfl
set_option maxRecDepth 100000 in
theorem r2_10_6 : run (.known 2) (.row [1, 1, 1, 1, 1, 1]) (.pt 2) = true := by kernel_rfl
set_option maxRecDepth 100000 in
theorem r2_10_7 : run (.known 2) (.row [1, 1, 1, 1, 1, 1]) (.pt 3) = true := by kernel_rfl
set_option maxRecDepth 100000 in
theorem r2_10_8 : run (.known 2) (.row [1, 1, 1, 1, 1, 1]) (.pt 4) = true := by kernel_rfl
set_option maxRecDepth 100000 in
theorem r2_10_9 : run (.known 2) (.row [1, 1, 1, 1, 1, 1]) (.pt 5) = true := by kernel_rfl
theorem r2_10 : AllL (fun c => run (.known 2) (.row [1, 1, 1, 1, 1, 1]) c = true) pclasses := ⟨r2_10_0, r2_10_1, r2_10_2, r2_10_3, r2_10_4, r2_10_5, r2_10_6, r2_10_7, r2_10_8, r2_10_9, trivial⟩
set_option maxRecDepth 100000 in
theorem r2_14_0 : run (.known 2) (.row [2, 1, 1, 1]) .nil = true := by kernel_rfl
set_option maxRecDepth 100000 in
theorem r2_14_1 : run (.known 2) (.row [2, 1, 1, 1]) .zero = true := by kernel_rfl
set_option maxRecDepth 100000 in
theorem r2_14_2 : run (.known 2) (.row [2, 1, 1, 1]) .no = true := by kernel_rfl
set_option maxRecDepth 100000 in
theorem r2_14_3 : run (.known 2) (.row [2, 1, 1, 1]) .long = true := by kernel_rfl
set_option maxRecDepth 100000 in
theorem r2_14_4 : run (.known 2) (.row [2, 1, 1, 1]) (.pt 0) = true := by kernel_rfl
set_option maxRecDepth 100000 in
theorem r2_14_5 : run (.known 2) (.row [2, 1, 1, 1]) (.pt 1) = true := by kernel_rfl
set_option maxRecDepth 100000 in
theorem r2_14_6 : run (.known 2) (.row [2, 1, 1, 1]) (.pt 2) = true := by kernel_rfl
set_option maxRecDepth 100000 in
theorem r2_14_7 : run (.known 2) (.row [2, 1, 1, 1]) (.pt 3) = true := by kernel_rfl
set_option maxRecDepth 100000 in
theorem r2_14_8 : run (.known 2) (.row [2, 1, 1, 1]) (.pt 4) = true := by kernel_rfl
set_option maxRecDepth 100000 in
theorem r2_14_9 : run (.known 2) (.row [2, 1, 1, 1]) (.pt 5) = true := by kernel_rfl
theorem r2_14 : AllL (fun c => run (.known 2) (.row [2, 1, 1, 1]) c = true) pclasses := ⟨r2_14_0, r2_14_1, r2_14_2, r2_14_3, r2_14_4, r2_14_5, r2_14_6, r2_14_7, r2_14_8, r2_14_9, trivial⟩
set_option maxRecDepth 100000 in
theorem r2_18_0 : run (.known 2) (.row [2, 2, 1, 1]) .nil = true := by kernel_rfl
set_option maxRecDepth 100000 in
theorem r2_18_1 : run (.known 2) (.row [2, 2, 1, 1]) .zero = true := by kernel_rfl
set_option maxRecDepth 100000 in
theorem r2_18_2 : run (.known 2) (.row [2, 2, 1, 1]) .no = true := by kernel_rfl
set_option maxRecDepth 100000 in
theorem r2_18_3 : run (.known 2) (.row [2, 2, 1, 1]) .long = true := by kernel_rfl
set_option maxRecDepth 100000 in
theorem r2_18_4 : run (.known 2) (.row [2, 2, 1, 1]) (.pt 0) = true := by kernel_rfl
set_option maxRecDepth 100000 in
theorem r2_18_5 : run (.known 2) (.row [2, 2, 1, 1]) (.pt 1) = true := by kernel_rfl
set_option maxRecDepth 100000 in
theorem r2_18_6 : run (.known 2) (.row [2, 2, 1, 1]) (.pt 2) = true := by kernel_rfl
set_option maxRecDepth 100000 in
theorem r2_18_7 : run (.known 2) (.row [2, 2, 1, 1]) (.pt 3) = true := by kernel_rfl
set_option maxRecDepth 100000 in
theorem r2_18_8 : run (.known 2) (.row [2, 2, 1, 1]) (.pt 4) = true := by kernel_rfl
set_option maxRecDepth 100000 in
theorem r2_18_9 : run (.known 2) (.row [2, 2, 1, 1]) (.pt 5) = true := by kernel_rfl
theorem r2_18 : AllL (fun c => run (.known 2) (.row [2, 2, 1, 1]) c = true) pclasses := ⟨r2_18_0, r2_18_1, r2_18_2, r2_18_3, r2_18_4, r2_18_5, r2_18_6, r2_18_7, r2_18_8, r2_18_9, trivial⟩
set_option maxRecDepth 100000 in
theorem r2_22_0 : run (.known 2) (.row [3, 1, 1]) .nil = true := by kernel_rfl
set_option maxRecDepth 100000 in
theorem r2_22_1 : run (.known 2) (.row [3, 1, 1]) .zero = true := by kernel_rfl
set_option maxRecDepth 100000 in
theorem r2_22_2 : run (.known 2) (.row [3, 1, 1]) .no = true := by kernel_rfl
set_option maxRecDepth 100000 in
theorem r2_22_3 : run (.known 2) (.row [3, 1, 1]) .long = true := by kernel_rfl
set_option maxRecDepth 100000 in
theorem r2_22_4 : run (.known 2) (.row [3, 1, 1]) (.pt 0) = true := by kernel_rfl
set_option maxRecDepth 100000 in
theorem r2_22_5 : run (.known 2) (.row [3, 1, 1]) (.pt 1) = true := by kernel_rfl
set_option maxRecDepth 100000 in
theorem r2_22_6 : run (.known 2) (.row [3, 1, 1]) (.pt 2) = true := by kernel_rfl
set_option maxRecDepth 100000 in
theorem r2_22_7 : run (.known 2) (.row [3, 1, 1]) (.pt 3) = true := by kernel_rfl
set_option maxRecDepth 100000 in
theorem r2_22_8 : run (.known 2) (.row [3, 1, 1]) (.pt 4) = true := by kernel_rfl
set_option maxRecDepth 100000 in
theorem r2_22_9 : run (.known 2) (.row [3, 1, 1]) (.pt 5) = true := by kernel_rfl
theorem r2_22 : AllL (fun c => run (.known 2) (.row [3, 1, 1]) c = true) pclasses := ⟨r2_22_0, r2_22_1, r2_22_2, r2_22_3, r2_22_4, r2_22_5, r2_22_6, r2_22_7, r2_22_8, r2_22_9, trivial⟩
set_option maxRecDepth 100000 in
theorem r2_26_0 : run (.known 2) (.row [3, 3]) .nil = true := by kernel_rfl
set_option maxRecDepth 100000 in
theorem r2_26_1 : run (.known 2) (.row [3, 3]) .zero = true := by kernel_rfl
set_option maxRecDepth 100000 in
theorem r2_26_2 : run (.known 2) (.row [3, 3]) .no = true := by kernel_rfl
set_option maxRecDepth 100000 in
theorem r2_26_3 : run (.known 2) (.row [3, 3]) .long = true := by kernel_rfl
set_option maxRecDepth 100000 in
theorem r2_26_4 : run (.known 2) (.row [3, 3]) (.pt 0) = true := by kernel_rfl
set_option maxRecDepth 100000 in
theorem r2_26_5 : run (.known 2) (.row [3, 3]) (.pt 1) = true := by kernel_rfl
set_option maxRecDepth 100000 in
theorem r2_26_6 : run (.known 2) (.row [3, 3]) (.pt 2) = true := by kernel_rfl
set_option maxRecDepth 100000 in
theorem r2_26_7 : run (.known 2) (.row [3, 3]) (.pt 3) = true := by kernel_rfl
set_option maxRecDepth 100000 in
theorem r2_26_8 : run (.known 2) (.row [3, 3]) (.pt 4) = true := by kernel_rfl
set_option maxRecDepth 100000 in
theorem r2_26_9 : run (.known 2) (.row [3, 3]) (.pt 5) = true := by kernel_rfl
theorem r2_26 : AllL (fun c => run (.known 2) (.row [3, 3]) c = true) pclasses := ⟨r2_26_0, r2_26_1, r2_26_2, r2_26_3, r2_26_4, r2_26_5, r2_26_6, r2_26_7, r2_26_8, r2_26_9, trivial⟩
set_option maxRecDepth 100000 in
theorem r2_30_0 : run (.known 2) (.row [4, 2]) .nil = true := by kernel_rfl
set_option maxRecDepth 100000 in
theorem r2_30_1 : run (.known 2) (.row [4, 2]) .zero = true := by kernel_rfl
set_option maxRecDepth 100000 in
theorem r2_30_2 : run (.known 2) (.row [4, 2]) .no = true := by kernel_rfl
set_option maxRecDepth 100000 in
theorem r2_30_3 : run (.known 2) (.row [4, 2]) .long = true := by kernel_rfl
set_option maxRecDepth 100000 in
theorem r2_30_4 : run (.known 2) (.row [4, 2]) (.pt 0) = true := by kernel_rfl
set_option maxRecDepth 100000 in
theorem r2_30_5 : run (.known 2) (.row [4, 2]) (.pt 1) = true := by kernel_rfl
set_option maxRecDepth 100000 in
theorem r2_30_6 : run (.known 2) (.row [4, 2]) (.pt 2) = true := by kernel_rfl
set_option maxRecDepth 100000 in
theorem r2_30_7 : run (.known 2) (.row [4, 2]) (.pt 3) = true := by kernel_rfl
set_option maxRecDepth 100000 in
theorem r2_30_8 : run (.known 2) (.row [4, 2]) (.pt 4) = true := by kernel_rfl
set_option maxRecDepth 100000 in
theorem r2_30_9 : run (.known 2) (.row [4, 2]) (.pt 5) = true := by kernel_rfl
theorem r2_30 : AllL (fun c => run (.known 2) (.row [4, 2]) c = true) pclasses := ⟨r2_30_0, r2_30_1, r2_30_2, r2_30_3, r2_30_4, r2_30_5, r2_30_6, r2_30_7, r2_30_8, r2_30_9, trivial⟩
set_option maxRecDepth 100000 in
theorem r3_0_0 : run (.known 3) .nil .nil = true := by kernel_rfl
set_option maxRecDepth 100000 in
theorem r3_0_1 : run (.known 3) .nil .zero = true := by kernel_rfl
set_option maxRecDepth 100000 in
theorem r3_0_2 : run (.known 3) .nil .no = true := by kernel_rfl
set_option maxRecDepth 100000 in
theorem r3_0_3 : run (.known 3) .nil .long = true := by kernel_rfl
set_option maxRecDepth 100000 in
theorem r3_0_4 : run (.known 3) .nil (.pt 0) = true := by kernel_rfl
set_option maxRecDepth 100000 in
theorem r3_0_5 : run (.known 3) .nil (.pt 1) = true := by kernel_rfl
set_option maxRecDepth 100000 in
theorem r3_0_6 : run (.known 3) .nil (.pt 2) = true := by kernel_rfl
set_option maxRecDepth 100000 in
theorem r3_0_7 : run (.known 3) .nil (.pt 3) = true := by kernel_rfl
set_option maxRecDepth 100000 in
theorem r3_0_8 : run (.known 3) .nil (.pt 4) = true := by kernel_rfl
set_option maxRecDepth 100000 in
theorem r3_0_9 : run (.known 3) .nil (.pt 5) = true := by kernel_rfl
theorem r3_0 : AllL (fun c => run (.known 3) .nil c = true) pclasses := ⟨r3_0_0, r3_0_1, r3_0_2, r3_0_3, r3_0_4, r3_0_5, r3_0_6, r3_0_7, r3_0_8, r3_0_9, trivial⟩
set_option maxRecDepth 100000 in
theorem r3_4_0 : run (.known 3) (.row []) .nil = true := by kernel_rfl
set_option maxRecDepth 100000 in
theorem r3_4_1 : run (.known 3) (.row []) .zero = true := by kernel_rfl
set_option maxRecDepth 100000 in
theorem r3_4_2 : run (.known 3) (.row []) .no = true := by kernel_rfl
set_option maxRecDepth 100000 in
theorem r3_4_3 : run (.known 3) (.row []) .long = true := by kernel_rfl
set_option maxRecDepth 100000 in
theorem r3_4_4 : run (.known 3) (.row []) (.pt 0) = true := by kernel_rfl
set_option maxRecDepth 100000 in
theorem r3_4_5 : run (.known 3) (.row []) (.pt 1) = true := by kernel_rfl
set_option maxRecDepth 100000 in
theorem r3_4_6 : run (.known 3) (.row []) (.pt 2) = true := by kernel_rfl
set_option maxRecDepth 100000 in
theorem r3_4_7 : run (.known 3) (.row []) (.pt 3) = true := by kernel_rfl
set_option maxRecDepth 100000 in
theorem r3_4_8 : run (.known 3) (.row []) (.pt 4) = true := by kernel_rfl
set_option maxRecDepth 100000 in
theorem r3_4_9 : run (.known 3) (.row []) (.pt 5) = true := by kernel_rfl
theorem r3_4 : AllL (fun c => run (.known 3) (.row []) c = true) pclasses := ⟨r3_4_0, r3_4_1, r3_4_2, r3_4_3, r3_4_4, r3_4_5, r3_4_6, r3_4_7, r3_4_8, r3_4_9, trivial⟩
set_option maxRecDepth 100000 in
theorem r3_8_0 : run (.known 3) (.row [1, 1, 1, 1]) .nil = true := by kernel_rfl
set_option maxRecDepth 100000 in
theorem r3_8_1 : run (.known 3) (.row [1, 1, 1, 1]) .zero = true := by kernel_rfl
set_option maxRecDepth 100000 in
theorem r3_8_2 : run (.known 3) (.row [1, 1, 1, 1]) .no = true := by kernel_rfl
set_option maxRecDepth 100000 in
theorem r3_8_3 : run (.known 3) (.row [1, 1, 1, 1]) .long = true := by kernel_rfl
set_option maxRecDepth 100000 in
theorem r3_8_4 : run (.known 3) (.row [1, 1, 1, 1]) (.pt 0) = true := by kernel_rfl
set_option maxRecDepth 100000 in
theorem r3_8_5 : run (.known 3) (.row [1, 1, 1, 1]) (.pt 1) = true := by kernel_rfl
set_option maxRecDepth 100000 in
theorem r3_8_6 : run (.known 3) (.row [1, 1, 1, 1]) (.pt 2) = true := by kernel_rfl
set_option maxRecDepth 100000 in
theorem r3_8_7 : run (.known 3) (.row [1, 1, 1, 1]) (.pt 3) = true := by kernel_rfl
set_option maxRecDepth 100000 in
theorem r3_8_8 : run (.known 3) (.row [1, 1, 1, 1]) (.pt 4) = true := by kernel_rfl
set_option maxRecDepth 100000 in
theorem r3_8_9 : run (.known 3) (.row [1, 1, 1, 1]) (.pt 5) = true := by kernel_rfl
theorem r3_8 : AllL (fun c => run (.known 3) (.row [1, 1, 1, 1]) c = true) pclasses := ⟨r3_8_0, r3_8_1, r3_8_2, r3_8_3, r3_8_4, r3_8_5, r3_8_6, r3_8_7, r3_8_8, r3_8_9, trivial⟩
set_option maxRecDepth 100000 in
theorem r3_12_0 : run (.known 3) (.row [2, 1]) .nil = true := by kernel_rfl
set_option maxRecDepth 100000 in
theorem r3_12_1 : run (.known 3) (.row [2, 1]) .zero = true := by kernel_rfl
set_option maxRecDepth 100000 in
theorem r3_12_2 : run (.known 3) (.row [2, 1]) .no = true := by kernel_rfl
set_option maxRecDepth 100000 in
theorem r3_12_3 : run (.known 3) (.row [2, 1]) .long = true := by kernel_rfl
set_option maxRecDepth 100000 in
theorem r3_12_4 : run (.known 3) (.row [2, 1]) (.pt 0) = true := by kernel_rfl
set_option maxRecDepth 100000 in
theorem r3_12_5 : run (.known 3) (.row [2, 1]) (.pt 1) = true := by kernel_rfl
set_option maxRecDepth 100000 in
theorem r3_12_6 : run (.known 3) (.row [2, 1]) (.pt 2) = true := by kernel_rfl
set_option maxRecDepth 100000 in
theorem r3_12_7 : run (.known 3) (.row [2, 1]) (.pt 3) = true := by kernel_rfl
set_option maxRecDepth 100000 in
theorem r3_12_8 : run (.known 3) (.row [2, 1]) (.pt 4) = true := by kernel_rfl
set_option maxRecDepth 100000 in
theorem r3_12_9 : run (.known 3) (.row [2, 1]) (.pt 5) = true := by kernel_rfl
theorem r3_12 : AllL (fun c => run (.known 3) (.row [2, 1]) c = true) pclasses := ⟨r3_12_0, r3_12_1, r3_12_2, r3_12_3, r3_12_4, r3_12_5, r3_12_6, r3_12_7, r3_12_8, r3_12_9, trivial⟩
set_option maxRecDepth 100000 in
theorem r3_16_0 : run (.known 3) (.row [2, 2]) .nil = true := by kernel_rfl
set_option maxRecDepth 100000 in
theorem r3_16_1 : run (.known 3) (.row [2, 2]) .zero = true := by kernel_rfl
set_option maxRecDepth 100000 in
theorem r3_16_2 : run (.known 3) (.row [2, 2]) .no = true := by kernel_rfl
set_option maxRecDepth 100000 in
theorem r3_16_3 : run (.known 3) (.row [2, 2]) .long = true := by kernel_rfl
set_option maxRecDepth 100000 in
theorem r3_16_4 : run (.known 3) (.row [2, 2]) (.pt 0) = true := by kernel_rfl
set_option maxRecDepth 100000 in
theorem r3_16_5 : run (.known 3) (.row [2, 2]) (.pt 1) = true := by kernel_rfl
set_option maxRecDepth 100000 in
theorem r3_16_6 : run (.known 3) (.row [2, 2]) (.pt 2) = true := by kernel_rfl
set_option maxRecDepth 100000 in
theorem r3_16_7 : run (.known 3) (.row [2, 2]) (.pt 3) = true := by kernel_rfl
set_option maxRecDepth 100000 in
theorem r3_16_8 : run (.known 3) (.row [2, 2]) (.pt 4) = true := by kernel_rfl
set_option maxRecDepth 100000 in
theorem r3_16_9 : run (.known 3) (.row [2, 2]) (.pt 5) = true := by kernel_rfl
theorem r3_16 : AllL (fun c => run (.known 3) (.row [2, 2]) c = true) pclasses := ⟨r3_16_0, r3_16_1, r3_16_2, r3_16_3, r3_16_4, r3_16_5, r3_16_6, r3_16_7, r3_16_8, r3_16_9, trivial⟩
set_option maxRecDepth 100000 in
theorem r3_20_0 : run (.known 3) (.row [3]) .nil = true := by kernel_rfl
set_option maxRecDepth 100000 in
theorem r3_20_1 : run (.known 3) (.row [3]) .zero = true := by kernel_rfl
set_option maxRecDepth 100000 in
theorem r3_20_2 : run (.known 3) (.row [3]) .no = true := by kernel_rfl
set_option maxRecDepth 100000 in
theorem r3_20_3 : run (.known 3) (.row [3]) .long = true := by kernel_rfl
set_option maxRecDepth 100000 in
theorem r3_20_4 : run (.known 3) (.row [3]) (.pt 0) = true := by kernel_rfl
set_option maxRecDepth 100000 in
theorem r3_20_5 : run (.known 3) (.row [3]) (.pt 1) = true := by kernel_rfl
set_option maxRecDepth 100000 in
theorem r3_20_6 : run (.known 3) (.row [3]) (.pt 2) = true := by kernel_rfl
set_option maxRecDepth 100000 in
theorem r3_20_7 : run (.known 3) (.row [3]) (.pt 3) = true := by kernel_rfl
set_option maxRecDepth 100000 in
theorem r3_20_8 : run (.known 3) (.row [3]) (.pt 4) = true := by kernel_rfl
set_option maxRecDepth 100000 in
theorem r3_20_9 : run (.known 3) (.row [3]) (.pt 5) = true := by kernel_rfl
theorem r3_20 : AllL (fun c => run (.known 3) (.row [3]) c = true) pclasses := ⟨r3_20_0, r3_20_1, r3_20_2, r3_20_3, r3_20_4, r3_20_5, r3_20_6, r3_20_7, r3_20_8, r3_20_9, trivial⟩
set_option maxRecDepth 100000 in
theorem r3_24_0 : run (.known 3) (.row [3, 2]) .nil = true := by kernel_rfl
set_option maxRecDepth 100000 in
theorem r3_24_1 : run (.known 3) (.row [3, 2]) .zero = true := by kernel_rfl
set_option maxRecDepth 100000 in
theorem r3_24_2 : run (.known 3) (.row [3, 2]) .no = true := by kernel_rfl
set_option maxRecDepth 100000 in
theorem r3_24_3 : run (.known 3) (.row [3, 2]) .long = true := by kernel_rfl
set_option maxRecDepth 100000 in
theorem r3_24_4 : run (.known 3) (.row [3, 2]) (.pt 0) = true := by kernel_rfl
set_option maxRecDepth 100000 in
theorem r3_24_5 : run (.known 3) (.row [3, 2]) (.pt 1) = true := by kernel_rfl
set_option maxRecDepth 100000 in
theorem r3_24_6 : run (.known 3) (.row [3, 2]) (.pt 2) = true := by kernel_rfl
set_option maxRecDepth 100000 in
theorem r3_24_7 : run (.known 3) (.row [3, 2]) (.pt 3) = true := by kernel_rfl
set_option maxRecDepth 100000 in
theorem r3_24_8 : run (.known 3) (.row [3, 2]) (.pt 4) = true := by kernel_rfl
set_option maxRecDepth 100000 in
theorem r3_24_9 : run (.known 3) (.row [3, 2]) (.pt 5) = true := by kernel_rfl
theorem r3_24 : AllL (fun c => run (.known 3) (.row [3, 2]) c = true) pclasses := ⟨r3_24_0, r3_24_1, r3_24_2, r3_24_3, r3_24_4, r3_24_5, r3_24_6, r3_24_7, r3_24_8, r3_24_9, trivial⟩
set_option maxRecDepth 100000 in
theorem r3_28_0 : run (.known 3) (.row [4, 1]) .nil = true := by kernel_rfl
set_option maxRecDepth 100000 in
theorem r3_28_1 : run (.known 3) (.row [4, 1]) .zero = true := by kernel_rfl
set_option maxRecDepth 100000 in
theorem r3_28_2 : run (.known 3) (.row [4, 1]) .no = true := by kernel_rfl
set_option maxRecDepth 100000 in
theorem r3_28_3 : run (.known 3) (.row [4, 1]) .long = true := by kernel_rfl
set_option maxRecDepth 100000 in
theorem r3_28_4 : run (.known 3) (.row [4, 1]) (.pt 0) = true := by kernel_rfl
set_option maxRecDepth 100000 in
theorem r3_28_5 : run (.known 3) (.row [4, 1]) (.pt 1) = true := by kernel_rfl
set_option maxRecDepth 100000 in
theorem r3_28_6 : run (.known 3) (.row [4, 1]) (.pt 2) = true := by kernel_rfl
set_option maxRecDepth 100000 in
theorem r3_28_7 : run (.known 3) (.row [4, 1]) (.pt 3) = true := by kernel_rfl
set_option maxRecDepth 100000 in
theorem r3_28_8 : run (.known 3) (.row [4, 1]) (.pt 4) = true := by kernel_rfl
set_option maxRecDepth 100000 in
theorem r3_28_9 : run (.known 3) (.row [4, 1]) (.pt 5) = true := by kernel_rfl
theorem r3_28 : AllL (fun c => run (.known 3) (.row [4, 1]) c = true) pclasses := ⟨r3_28_0, r3_28_1, r3_28_2, r3_28_3, r3_28_4, r3_28_5, r3_28_6, r3_28_7, r3_28_8, r3_28_9, trivial⟩
set_option maxRecDepth 100000 in
theorem r3_32_0 : run (.known 3) (.row [5, 1]) .nil = true := by kernel_rfl
set_option maxRecDepth 100000 in
theorem r3_32_1 : run (.known 3) (.row [5, 1]) .zero = true := by kernel_rfl
set_option maxRecDepth 100000 in
theorem r3_32_2 : run (.known 3) (.row [5, 1]) .no = true := by kernel_rfl
set_option maxRecDepth 100000 in
theorem r3_32_3 : run (.known 3) (.row [5, 1]) .long = true := by kernel_rfl
set_option maxRecDepth 100000 in
theorem r3_32_4 : run (.known 3) (.row [5, 1]) (.pt 0) = true := by kernel_rfl
set_option maxRecDepth 100000 in
theorem r3_32_5 : run (.known 3) (.row [5, 1]) (.pt 1) = true := by kernel_rfl
set_option maxRecDepth 100000 in
theorem r3_32_6 : run (.known 3) (.row [5, 1]) (.pt 2) = true := by kernel_rfl
set_option maxRecDepth 100000 in
theorem r3_32_7 : run (.known 3) (.row [5, 1]) (.pt 3) = true := by kernel_rfl
set_option maxRecDepth 100000 in
theorem r3_32_8 : run (.known 3) (.row [5, 1]) (.pt 4) = true := by kernel_rfl
set_option maxRecDepth 100000 in
theorem r3_32_9 : run (.known 3) (.row [5, 1]) (.pt 5) = true := by kernel_rfl
theorem r3_32 : AllL (fun c => run (.known 3) (.row [5, 1]) c = true) pclasses := ⟨r3_32_0, r3_32_1, r3_32_2, r3_32_3, r3_32_4, r3_32_5, r3_32_6, r3_32_7, r3_32_8, r3_32_9, trivial⟩
set_option maxRecDepth 100000 in
theorem r4_2_0 : run (.known 4) .no .nil = true := by kernel_rfl
set_option maxRecDepth 100000 in
theorem r4_2_1 : run (.known 4) .no .zero = true := by kernel_rfl
set_option maxRecDepth 100000 in
theorem r4_2_2 : run (.known 4) .no .no = true := by kernel_rfl
set_option maxRecDepth 100000 in
theorem r4_2_3 : run (.known 4) .no .long = true := by kernel_rfl
set_option maxRecDepth 100000 in
theorem r4_2_4 : run (.known 4) .no (.pt 0) = true := by kernel_rfl
set_option maxRecDepth 100000 in
theorem r4_2_5 : run (.known 4) .no (.pt 1) = true := by kernel_rfl
set_option maxRecDepth 100000 in
theorem r4_2_6 : run (.known 4) .no (.pt 2) = true := by kernel_rfl
set_option maxRecDepth 100000 in
theorem r4_2_7 : run (.known 4) .no (.pt 3) = true := by kernel_rfl
set_option maxRecDepth 100000 in
theorem r4_2_8 : run (.known 4) .no (.pt 4) = true := by kernel_rfl
set_option maxRecDepth 100000 in
theorem r4_2_9 : run (.known 4) .no (.pt 5) = true := by kernel_rfl
theorem r4_2 : AllL (fun c => run (.known 4) .no c = true) pclasses := ⟨r4_2_0, r4_2_1, r4_2_2, r4_2_3, r4_2_4, r4_2_5, r4_2_6, r4_2_7, r4_2_8, r4_2_9, trivial⟩
set_option maxRecDepth 100000 in
theorem r4_6_0 : run (.known 4) (.row [1, 1]) .nil = true := by kernel_rfl
set_option maxRecDepth 100000 in
theorem r4_6_1 : run (.known 4) (.row [1, 1]) .zero = true := by kernel_rfl
set_option maxRecDepth 100000 in
theorem r4_6_2 : run (.known 4) (.row [1, 1]) .no = true := by kernel_rfl
set_option maxRecDepth 100000 in
theorem r4_6_3 : run (.known 4) (.row [1, 1]) .long = true := by kernel_rfl
set_option maxRecDepth 100000 in
theorem r4_6_4 : run (.known 4) (.row [1, 1]) (.pt 0) = true := by kernel_rfl
set_option maxRecDepth 100000 in
theorem r4_6_5 : run (.known 4) (.row [1, 1]) (.pt 1) = true := by kernel_rfl
set_option maxRecDepth 100000 in
theorem r4_6_6 : run (.known 4) (.row [1, 1]) (.pt 2) = true := by kernel_rfl
set_option maxRecDepth 100000 in
theorem r4_6_7 : run (.known 4) (.row [1, 1]) (.pt 3) = true := by kernel_rfl
set_option maxRecDepth 100000 in
theorem r4_6_8 : run (.known 4) (.row [1, 1]) (.pt 4) = true := by kernel_rfl
set_option maxRecDepth 100000 in
theorem r4_6_9 : run (.known 4) (.row [1, 1]) (.pt 5) = true := by kernel_rfl
theorem r4_6 : AllL (fun c => run (.known 4) (.row [1, 1]) c = true) pclasses := ⟨r4_6_0, r4_6_1, r4_6_2, r4_6_3, r4_6_4, r4_6_5, r4_6_6, r4_6_7, r4_6_8, r4_6_9, trivial⟩
set_option maxRecDepth 100000 in
theorem r4_10_0 : run (.known 4) (.row [1, 1, 1, 1, 1, 1]) .nil = true := by kernel_rfl
set_option maxRecDepth 100000 in
theorem r4_10_1 : run (.known 4) (.row [1, 1, 1, 1, 1, 1]) .zero = true := by kernel_rfl
set_option maxRecDepth 100000 in
theorem r4_10_2 : run (.known 4) (.row [1, 1, 1, 1, 1, 1]) .no = true := by kernel_rfl
set_option maxRecDepth 100000 in
theorem r4_10_3 : run (.known 4) (.row [1, 1, 1, 1, 1, 1]) .long = true := by kernel_rfl
set_option maxRecDepth 100000 in
theorem r4_10_4 : run (.known 4) (.row [1, 1, 1, 1, 1, 1]) (.pt 0) = true := by kernel_rfl
set_option maxRecDepth 100000 in
theorem r4_10_5 : run (.known 4) (.row [1, 1, 1, 1, 1, 1]) (.pt 1) = true := by kernel_rfl
set_option maxRecDepth 100000 in
theorem r4_10_6 : run (.known 4) (.row [1, 1, 1, 1, 1, 1]) (.pt 2) = true := by kernel_rfl
set_option maxRecDepth 100000 in
theorem r4_10_7 : run (.known 4) (.row [1, 1, 1, 1, 1, 1]) (.pt 3) = true := by kernel_rfl
set_option maxRecDepth 100000 in
theorem r4_10_8 : run (.known 4) (.row [1, 1, 1, 1, 1, 1]) (.pt 4) = true := by kernel_rfl
set_option maxRecDepth 100000 in
theorem r4_10_9 : run (.known 4) (.row [1, 1, 1, 1, 1, 1]) (.pt 5) = true := by kernel_rfl
theorem r4_10 : AllL (fun c => run (.known 4) (.row [1, 1, 1, 1, 1, 1]) c = true) pclasses := ⟨r4_10_0, r4_10_1, r4_10_2, r4_10_3, r4_10_4, r4_10_5, r4_10_6, r4_10_7, r4_10_8, r4_10_9, trivial⟩
set_option maxRecDepth 100000 in
theorem r4_14_0 : run (.known 4) (.row [2, 1, 1, 1]) .nil = true := by kernel_rfl
set_option maxRecDepth 100000 in
theorem r4_14_1 : run (.known 4) (.row [2, 1, 1, 1]) .zero = true := by kernel_rfl
set_option maxRecDepth 100000 in
theorem r4_14_2 : run (.known 4) (.row [2, 1, 1, 1]) .no = true := by kernel_rfl
set_option maxRecDepth 100000 in
theorem r4_14_3 : run (.known 4) (.row [2, 1, 1, 1]) .long = true := by kernel_rfl
set_option maxRecDepth 100000 in
theorem r4_14_4 : run (.known 4) (.row [2, 1, 1, 1]) (.pt 0) = true := by kernel_rfl
set_option maxRecDepth 100000 in
theorem r4_14_5 : run (.known 4) (.row [2, 1, 1, 1]) (.pt 1) = true := by kernel_rfl
set_option maxRecDepth 100000 in
theorem r4_14_6 : run (.known 4) (.row [2, 1, 1, 1]) (.pt 2) = true := by kernel_rfl
set_option maxRecDepth 100000 in
theorem r4_14_7 : run (.known 4) (.row [2, 1, 1, 1]) (.pt 3) = true := by kernel_rfl
set_option maxRecDepth 100000 in
theorem r4_14_8 : run (.known 4) (.row [2, 1, 1, 1]) (.pt 4) = true := by kernel_rfl
set_option maxRecDepth 100000 in
theorem r4_14_9 : run (.known 4) (.row [2, 1, 1, 1]) (.pt 5) = true := by kernel_rfl
theorem r4_14 : AllL (fun c => run (.known 4) (.row [2, 1, 1, 1]) c = true) pclasses := ⟨r4_14_0, r4_14_1, r4_14_2, r4_14_3, r4_14_4, r4_14_5, r4_14_6, r4_14_7, r4_14_8, r4_14_9, trivial⟩
set_option maxRecDepth 100000 in
theorem r4_18_0 : run (.known 4) (.row [2, 2, 1, 1]) .nil = true := by kernel_rfl
set_option maxRecDepth 100000 in
theorem r4_18_1 : run (.known 4) (.row [2, 2, 1, 1]) .zero = true := by kernel_rfl
set_option maxRecDepth 100000 in
theorem r4_18_2 : run (.known 4) (.row [2, 2, 1, 1]) .no = true := by kernel_rfl
set_option maxRecDepth 100000 in
theorem r4_18_3 : run (.known 4) (.row [2, 2, 1, 1]) .long = true := by kernel_rfl
set_option maxRecDepth 100000 in
theorem r4_18_4 : run (.known 4) (.row [2, 2, 1, 1]) (.pt 0) = true := by kernel_rfl
set_option maxRecDepth 100000 in
theorem r4_18_5 : run (.known 4) (.row [2, 2, 1, 1]) (.pt 1) = true := by kernel_rfl
set_option maxRecDepth 100000 in
theorem r4_18_6 : run (.known 4) (.row [2, 2, 1, 1]) (.pt 2) = true := by kernel_rfl
set_option maxRecDepth 100000 in
theorem r4_18_7 : run (.known 4) (.row [2, 2, 1, 1]) (.pt 3) = true := by kernel_rfl
set_option maxRecDepth 100000 in
theorem r4_18_8 : run (.known 4) (.row [2, 2, 1, 1]) (.pt 4) = true := by kernel_rfl
set_option maxRecDepth 100000 in
theorem r4_18_9 : run (.known 4) (.row [2, 2, 1, 1]) (.pt 5) = true := by kernel_rfl
theorem r4_18 : AllL (fun c => run (.known 4) (.row [2, 2, 1, 1]) c = true) pclasses := ⟨r4_18_0, r4_18_1, r4_18_2, r4_18_3, r4_18_4, r4_18_5, r4_18_6, r4_18_7, r4_18_8, r4_18_9, trivial⟩
set_option maxRecDepth 100000 in
theorem r4_22_0 : run (.known 4) (.row [3, 1, 1]) .nil = true := by kernel_rfl
set_option maxRecDepth 100000 in
theorem r4_22_1 : run (.known 4) (.row [3, 1, 1]) .zero = true := by kernel_rfl
set_option maxRecDepth 100000 in
theorem r4_22_2 : run (.known 4) (.row [3, 1, 1]) .no = true := by kernel_rfl
set_option maxRecDepth 100000 in
theorem r4_22_3 : run (.known 4) (.row [3, 1, 1]) .long = true := by kernel_rfl
set_option maxRecDepth 100000 in
theorem r4_22_4 : run (.known 4) (.row [3, 1, 1]) (.pt 0) = true := by kernel_rfl
set_option maxRecDepth 100000 in
theorem r4_22_5 : run (.known 4) (.row [3, 1, 1]) (.pt 1) = true := by kernel_rfl
set_option maxRecDepth 100000 in
theorem r4_22_6 : run (.known 4) (.row [3, 1, 1]) (.pt 2) = true := by kernel_rfl
set_option maxRecDepth 100000 in
theorem r4_22_7 : run (.known 4) (.row [3, 1, 1]) (.pt 3) = true := by kernel_rfl
set_option maxRecDepth 100000 in
theorem r4_22_8 : run (.known 4) (.row [3, 1, 1]) (.pt 4) = true := by kernel_rfl
set_option maxRecDepth 100000 in
theorem r4_22_9 : run (.known 4) (.row [3, 1, 1]) (.pt 5) = true := by kernel_rfl
theorem r4_22 : AllL (fun c => run (.known 4) (.row [3, 1, 1]) c = true) pclasses := ⟨r4_22_0, r4_22_1, r4_22_2, r4_22_3, r4_22_4, r4_22_5, r4_22_6, r4_22_7, r4_22_8, r4_22_9, trivial⟩
set_option maxRecDepth 100000 in
theorem r4_26_0 : run (.known 4) (.row [3, 3]) .nil = true := by kernel_rfl
set_option maxRecDepth 100000 in
theorem r4_26_1 : run (.known 4) (.row [3, 3]) .zero = true := by kernel_rfl
set_option maxRecDepth 100000 in
theorem r4_26_2 : run (.known 4) (.row [3, 3]) .no = true := by kernel_rfl
set_option maxRecDepth 100000 in
theorem r4_26_3 : run (.known 4) (.row [3, 3]) .long = true := by kernel_rfl
set_option maxRecDepth 100000 in
theorem r4_26_4 : run (.known 4) (.row [3, 3]) (.pt 0) = true := by kernel_rfl
set_option maxRecDepth 100000 in
theorem r4_26_5 : run (.known 4) (.row [3, 3]) (.pt 1) = true := by kernel_rfl
set_option maxRecDepth 100000 in
theorem r4_26_6 : run (.known 4) (.row [3, 3]) (.pt 2) = true := by kernel_rfl
set_option maxRecDepth 100000 in
theorem r4_26_7 : run (.known 4) (.row [3, 3]) (.pt 3) = true := by kernel_rfl
set_option maxRecDepth 100000 in
theorem r4_26_8 : run (.known 4) (.row [3, 3]) (.pt 4) = true := by kernel_rfl
set_option maxRecDepth 100000 in
theorem r4_26_9 : run (.known 4) (.row [3, 3]) (.pt 5) = true := by kernel_rfl
theorem r4_26 : AllL (fun c => run (.known 4) (.row [3, 3]) c = true) pclasses := ⟨r4_26_0, r4_26_1, r4_26_2, r4_26_3, r4_26_4, r4_26_5, r4_26_6, r4_26_7, r4_26_8, r4_26_9, trivial⟩
set_option maxRecDepth 100000 in
theorem r4_30_0 : run (.known 4) (.row [4, 2]) .nil = true := by kernel_rfl
set_option maxRecDepth 100000 in
theorem r4_30_1 : run (.known 4) (.row [4, 2]) .zero = true := by kernel_rfl
set_option maxRecDepth 100000 in
theorem r4_30_2 : run (.known 4) (.row [4, 2]) .no = true := by kernel_rfl
set_option maxRecDepth 100000 in
theorem r4_30_3 : run (.known 4) (.row [4, 2]) .long = true := by kernel_rfl
set_option maxRecDepth 100000 in
theorem r4_30_4 : run (.known 4) (.row [4, 2]) (.pt 0) = true := by kernel_rfl
set_option maxRecDepth 100000 in
theorem r4_30_5 : run (.known 4) (.row [4, 2]) (.pt 1) = true := by kernel_rfl
set_option maxRecDepth 100000 in
theorem r4_30_6 : run (.known 4) (.row [4, 2]) (.pt 2) = true := by kernel_rfl
set_option maxRecDepth 100000 in
theorem r4_30_7 : run (.known 4) (.row [4, 2]) (.pt 3) = true := by kernel_rfl
set_option maxRecDepth 100000 in
theorem r4_30_8 : run (.known 4) (.row [4, 2]) (.pt 4) = true := by kernel_rfl
set_option maxRecDepth 100000 in
theorem r4_30_9 : run (.known 4) (.row [4, 2]) (.pt 5) = true := by kernel_rfl
theorem r4_30 : AllL (fun c => run (.known 4) (.row [4, 2]) c = true) pclasses := ⟨r4_30_0, r4_30_1, r4_30_2, r4_30_3, r4_30_4, r4_30_5, r4_30_6, r4_30_7, r4_30_8, r4_30_9, trivial⟩
set_option maxRecDepth 100000 in
theorem r5_0_0 : run (.known 5) .nil .nil = true := by kernel_rfl
set_option maxRecDepth 100000 in
theorem r5_0_1 : run (.known 5) .nil .zero = true := by kernel_rfl
set_option maxRecDepth 100000 in
theorem r5_0_2 : run (.known 5) .nil .no = true := by kernel_rfl
set_option maxRecDepth 100000 in
theorem r5_0_3 : run (.known 5) .nil .long = true := by kernel_rfl
set_option maxRecDepth 100000 in
theorem r5_0_4 : run (.known 5) .nil (.pt 0) = true := by kernel_rfl
set_option maxRecDepth 100000 in
theorem r5_0_5 : run (.known 5) .nil (.pt 1) = true := by kernel_rfl
set_option maxRecDepth 100000 in
theorem r5_0_6 : run (.known 5) .nil (.pt 2) = true := by kernel_rfl
set_option maxRecDepth 100000 in
theorem r5_0_7 : run (.known 5) .nil (.pt 3) = true := by kernel_rfl
set_option maxRecDepth 100000 in
theorem r5_0_8 : run (.known 5) .nil (.pt 4) = true := by kernel_rfl
set_option maxRecDepth 100000 in
theorem r5_0_9 : run (.known 5) .nil (.pt 5) = true := by kernel_rfl
theorem r5_0 : AllL (fun c => run (.known 5) .nil c = true) pclasses := ⟨r5_0_0, r5_0_1, r5_0_2, r5_0_3, r5_0_4, r5_0_5, r5_0_6, r5_0_7, r5_0_8, r5_0_9, trivial⟩
set_option maxRecDepth 100000 in
theorem r5_4_0 : run (.known 5) (.row []) .nil = true := by kernel_rfl
set_option maxRecDepth 100000 in
theorem r5_4_1 : run (.known 5) (.row []) .zero = true := by kernel_rfl
set_option maxRecDepth 100000 in
theorem r5_4_2 : run (.known 5) (.row []) .no = true := by kernel_rfl
set_option maxRecDepth 100000 in
theorem r5_4_3 : run (.known 5) (.row []) .long = true := by kernel_rfl
set_option maxRecDepth 100000 in
theorem r5_4_4 : run (.known 5) (.row []) (.pt 0) = true := by kernel_rfl
set_option maxRecDepth 100000 in
theorem r5_4_5 : run (.known 5) (.row []) (.pt 1) = true := by kernel_rfl
set_option maxRecDepth 100000 in
theorem r5_4_6 : run (.known 5) (.row []) (.pt 2) = true := by kernel_rfl
set_option maxRecDepth 100000 in
theorem r5_4_7 : run (.known 5) (.row []) (.pt 3) = true := by kernel_rfl
set_option maxRecDepth 100000 in
theorem r5_4_8 : run (.known 5) (.row []) (.pt 4) = true := by kernel_rfl
set_option maxRecDepth 100000 in
theorem r5_4_9 : run (.known 5) (.row []) (.pt 5) = true := by kernel_rfl
theorem r5_4 : AllL (fun c => run (.known 5) (.row []) c = true) pclasses := ⟨r5_4_0, r5_4_1, r5_4_2, r5_4_3, r5_4_4, r5_4_5, r5_4_6, r5_4_7, r5_4_8, r5_4_9, trivial⟩
set_option maxRecDepth 100000 in
theorem r5_8_0 : run (.known 5) (.row [1, 1, 1, 1]) .nil = true := by kernel_rfl
set_option maxRecDepth 100000 in
theorem r5_8_1 : run (.known 5) (.row [1, 1, 1, 1]) .zero = true := by kernel_rfl
set_option maxRecDepth 100000 in
theorem r5_8_2 : run (.known 5) (.row [1, 1, 1, 1]) .no = true := by kernel_rfl
set_option maxRecDepth 100000 in
theorem r5_8_3 : run (.known 5) (.row [1, 1, 1, 1]) .long = true := by kernel_rfl
set_option maxRecDepth 100000 in
theorem r5_8_4 : run (.known 5) (.row [1, 1, 1, 1]) (.pt 0) = true := by kernel_rfl
set_option maxRecDepth 100000 in
theorem r5_8_5 : run (.known 5) (.row [1, 1, 1, 1]) (.pt 1) = true := by kernel_rfl
set_option maxRecDepth 100000 in
theorem r5_8_6 : run (.known 5) (.row [1, 1, 1, 1]) (.pt 2) = true := by kernel_rfl
set_option maxRecDepth 100000 in
theorem r5_8_7 : run (.known 5) (.row [1, 1, 1, 1]) (.pt 3) = true := by kernel_rfl
set_option maxRecDepth 100000 in
theorem r5_8_8 : run (.known 5) (.row [1, 1, 1, 1]) (.pt 4) = true := by kernel_rfl
set_option maxRecDepth 100000 in
theorem r5_8_9 : run (.known 5) (.row [1, 1, 1, 1]) (.pt 5) = true := by kernel_rfl
theorem r5_8 : AllL (fun c => run (.known 5) (.row [1, 1, 1, 1]) c = true) pclasses := ⟨r5_8_0, r5_8_1, r5_8_2, r5_8_3, r5_8_4, r5_8_5, r5_8_6, r5_8_7, r5_8_8, r5_8_9, trivial⟩
set_option maxRecDepth 100000 in
theorem r5_12_0 : run (.known 5) (.row [2, 1]) .nil = true := by kernel_rfl
set_option maxRecDepth 100000 in
theorem r5_12_1 : run (.known 5) (.row [2, 1]) .zero = true := by kernel_rfl
set_option maxRecDepth 100000 in
theorem r5_12_2 : run (.known 5) (.row [2, 1]) .no = true := by kernel_rfl
set_option maxRecDepth 100000 in
theorem r5_12_3 : run (.known 5) (.row [2, 1]) .long = true := by kernel_rfl
set_option maxRecDepth 100000 in
theorem r5_12_4 : run (.known 5) (.row [2, 1]) (.pt 0) = true := by kernel_rfl
set_option maxRecDepth 100000 in
theorem r5_12_5 : run (.known 5) (.row [2, 1]) (.pt 1) = true := by kernel_rfl
set_option maxRecDepth 100000 in
theorem r5_12_6 : run (.known 5) (.row [2, 1]) (.pt 2) = true := by kernel_rfl
set_option maxRecDepth 100000 in
theorem r5_12_7 : run (.known 5) (.row [2, 1]) (.pt 3) = true := by kernel_rfl
set_option maxRecDepth 100000 in
theorem r5_12_8 : run (.known 5) (.row [2, 1]) (.pt 4) = true := by kernel_rfl
set_option maxRecDepth 100000 in
theorem r5_12_9 : run (.known 5) (.row [2, 1]) (.pt 5) = true := by kernel_rfl
theorem r5_12 : AllL (fun c => run (.known 5) (.row [2, 1]) c = true) pclasses := ⟨r5_12_0, r5_12_1, r5_12_2, r5_12_3, r5_12_4, r5_12_5, r5_12_6, r5_12_7, r5_12_8, r5_12_9, trivial⟩
set_option maxRecDepth 100000 in
theorem r5_16_0 : run (.known 5) (.row [2, 2]) .nil = true := by kernel_rfl
set_option maxRecDepth 100000 in
theorem r5_16_1 : run (.known 5) (.row [2, 2]) .zero = true := by kernel_rfl
set_option maxRecDepth 100000 in
theorem r5_16_2 : run (.known 5) (.row [2, 2]) .no = true := by kernel_rfl
set_option maxRecDepth 100000 in
theorem r5_16_3 : run (.known 5) (.row [2, 2]) .long = true := by kernel_rfl
set_option maxRecDepth 100000 in
theorem r5_16_4 : run (.known 5) (.row [2, 2]) (.pt 0) = true := by kernel_rfl
set_option maxRecDepth 100000 in
theorem r5_16_5 : run (.known 5) (.row [2, 2]) (.pt 1) = true := by kernel_rfl
set_option maxRecDepth 100000 in
theorem r5_16_6 : run (.known 5) (.row [2, 2]) (.pt 2) = true := by kernel_rfl
set_option maxRecDepth 100000 in
theorem r5_16_7 : run (.known 5) (.row [2, 2]) (.pt 3) = true := by kernel_rfl
set_option maxRecDepth 100000 in
theorem r5_16_8 : run (.known 5) (.row [2, 2]) (.pt 4) = true := by kernel_rfl
set_option maxRecDepth 100000 in
theorem r5_16_9 : run (.known 5) (.row [2, 2]) (.pt 5) = true := by kernel_rfl
theorem r5_16 : AllL (fun c => run (.known 5) (.row [2, 2]) c = true) pclasses := ⟨r5_16_0, r5_16_1, r5_16_2, r5_16_3, r5_16_4, r5_16_5, r5_16_6, r5_16_7, r5_16_8, r5_16_9, trivial⟩
set_option maxRecDepth 100000 in
theorem r5_20_0 : run (.known 5) (.row [3]) .nil = true := by kernel_rfl
set_option maxRecDepth 100000 in
theorem r5_20_1 : run (.known 5) (.row [3]) .zero = true := by kernel_rfl
set_option maxRecDepth 100000 in
theorem r5_20_2 : run (.known 5) (.row [3]) .no = true := by kernel_rfl
set_option maxRecDepth 100000 in
theorem r5_20_3 : run (.known 5) (.row [3]) .long = true := by kernel_rfl
set_option maxRecDepth 100000 in
theorem r5_20_4 : run (.known 5) (.row [3]) (.pt 0) = true := by kernel_rfl
set_option maxRecDepth 100000 in
theorem r5_20_5 : run (.known 5) (.row [3]) (.pt 1) = true := by kernel_rfl
set_option maxRecDepth 100000 in
theorem r5_20_6 : run (.known 5) (.row [3]) (.pt 2) = true := by kernel_rfl
set_option maxRecDepth 100000 in
theorem r5_20_7 : run (.known 5) (.row [3]) (.pt 3) = true := by kernel_rfl
set_option maxRecDepth 100000 in
theorem r5_20_8 : run (.known 5) (.row [3]) (.pt 4) = true := by kernel_rfl
set_option maxRecDepth 100000 in
theorem r5_20_9 : run (.known 5) (.row [3]) (.pt 5) = true := by kernel_rfl
theorem r5_20 : AllL (fun c => run (.known 5) (.row [3]) c = true) pclasses := ⟨r5_20_0, r5_20_1, r5_20_2, r5_20_3, r5_20_4, r5_20_5, r5_20_6, r5_20_7, r5_20_8, r5_20_9, trivial⟩
set_option maxRecDepth 100000 in
theorem r5_24_0 : run (.known 5) (.row [3, 2]) .nil = true := by kernel_rfl
set_option maxRecDepth 100000 in
theorem r5_24_1 : run (.known 5) (.row [3, 2]) .zero = true := by kernel_rfl
set_option maxRecDepth 100000 in
theorem r5_24_2 : run (.known 5) (.row [3, 2]) .no = true := by kernel_rfl
set_option maxRecDepth 100000 in
theorem r5_24_3 : run (.known 5) (.row [3, 2]) .long = true := by kernel_rfl
set_option maxRecDepth 100000 in
theorem r5_24_4 : run (.known 5) (.row [3, 2]) (.pt 0) = true := by kernel_rfl
set_option maxRecDepth 100000 in
theorem r5_24_5 : run (.known 5) (.row [3, 2]) (.pt 1) = true := by kernel_rfl
set_option maxRecDepth 100000 in
theorem r5_24_6 : run (.known 5) (.row [3, 2]) (.pt 2) = true := by kernel_rfl
set_option maxRecDepth 100000 in
theorem r5_24_7 : run (.known 5) (.row [3, 2]) (.pt 3) = true := by kernel_rfl
set_option maxRecDepth 100000 in
theorem r5_24_8 : run (.known 5) (.row [3, 2]) (.pt 4) = true := by kernel_rfl
set_option maxRecDepth 100000 in
theorem r5_24_9 : run (.known 5) (.row [3, 2]) (.pt 5) = true := by kernel_rfl
theorem r5_24 : AllL (fun c => run (.known 5) (.row [3, 2]) c = true) pclasses := ⟨r5_24_0, r5_24_1, r5_24_2, r5_24_3, r5_24_4, r5_24_5, r5_24_6, r5_24_7, r5_24_8, r5_24_9, trivial⟩
set_option maxRecDepth 100000 in
theorem r5_28_0 : run (.known 5) (.row [4, 1]) .nil = true := by kernel_rfl
set_option maxRecDepth 100000 in
theorem r5_28_1 : run (.known 5) (.row [4, 1]) .zero = true := by kernel_rfl
set_option maxRecDepth 100000 in
theorem r5_28_2 : run (.known 5) (.row [4, 1]) .no = true := by kernel_rfl
set_option maxRecDepth 100000 in
theorem r5_28_3 : run (.known 5) (.row [4, 1]) .long = true := by kernel_rfl
set_option maxRecDepth 100000 in
theorem r5_28_4 : run (.known 5) (.row [4, 1]) (.pt 0) = true := by kernel_rfl
set_option maxRecDepth 100000 in
theorem r5_28_5 : run (.known 5) (.row [4, 1]) (.pt 1) = true := by kernel_rfl
set_option maxRecDepth 100000 in
theorem r5_28_6 : run (.known 5) (.row [4, 1]) (.pt 2) = true := by kernel_rfl
set_option maxRecDepth 100000 in
theorem r5_28_7 : run (.known 5) (.row [4, 1]) (.pt 3) = true := by kernel_rfl
set_option maxRecDepth 100000 in
theorem r5_28_8 : run (.known 5) (.row [4, 1]) (.pt 4) = true := by kernel_rfl
set_option maxRecDepth 100000 in
theorem r5_28_9 : run (.known 5) (.row [4, 1]) (.pt 5) = true := by kernel_rfl
theorem r5_28 : AllL (fun c => run (.known 5) (.row [4, 1]) c = true) pclasses := ⟨r5_28_0, r5_28_1, r5_28_2, r5_28_3, r5_28_4, r5_28_5, r5_28_6, r5_28_7, r5_28_8, r5_28_9, trivial⟩
set_option maxRecDepth 100000 in
theorem r5_32_0 : run (.known 5) (.row [5, 1]) .nil = true := by kernel_rfl
set_option maxRecDepth 100000 in
theorem r5_32_1 : run (.known 5) (.row [5, 1]) .zero = true := by kernel_rfl
set_option maxRecDepth 100000 in
theorem r5_32_2 : run (.known 5) (.row [5, 1]) .no = true := by kernel_rfl
set_option maxRecDepth 100000 in
theorem r5_32_3 : run (.known 5) (.row [5, 1]) .long = true := by kernel_rfl
set_option maxRecDepth 100000 in
theorem r5_32_4 : run (.known 5) (.row [5, 1]) (.pt 0) = true := by kernel_rfl
set_option maxRecDepth 100000 in
theorem r5_32_5 : run (.known 5) (.row [5, 1]) (.pt 1) = true := by kernel_rfl
set_option maxRecDepth 100000 in
theorem r5_32_6 : run (.known 5) (.row [5, 1]) (.pt 2) = true := by kernel_rfl
set_option maxRecDepth 100000 in
theorem r5_32_7 : run (.known 5) (.row [5, 1]) (.pt 3) = true := by kernel_rfl
set_option maxRecDepth 100000 in
theorem r5_32_8 : run (.known 5) (.row [5, 1]) (.pt 4) = true := by kernel_rfl
set_option maxRecDepth 100000 in
theorem r5_32_9 : run (.known 5) (.row [5, 1]) (.pt 5) = true := by kernel_rfl
theorem r5_32 : AllL (fun c => run (.known 5) (.row [5, 1]) c = true) pclasses := ⟨r5_32_0, r5_32_1, r5_32_2, r5_32_3, r5_32_4, r5_32_5, r5_32_6, r5_32_7, r5_32_8, r5_32_9, trivial⟩
set_option maxRecDepth 100000 in
theorem r6_2_0 : run .other .no .nil = true := by kernel_rfl
set_option maxRecDepth 100000 in
theorem r6_2_1 : run .other .no .zero = true := by kernel_rfl
set_option maxRecDepth 100000 in
theorem r6_2_2 : run .other .no .no = true := by kernel_rfl
set_option maxRecDepth 100000 in
theorem r6_2_3 : run .other .no .long = true := by kernel_rfl
set_option maxRecDepth 100000 in
theorem r6_2_4 : run .other .no (.pt 0) = true := by kernel_rfl
set_option maxRecDepth 100000 in
theorem r6_2_5 : run .other .no (.pt 1) = true := by kernel_rfl
set_option maxRecDepth 100000 in
theorem r6_2_6 : run .other .no (.pt 2) = true := by kernel_rfl
set_option maxRecDepth 100000 in
theorem r6_2_7 : run .other .no (.pt 3) = true := by kernel_rfl
set_option maxRecDepth 100000 in
theorem r6_2_8 : run .other .no (.pt 4) = true := by kernel_rfl
set_option maxRecDepth 100000 in
theorem r6_2_9 : run .other .no (.pt 5) = true := by kernel_rfl
theorem r6_2 : AllL (fun c => run .other .no c = true) pclasses := ⟨r6_2_0, r6_2_1, r6_2_2, r6_2_3, r6_2_4, r6_2_5, r6_2_6, r6_2_7, r6_2_8, r6_2_9, trivial⟩
set_option maxRecDepth 100000 in
theorem r6_6_0 : run .other (.row [1, 1]) .nil = true := by kernel_rfl
set_option maxRecDepth 100000 in
theorem r6_6_1 : run .other (.row [1, 1]) .zero = true := by kernel_rfl
set_option maxRecDepth 100000 in
theorem r6_6_2 : run .other (.row [1, 1]) .no = true := by kernel_rfl
set_option maxRecDepth 100000 in
theorem r6_6_3 : run .other (.row [1, 1]) .long = true := by kernel_rfl
set_option maxRecDepth 100000 in
theorem r6_6_4 : run .other (.row [1, 1]) (.pt 0) = true := by kernel_rfl
set_option maxRecDepth 100000 in
theorem r6_6_5 : run .other (.row [1, 1]) (.pt 1) = true := by kernel_rfl
set_option maxRecDepth 100000 in
theorem r6_6_6 : run .other (.row [1, 1]) (.pt 2) = true := by kernel_rfl
set_option maxRecDepth 100000 in
theorem r6_6_7 : run .other (.row [1, 1]) (.pt 3) = true := by kernel_rfl
set_option maxRecDepth 100000 in
theorem r6_6_8 : run .other (.row [1, 1]) (.pt 4) = true := by kernel_rfl
set_option maxRecDepth 100000 in
theorem r6_6_9 : run .other (.row [1, 1]) (.pt 5) = true := by kernel_rfl
theorem r6_6 : AllL (fun c => run .other (.row [1, 1]) c = true) pclasses := ⟨r6_6_0, r6_6_1, r6_6_2, r6_6_3, r6_6_4, r6_6_5, r6_6_6, r6_6_7, r6_6_8, r6_6_9, trivial⟩
set_option maxRecDepth 100000 in
theorem r6_10_0 : run .other (.row [1, 1, 1, 1, 1, 1]) .nil = true := by kernel_rfl
set_option maxRecDepth 100000 in
theorem r6_10_1 : run .other (.row [1, 1, 1, 1, 1, 1]) .zero = true := by kernel_rfl
set_option maxRecDepth 100000 in
theorem r6_10_2 : run .other (.row [1, 1, 1, 1, 1, 1]) .no = true := by kernel_rfl
set_option maxRecDepth 100000 in
theorem r6_10_3 : run .other (.row [1, 1, 1, 1, 1, 1]) .long = true := by kernel_rfl
set_option maxRecDepth 100000 in
theorem r6_10_4 : run .other (.row [1, 1, 1, 1, 1, 1]) (.pt 0) = true := by kernel_rfl
set_option maxRecDepth 100000 in
theorem r6_10_5 : run .other (.row [1, 1, 1, 1, 1, 1]) (.pt 1) = true := by kernel_rfl
set_option maxRecDepth 100000 in
theorem r6_10_6 : run .other (.row [1, 1, 1, 1, 1, 1]) (.pt 2) = true := by kernel_rfl
set_option maxRecDepth 100000 in
theorem r6_10_7 : run .other (.row [1, 1, 1, 1, 1, 1]) (.pt 3) = true := by kernel_rfl
set_option maxRecDepth 100000 in
theorem r6_10_8 : run .other (.row [1, 1, 1, 1, 1, 1]) (.pt 4) = true := by kernel_rfl
set_option maxRecDepth 100000 in
theorem r6_10_9 : run .other (.row [1, 1, 1, 1, 1, 1]) (.pt 5) = true := by kernel_rfl
theorem r6_10 : AllL (fun c => run .other (.row [1, 1, 1, 1, 1, 1]) c = true) pclasses := ⟨r6_10_0, r6_10_1, r6_10_2, r6_10_3, r6_10_4, r6_10_5, r6_10_6, r6_10_7, r6_10_8, r6_10_9, trivial⟩
set_option maxRecDepth 100000 in
theorem r6_14_0 : run .other (.row [2, 1, 1, 1]) .nil = true := by kernel_rfl
set_option maxRecDepth 100000 in
theorem r6_14_1 : run .other (.row [2, 1, 1, 1]) .zero = true := by kernel_rfl
set_option maxRecDepth 100000 in
theorem r6_14_2 : run .other (.row [2, 1, 1, 1]) .no = true := by kernel_rfl
set_option maxRecDepth 100000 in
theorem r6_14_3 : run .other (.row [2, 1, 1, 1]) .long = true := by kernel_rfl
set_option maxRecDepth 100000 in
theorem r6_14_4 : run .other (.row [2, 1, 1, 1]) (.pt 0) = true := by kernel_rfl
set_option maxRecDepth 100000 in
theorem r6_14_5 : run .other (.row [2, 1, 1, 1]) (.pt 1) = true := by kernel_rfl
set_option maxRecDepth 100000 in
theorem r6_14_6 : run .other (.row [2, 1, 1, 1]) (.pt 2) = true := by kernel_rfl
set_option maxRecDepth 100000 in
theorem r6_14_7 : run .other (.row [2, 1, 1, 1]) (.pt 3) = true := by kernel_rfl
set_option maxRecDepth 100000 in
theorem r6_14_8 : run .other (.row [2, 1, 1, 1]) (.pt 4) = true := by kernel_rfl
set_option maxRecDepth 100000 in
theorem r6_14_9 : run .other (.row [2, 1, 1, 1]) (.pt 5) = true := by kernel_rfl
theorem r6_14 : AllL (fun c => run .other (.row [2, 1, 1, 1]) c = true) pclasses := ⟨r6_14_0, r6_14_1, r6_14_2, r6_14_3, r6_14_4, r6_14_5, r6_14_6, r6_14_7, r6_14_8, r6_14_9, trivial⟩
set_option maxRecDepth 100000 in
theorem r6_18_0 : run .other (.row [2, 2, 1, 1]) .nil = true := by kernel_rfl
set_option maxRecDepth 100000 in
theorem r6_18_1 : run .other (.row [2, 2, 1, 1]) .zero = true := by kernel_rfl
set_option maxRecDepth 100000 in
theorem r6_18_2 : run .other (.row [2, 2, 1, 1]) .no = true := by kernel_rfl
set_option maxRecDepth 100000 in
theorem r6_18_3 : run .other (.row [2, 2, 1, 1]) .long = true := by kernel_rfl
set_option maxRecDepth 100000 in
theorem r6_18_4 : run .other (.row [2, 2, 1, 1]) (.pt 0) = true := by kernel_rfl
set_option maxRecDepth 100000 in
theorem r6_18_5 : run .other (.row [2, 2, 1, 1]) (.pt 1) = true := by kernel_rfl
set_option maxRecDepth 100000 in
theorem r6_18_6 : run .other (.row [2, 2, 1, 1]) (.pt 2) = true := by kernel_rfl
set_option maxRecDepth 100000 in
theorem r6_18_7 : run .other (.row [2, 2, 1, 1]) (.pt 3) = true := by kernel_rfl
set_option maxRecDepth 100000 in
theorem r6_18_8 : run .other (.row [2, 2, 1, 1]) (.pt 4) = true := by kernel_rfl
set_option maxRecDepth 100000 in
theorem r6_18_9 : run .other (.row [2, 2, 1, 1]) (.pt 5) = true := by kernel_rfl
theorem r6_18 : AllL (fun c => run .other (.row [2, 2, 1, 1]) c = true) pclasses := ⟨r6_18_0, r6_18_1, r6_18_2, r6_18_3, r6_18_4, r6_18_5, r6_18_6, r6_18_7, r6_18_8, r6_18_9, trivial⟩
set_option maxRecDepth 100000 in
theorem r6_22_0 : run .other (.row [3, 1, 1]) .nil = true := by kernel_rfl
set_option maxRecDepth 100000 in
theorem r6_22_1 : run .other (.row [3, 1, 1]) .zero = true := by kernel_rfl
set_option maxRecDepth 100000 in
theorem r6_22_2 : run .other (.row [3, 1, 1]) .no = true := by kernel_rfl
set_option maxRecDepth 100000 in
theorem r6_22_3 : run .other (.row [3, 1, 1]) .long = true := by kernel_rfl
set_option maxRecDepth 100000 in
theorem r6_22_4 : run .other (.row [3, 1, 1]) (.pt 0) = true := by kernel_rfl
set_option maxRecDepth 100000 in
theorem r6_22_5 : run .other (.row [3, 1, 1]) (.pt 1) = true := by kernel_rfl
set_option maxRecDepth 100000 in
theorem r6_22_6 : run .other (.row [3, 1, 1]) (.pt 2) = true := by kernel_rfl
set_option maxRecDepth 100000 in
theorem r6_22_7 : run .other (.row [3, 1, 1]) (.pt 3) = true := by kernel_rfl
set_option maxRecDepth 100000 in
theorem r6_22_8 : run .other (.row [3, 1, 1]) (.pt 4) = true := by kernel_rfl
set_option maxRecDepth 100000 in
theorem r6_22_9 : run .other (.row [3, 1, 1]) (.pt 5) = true := by kernel_rfl
theorem r6_22 : AllL (fun c => run .other (.row [3, 1, 1]) c = true) pclasses := ⟨r6_22_0, r6_22_1, r6_22_2, r6_22_3, r6_22_4, r6_22_5, r6_22_6, r6_22_7, r6_22_8, r6_22_9, trivial⟩
set_option maxRecDepth 100000 in
theorem r6_26_0 : run .other (.row [3, 3]) .nil = true := by kernel_rfl
set_option maxRecDepth 100000 in
theorem r6_26_1 : run .other (.row [3, 3]) .zero = true := by kernel_rfl
set_option maxRecDepth 100000 in
theorem r6_26_2 : run .other (.row [3, 3]) .no = true := by kernel_rfl
set_option maxRecDepth 100000 in
theorem r6_26_3 : run .other (.row [3, 3]) .long = true := by kernel_rfl
set_option maxRecDepth 100000 in
theorem r6_26_4 : run .other (.row [3, 3]) (.pt 0) = true := by kernel_rfl
set_option maxRecDepth 100000 in
theorem r6_26_5 : run .other (.row [3, 3]) (.pt 1) = true := by kernel_rfl
set_option maxRecDepth 100000 in
theorem r6_26_6 : run .other (.row [3, 3]) (.pt 2) = true := by kernel_rfl
set_option maxRecDepth 100000 in
theorem r6_26_7 : run .other (.row [3, 3]) (.pt 3) = true := by kernel_rfl
set_option maxRecDepth 100000 in
theorem r6_26_8 : run .other (.row [3, 3]) (.pt 4) = true := by kernel_rfl
set_option maxRecDepth 100000 in
theorem r6_26_9 : run .other (.row [3, 3]) (.pt 5) = true := by kernel_rfl
theorem r6_26 : AllL (fun c => run .other (.row [3, 3]) c = true) pclasses := ⟨r6_26_0, r6_26_1, r6_26_2, r6_26_3, r6_26_4, r6_26_5, r6_26_6, r6_26_7, r6_26_8, r6_26_9, trivial⟩
set_option maxRecDepth 100000 in
theorem r6_30_0 : run .other (.row [4, 2]) .nil = true := by kernel_rfl
set_option maxRecDepth 100000 in
theorem r6_30_1 : run .other (.row [4, 2]) .zero = true := by kernel_rfl
set_option maxRecDepth 100000 in
theorem r6_30_2 : run .other (.row [4, 2]) .no = true := by kernel_rfl
set_option maxRecDepth 100000 in
theorem r6_30_3 : run .other (.row [4, 2]) .long = true := by kernel_rfl
set_option maxRecDepth 100000 in
theorem r6_30_4 : run .other (.row [4, 2]) (.pt 0) = true := by kernel_rfl
set_option maxRecDepth 100000 in
theorem r6_30_5 : run .other (.row [4, 2]) (.pt 1) = true := by kernel_rfl
set_option maxRecDepth 100000 in
theorem r6_30_6 : run .other (.row [4, 2]) (.pt 2) = true := by kernel_rfl
set_option maxRecDepth 100000 in
theorem r6_30_7 : run .other (.row [4, 2]) (.pt 3) = true := by kernel_rfl
set_option maxRecDepth 100000 in
theorem r6_30_8 : run .other (.row [4, 2]) (.pt 4) = true := by kernel_rfl
set_option maxRecDepth 100000 in
theorem r6_30_9 : run .other (.row [4, 2]) (.pt 5) = true := by kernel_rfl
theorem r6_30 : AllL (fun c => run .other (.row [4, 2]) c = true) pclasses := ⟨r6_30_0, r6_30_1, r6_30_2, r6_30_3, r6_30_4, r6_30_5, r6_30_6, r6_30_7, r6_30_8, r6_30_9, trivial⟩
set_option maxRecDepth 100000 in
theorem r7_0_0 : run .long .nil .nil = true := by kernel_rfl
set_option maxRecDepth 100000 in
theorem r7_0_1 : run .long .nil .zero = true := by kernel_rfl
set_option maxRecDepth 100000 in
theorem r7_0_2 : run .long .nil .no = true := by kernel_rfl
set_option maxRecDepth 100000 in
theorem r7_0_3 : run .long .nil .long = true := by kernel_rfl
set_option maxRecDepth 100000 in
theorem r7_0_4 : run .long .nil (.pt 0) = true := by kernel_rfl
set_option maxRecDepth 100000 in
theorem r7_0_5 : run .long .nil (.pt 1) = true := by kernel_rfl
set_option maxRecDepth 100000 in
theorem r7_0_6 : run .long .nil (.pt 2) = true := by kernel_rfl
set_option maxRecDepth 100000 in
theorem r7_0_7 : run .long .nil (.pt 3) = true := by kernel_rfl
set_option maxRecDepth 100000 in
theorem r7_0_8 : run .long .nil (.pt 4) = true := by kernel_rfl
set_option maxRecDepth 100000 in
theorem r7_0_9 : run .long .nil (.pt 5) = true := by kernel_rfl
theorem r7_0 : AllL (fun c => run .long .nil c = true) pclasses := ⟨r7_0_0, r7_0_1, r7_0_2, r7_0_3, r7_0_4, r7_0_5, r7_0_6, r7_0_7, r7_0_8, r7_0_9, trivial⟩
set_option maxRecDepth 100000 in
theorem r7_4_0 : run .long (.row []) .nil = true := by kernel_rfl
set_option maxRecDepth 100000 in
theorem r7_4_1 : run .long (.row []) .zero = true := by kernel_rfl
set_option maxRecDepth 100000 in
theorem r7_4_2 : run .long (.row []) .no = true := by kernel_rfl
set_option maxRecDepth 100000 in
theorem r7_4_3 : run .long (.row []) .long = true := by kernel_rfl
set_option maxRecDepth 100000 in
theorem r7_4_4 : run .long (.row []) (.pt 0) = true := by kernel_rfl
set_option maxRecDepth 100000 in
theorem r7_4_5 : run .long (.row []) (.pt 1) = true := by kernel_rfl
set_option maxRecDepth 100000 in
theorem r7_4_6 : run .long (.row []) (.pt 2) = true := by kernel_rfl
set_option maxRecDepth 100000 in
theorem r7_4_7 : run .long (.row []) (.pt 3) = true := by kernel_rfl
set_option maxRecDepth 100000 in
theorem r7_4_8 : run .long (.row []) (.pt 4) = true := by kernel_rfl
set_option maxRecDepth 100000 in
theorem r7_4_9 : run .long (.row []) (.pt 5) = true := by kernel_rfl
theorem r7_4 : AllL (fun c => run .long (.row []) c = true) pclasses := ⟨r7_4_0, r7_4_1, r7_4_2, r7_4_3, r7_4_4, r7_4_5, r7_4_6, r7_4_7, r7_4_8, r7_4_9, trivial⟩
set_option maxRecDepth 100000 in
theorem r7_8_0 : run .long (.row [1, 1, 1, 1]) .nil = true := by kernel_rfl
set_option maxRecDepth 100000 in
theorem r7_8_1 : run .long (.row [1, 1, 1, 1]) .zero = true := by kernel_rfl
set_option maxRecDepth 100000 in
theorem r7_8_2 : run .long (.row [1, 1, 1, 1]) .no = true := by kernel_rfl
set_option maxRecDepth 100000 in
theorem r7_8_3 : run .long (.row [1, 1, 1, 1]) .long = true := by kernel_rfl
set_option maxRecDepth 100000 in
theorem r7_8_4 : run .long (.row [1, 1, 1, 1]) (.pt 0) = true := by kernel_rfl
set_option maxRecDepth 100000 in
theorem r7_8_5 : run .long (.row [1, 1, 1, 1]) (.pt 1) = true := by kernel_rfl
set_option maxRecDepth 100000 in
theorem r7_8_6 : run .long (.row [1, 1, 1, 1]) (.pt 2) = true := by kernel_rfl
set_option maxRecDepth 100000 in
theorem r7_8_7 : run .long (.row [1, 1, 1, 1]) (.pt 3) = true := by kernel_rfl
set_option maxRecDepth 100000 in
theorem r7_8_8 : run .long (.row [1, 1, 1, 1]) (.pt 4) = true := by kernel_rfl
set_option maxRecDepth 100000 in
theorem r7_8_9 : run .long (.row [1, 1, 1, 1]) (.pt 5) = true := by kernel_rfl
theorem r7_8 : AllL (fun c => run .long (.row [1, 1, 1, 1]) c = true) pclasses := ⟨r7_8_0, r7_8_1, r7_8_2, r7_8_3, r7_8_4, r7_8_5, r7_8_6, r7_8_7, r7_8_8, r7_8_9, trivial⟩
set_option maxRecDepth 100000 in
theorem r7_12_0 : run .long (.row [2, 1]) .nil = true := by kernel_rfl
set_option maxRecDepth 100000 in
theorem r7_12_1 : run .long (.row [2, 1]) .zero = true := by kernel_rfl
set_option maxRecDepth 100000 in
theorem r7_12_2 : run .long (.row [2, 1]) .no = true := by kernel_rfl
set_option maxRecDepth 100000 in
theorem r7_12_3 : run .long (.row [2, 1]) .long = true := by kernel_rfl
set_option maxRecDepth 100000 in
theorem r7_12_4 : run .long (.row [2, 1]) (.pt 0) = true := by kernel_rfl
set_option maxRecDepth 100000 in
theorem r7_12_5 : run .long (.row [2, 1]) (.pt 1) = true := by kernel_rfl
set_option maxRecDepth 100000 in
theorem r7_12_6 : run .long (.row [2, 1]) (.pt 2) = true := by kernel_rfl
set_option maxRecDepth 100000 in
theorem r7_12_7 : run .long (.row [2, 1]) (.pt 3) = true := by kernel_rfl
set_option maxRecDepth 100000 in
theorem r7_12_8 : run .long (.row [2, 1]) (.pt 4) = true := by kernel_rfl
set_option maxRecDepth 100000 in
theorem r7_12_9 : run .long (.row [2, 1]) (.pt 5) = true := by kernel_rfl
theorem r7_12 : AllL (fun c => run .long (.row [2, 1]) c = true) pclasses := ⟨r7_12_0, r7_12_1, r7_12_2, r7_12_3, r7_12_4, r7_12_5, r7_12_6, r7_12_7, r7_12_8, r7_12_9, trivial⟩
set_option maxRecDepth 100000 in
theorem r7_16_0 : run .long (.row [2, 2]) .nil = true := by kernel_rfl
set_option maxRecDepth 100000 in
theorem r7_16_1 : run .long (.row [2, 2]) .zero = true := by kernel_rfl
set_option maxRecDepth 100000 in
theorem r7_16_2 : run .long (.row [2, 2]) .no = true := by kernel_rfl
set_option maxRecDepth 100000 in
theorem r7_16_3 : run .long (.row [2, 2]) .long = true := by kernel_rfl
set_option maxRecDepth 100000 in
theorem r7_16_4 : run .long (.row [2, 2]) (.pt 0) = true := by kernel_rfl
set_option maxRecDepth 100000 in
theorem r7_16_5 : run .long (.row [2, 2]) (.pt 1) = true := by kernel_rfl
set_option maxRecDepth 100000 in
theorem r7_16_6 : run .long (.row [2, 2]) (.pt 2) = true := by kernel_rfl
set_option maxRecDepth 100000 in
theorem r7_16_7 : run .long (.row [2, 2]) (.pt 3) = true := by kernel_rfl
set_option maxRecDepth 100000 in
theorem r7_16_8 : run .long (.row [2, 2]) (.pt 4) = true := by kernel_rfl
set_option maxRecDepth 100000 in
theorem r7_16_9 : run .long (.row [2, 2]) (.pt 5) = true := by kernel_rfl
theorem r7_16 : AllL (fun c => run .long (.row [2, 2]) c = true) pclasses := ⟨r7_16_0, r7_16_1, r7_16_2, r7_16_3, r7_16_4, r7_16_5, r7_16_6, r7_16_7, r7_16_8, r7_16_9, trivial⟩
set_option maxRecDepth 100000 in
theorem r7_20_0 : run .long (.row [3]) .nil = true := by kernel_rfl
set_option maxRecDepth 100000 in
theorem r7_20_1 : run .long (.row [3]) .zero = true := by kernel_rfl
set_option maxRecDepth 100000 in
theorem r7_20_2 : run .long (.row [3]) .no = true := by kernel_rfl
set_option maxRecDepth 100000 in
theorem r7_20_3 : run .long (.row [3]) .long = true := by kernel_rfl
set_option maxRecDepth 100000 in
theorem r7_20_4 : run .long (.row [3]) (.pt 0) = true := by kernel_rfl
set_option maxRecDepth 100000 in
theorem r7_20_5 : run .long (.row [3]) (.pt 1) = true := by kernel_rfl
set_option maxRecDepth 100000 in
theorem r7_20_6 : run .long (.row [3]) (.pt 2) = true := by kernel_rfl
set_option maxRecDepth 100000 in
theorem r7_20_7 : run .long (.row [3]) (.pt 3) = true := by kernel_rfl
set_option maxRecDepth 100000 in
theorem r7_20_8 : run .long (.row [3]) (.pt 4) = true := by kernel_rfl
set_option maxRecDepth 100000 in
theorem r7_20_9 : run .long (.row [3]) (.pt 5) = true := by kernel_rfl
theorem r7_20 : AllL (fun c => run .long (.row [3]) c = true) pclasses := ⟨r7_20_0, r7_20_1, r7_20_2, r7_20_3, r7_20_4, r7_20_5, r7_20_6, r7_20_7, r7_20_8, r7_20_9, trivial⟩
set_option maxRecDepth 100000 in
theorem r7_24_0 : run .long (.row [3, 2]) .nil = true := by kernel_rfl
set_option maxRecDepth 100000 in
theorem r7_24_1 : run .long (.row [3, 2]) .zero = true := by kernel_rfl
set_option maxRecDepth 100000 in
theorem r7_24_2 : run .long (.row [3, 2]) .no = true := by kernel_rfl
set_option maxRecDepth 100000 in
theorem r7_24_3 : run .long (.row [3, 2]) .long = true := by kernel_rfl
set_option maxRecDepth 100000 in
theorem r7_24_4 : run .long (.row [3, 2]) (.pt 0) = true := by kernel_rfl
set_option maxRecDepth 100000 in
theorem r7_24_5 : run .long (.row [3, 2]) (.pt 1) = true := by kernel_rfl
set_option maxRecDepth 100000 in
theorem r7_24_6 : run .long (.row [3, 2]) (.pt 2) = true := by kernel_rfl
set_option maxRecDepth 100000 in
theorem r7_24_7 : run .long (.row [3, 2]) (.pt 3) = true := by kernel_rfl
set_option maxRecDepth 100000 in
theorem r7_24_8 : run .long (.row [3, 2]) (.pt 4) = true := by kernel_rfl
set_option maxRecDepth 100000 in
theorem r7_24_9 : run .long (.row [3, 2]) (.pt 5) = true := by kernel_rfl
theorem r7_24 : AllL (fun c => run .long (.row [3, 2]) c = true) pclasses := ⟨r7_24_0, r7_24_1, r7_24_2, r7_24_3, r7_24_4, r7_24_5, r7_24_6, r7_24_7, r7_24_8, r7_24_9, trivial⟩
set_option maxRecDepth 100000 in
theorem r7_28_0 : run .long (.row [4, 1]) .nil = true := by kernel_rfl
set_option maxRecDepth 100000 in
theorem r7_28_1 : run .long (.row [4, 1]) .zero = true := by kernel_rfl
set_option maxRecDepth 100000 in
theorem r7_28_2 : run .long (.row [4, 1]) .no = true := by kernel_rfl
set_option maxRecDepth 100000 in
theorem r7_28_3 : run .long (.row [4, 1]) .long = true := by kernel_rfl
set_option maxRecDepth 100000 in
theorem r7_28_4 : run .long (.row [4, 1]) (.pt 0) = true := by kernel_rfl
set_option maxRecDepth 100000 in
theorem r7_28_5 : run .long (.row [4, 1]) (.pt 1) = true := by kernel_rfl
set_option maxRecDepth 100000 in
theorem r7_28_6 : run .long (.row [4, 1]) (.pt 2) = true := by kernel_rfl
set_option maxRecDepth 100000 in
theorem r7_28_7 : run .long (.row [4, 1]) (.pt 3) = true := by kernel_rfl
set_option maxRecDepth 100000 in
theorem r7_28_8 : run .long (.row [4, 1]) (.pt 4) = true := by kernel_rfl
set_option maxRecDepth 100000 in
theorem r7_28_9 : run .long (.row [4, 1]) (.pt 5) = true := by kernel_rfl
theorem r7_28 : AllL (fun c => run .long (.row [4, 1]) c = true) pclasses := ⟨r7_28_0, r7_28_1, r7_28_2, r7_28_3, r7_28_4, r7_28_5, r7_28_6, r7_28_7, r7_28_8, r7_28_9, trivial⟩
set_option maxRecDepth 100000 in
theorem r7_32_0 : run .long (.row [5, 1]) .nil = true := by kernel_rfl
set_option maxRecDepth 100000 in
theorem r7_32_1 : run .long (.row [5, 1]) .zero = true := by kernel_rfl
set_option maxRecDepth 100000 in
theorem r7_32_2 : run .long (.row [5, 1]) .no = true := by kernel_rfl
set_option maxRecDepth 100000 in
theorem r7_32_3 : run .long (.row [5, 1]) .long = true := by kernel_rfl
set_option maxRecDepth 100000 in
theorem r7_32_4 : run .long (.row [5, 1]) (.pt 0) = true := by kernel_rfl
set_option maxRecDepth 100000 in
theorem r7_32_5 : run .long (.row [5, 1]) (.pt 1) = true := by kernel_rfl
set_option maxRecDepth 100000 in
theorem r7_32_6 : run .long (.row [5, 1]) (.pt 2) = true := by kernel_rfl
set_option maxRecDepth 100000 in
theorem r7_32_7 : run .long (.row [5, 1]) (.pt 3) = true := by kernel_rfl
set_option maxRecDepth 100000 in
theorem r7_32_8 : run .long (.row [5, 1]) (.pt 4) = true := by kernel_rfl
set_option maxRecDepth 100000 in
theorem r7_32_9 : run .long (.row [5, 1]) (.pt 5) = true := by kernel_rfl
theorem r7_32 : AllL (fun c => run .long (.row [5, 1]) c = true) pclasses := ⟨r7_32_0, r7_32_1, r7_32_2, r7_32_3, r7_32_4, r7_32_5, r7_32_6, r7_32_7, r7_32_8, r7_32_9, trivial⟩
end Go.Proofs.Ythcdiaahpodkoae.fnExactAtShareRuns
