/- The runs of FnExactAtShare. -/
import Derived.Test.YthcdiaahpodkoaeFnExactAtShareP
namespace Go.Proofs.Ythcdiaahpodkoae.fnExactAtShareRuns
open Go.Eng
set_option linter.unusedVariables false
set_option linter.unusedSectionVars false
set_option linter.unusedSimpArgs false
set_option maxRecDepth 100000 in
theorem r0_0_0 : run (.known 0) .nil .nil = true := by kernel_rfl
set_option maxRecDepth 100000 in
theorem r0_0_1 : run (.known 0) .nil .zero = true := by kernel_rfl
set_option maxRecDepth 100000 in
theorem r0_0_2 : run (.known 0) .nil .no = true := by kernel_rfl
set_option maxRecDepth 100000 in
theorem r0_0_3 : run (.known 0) .nil .long = true := by kernel_rfl
set_option maxRecDepth 100000 in
theorem r0_0_4 : run (.known 0) .nil (.pt 0) = true := by kernel_rfl
set_option maxRecDepth 100000 in
theorem r0_0_5 : run (.known 0) .nil (.pt 1) = true := by kernel_rfl
set_option maxRecDepth 100000 in
theorem r0_0_6 : run (.known 0) .nil (.pt 2) = true := by kernel_rfl
set_option maxRecDepth 100000 in
theorem r0_0_7 : run (.known 0) .nil (.pt 3) = true := by kernel_rfl
set_option maxRecDepth 100000 in
theorem r0_0_8 : run (.known 0) .nil (.pt 4) = true := by kernel_rfl
set_option maxRecDepth 100000 in
theorem r0_0_9 : run (.known 0) .nil (.pt 5) = true := by kernel_rfl
theorem r0_0 : AllL (fun c => run (.known 0) .nil c = true) pclasses := ⟨r0_0_0, r0_0_1, r0_0_2, r0_0_3, r0_0_4, r0_0_5, r0_0_6, r0_0_7, r0_0_8, r0_0_9, trivial⟩
set_option maxRecDepth 100000 in
theorem r0_4_0 : run (.known 0) (.row []) .nil = true := by kernel_rfl
set_option maxRecDepth 100000 in
theorem r0_4_1 : run (.known 0) (.row []) .zero = true := by kernel_rfl
set_option maxRecDepth 100000 in
theorem r0_4_2 : run (.known 0) (.row []) .no = true := by kernel_rfl
set_option maxRecDepth 100000 in
theorem r0_4_3 : run (.known 0) (.row []) .long = true := by kernel_rfl
set_option maxRecDepth 100000 in
theorem r0_4_4 : run (.known 0) (.row []) (.pt 0) = true := by kernel_rfl
set_option maxRecDepth 100000 in
theorem r0_4_5 : run (.known 0) (.row []) (.pt 1) = true := by kernel_rfl
set_option maxRecDepth 100000 in
theorem r0_4_6 : run (.known 0) (.row []) (.pt 2) = true := by kernel_rfl
set_option maxRecDepth 100000 in
theorem r0_4_7 : run (.known 0) (.row []) (.pt 3) = true := by kernel_rfl
set_option maxRecDepth 100000 in
theorem r0_4_8 : run (.known 0) (.row []) (.pt 4) = true := by kernel_rfl
set_option maxRecDepth 100000 in
theorem r0_4_9 : run (.known 0) (.row []) (.pt 5) = true := by kernel_rfl
theorem r0_4 : AllL (fun c => run (.known 0) (.row []) c = true) pclasses := ⟨r0_4_0, r0_4_1, r0_4_2, r0_4_3, r0_4_4, r0_4_5, r0_4_6, r0_4_7, r0_4_8, r0_4_9, trivial⟩
set_option maxRecDepth 100000 in
theorem r0_8_0 : run (.known 0) (.row [1, 1, 1, 1]) .nil = true := by kernel_rfl
set_option maxRecDepth 100000 in
theorem r0_8_1 : run (.known 0) (.row [1, 1, 1, 1]) .zero = true := by kernel_rfl
set_option maxRecDepth 100000 in
theorem r0_8_2 : run (.known 0) (.row [1, 1, 1, 1]) .no = true := by kernel_rfl
set_option maxRecDepth 100000 in
theorem r0_8_3 : run (.known 0) (.row [1, 1, 1, 1]) .long = true := by kernel_rfl
set_option maxRecDepth 100000 in
theorem r0_8_4 : run (.known 0) (.row [1, 1, 1, 1]) (.pt 0) = true := by kernel_rfl
set_option maxRecDepth 100000 in
theorem r0_8_5 : run (.known 0) (.row [1, 1, 1, 1]) (.pt 1) = true := by kernel_rfl
set_option maxRecDepth 100000 in
theorem r0_8_6 : run (.known 0) (.row [1, 1, 1, 1]) (.pt 2) = true := by kernel_rfl
set_option maxRecDepth 100000 in
theorem r0_8_7 : run (.known 0) (.row [1, 1, 1, 1]) (.pt 3) = true := by kernel_rfl
set_option maxRecDepth 100000 in
theorem r0_8_8 : run (.known 0) (.row [1, 1, 1, 1]) (.pt 4) = true := by kernel_rfl
set_option maxRecDepth 100000 in
theorem r0_8_9 : run (.known 0) (.row [1, 1, 1, 1]) (.pt 5) = true := by kernel_rfl
theorem r0_8 : AllL (fun c => run (.known 0) (.row [1, 1, 1, 1]) c = true) pclasses := ⟨r0_8_0, r0_8_1, r0_8_2, r0_8_3, r0_8_4, r0_8_5, r0_8_6, r0_8_7, r0_8_8, r0_8_9, trivial⟩
set_option maxRecDepth 100000 in
theorem r0_12_0 : run (.known 0) (.row [2, 1]) .nil = true := by kernel_rfl
set_option maxRecDepth 100000 in
theorem r0_12_1 : run (.known 0) (.row [2, 1]) .zero = true := by kernel_rfl
set_option maxRecDepth 100000 in
theorem r0_12_2 : run (.known 0) (.row [2, 1]) .no = true := by kernel_rfl
set_option maxRecDepth 100000 in
theorem r0_12_3 : run (.known 0) (.row [2, 1]) .long = true := by kernel_rfl
set_option maxRecDepth 100000 in
theorem r0_12_4 : run (.known 0) (.row [2, 1]) (.pt 0) = true := by kernel_rfl
set_option maxRecDepth 100000 in
theorem r0_12_5 : run (.known 0) (.row [2, 1]) (.pt 1) = true := by kernel_rfl
set_option maxRecDepth 100000 in
theorem r0_12_6 : run (.known 0) (.row [2, 1]) (.pt 2) = true := by kernel_rfl
set_option maxRecDepth 100000 in
theorem r0_12_7 : run (.known 0) (.row [2, 1]) (.pt 3) = true := by kernel_rfl
set_option maxRecDepth 100000 in
theorem r0_12_8 : run (.known 0) (.row [2, 1]) (.pt 4) = true := by kernel_rfl
set_option maxRecDepth 100000 in
theorem r0_12_9 : run (.known 0) (.row [2, 1]) (.pt 5) = true := by kernel_rfl
theorem r0_12 : AllL (fun c => run (.known 0) (.row [2, 1]) c = true) pclasses := ⟨r0_12_0, r0_12_1, r0_12_2, r0_12_3, r0_12_4, r0_12_5, r0_12_6, r0_12_7, r0_12_8, r0_12_9, trivial⟩
set_option maxRecDepth 100000 in
theorem r0_16_0 : run (.known 0) (.row [2, 2]) .nil = true := by kernel_rfl
set_option maxRecDepth 100000 in
theorem r0_16_1 : run (.known 0) (.row [2, 2]) .zero = true := by kernel_rfl
set_option maxRecDepth 100000 in
theorem r0_16_2 : run (.known 0) (.row [2, 2]) .no = true := by kernel_rfl
set_option maxRecDepth 100000 in
theorem r0_16_3 : run (.known 0) (.row [2, 2]) .long = true := by kernel_rfl
set_option maxRecDepth 100000 in
theorem r0_16_4 : run (.known 0) (.row [2, 2]) (.pt 0) = true := by kernel_rfl
set_option maxRecDepth 100000 in
theorem r0_16_5 : run (.known 0) (.row [2, 2]) (.pt 1) = true := by kernel_rfl
set_option maxRecDepth 100000 in
theorem r0_16_6 : run (.known 0) (.row [2, 2]) (.pt 2) = true := by kernel_rfl
set_option maxRecDepth 100000 in
theorem r0_16_7 : run (.known 0) (.row [2, 2]) (.pt 3) = true := by kernel_rfl
set_option maxRecDepth 100000 in
theorem r0_16_8 : run (.known 0) (.row [2, 2]) (.pt 4) = true := by kernel_rfl
set_option maxRecDepth 100000 in
theorem r0_16_9 : run (.known 0) (.row [2, 2]) (.pt 5) = true := by kernel_rfl
theorem r0_16 : AllL (fun c => run (.known 0) (.row [2, 2]) c = true) pclasses := ⟨r0_16_0, r0_16_1, r0_16_2, r0_16_3, r0_16_4, r0_16_5, r0_16_6, r0_16_7, r0_16_8, r0_16_9, trivial⟩
set_option maxRecDepth 100000 in
theorem r0_20_0 : run (.known 0) (.row [3]) .nil = true := by kernel_rfl
set_option maxRecDepth 100000 in
theorem r0_20_1 : run (.known 0) (.row [3]) .zero = true := by kernel_rfl
set_option maxRecDepth 100000 in
theorem r0_20_2 : run (.known 0) (.row [3]) .no = true := by kernel_rfl
set_option maxRecDepth 100000 in
theorem r0_20_3 : run (.known 0) (.row [3]) .long = true := by kernel_rfl
set_option maxRecDepth 100000 in
theorem r0_20_4 : run (.known 0) (.row [3]) (.pt 0) = true := by kernel_rfl
set_option maxRecDepth 100000 in
theorem r0_20_5 : run (.known 0) (.row [3]) (.pt 1) = true := by kernel_rfl
set_option maxRecDepth 100000 in
theorem r0_20_6 : run (.known 0) (.row [3]) (.pt 2) = true := by kernel_rfl
set_option maxRecDepth 100000 in
theorem r0_20_7 : run (.known 0) (.row [3]) (.pt 3) = true := by kernel_rfl
set_option maxRecDepth 100000 in
theorem r0_20_8 : run (.known 0) (.row [3]) (.pt 4) = true := by kernel_rfl
set_option maxRecDepth 100000 in
theorem r0_20_9 : run (.known 0) (.row [3]) (.pt 5) = true := by kernel_rfl
theorem r0_20 : AllL (fun c => run (.known 0) (.row [3]) c = true) pclasses := ⟨r0_20_0, r0_20_1, r0_20_2, r0_20_3, r0_20_4, r0_20_5, r0_20_6, r0_20_7, r0_20_8, r0_20_9, trivial⟩
set_option maxRecDepth 100000 in
theorem r0_24_0 : run (.known 0) (.row [3, 2]) .nil = true := by kernel_rfl
set_option maxRecDepth 100000 in
theorem r0_24_1 : run (.known 0) (.row [3, 2]) .zero = true := by kernel_rfl
set_option maxRecDepth 100000 in
theorem r0_24_2 : run (.known 0) (.row [3, 2]) .no = true := by kernel_rfl
set_option maxRecDepth 100000 in
theorem r0_24_3 : run (.known 0) (.row [3, 2]) .long = true := by kernel_rfl
set_option maxRecDepth 100000 in
theorem r0_24_4 : run (.known 0) (.row [3, 2]) (.pt 0) = true := by kernel_rfl
set_option maxRecDepth 100000 in
theorem r0_24_5 : run (.known 0) (.row [3, 2]) (.pt 1) = true := by kernel_rfl
set_option maxRecDepth 100000 in
theorem r0_24_6 : run (.known 0) (.row [3, 2]) (.pt 2) = true := by kernel_rfl
set_option maxRecDepth 100000 in
theorem r0_24_7 : run (.known 0) (.row [3, 2]) (.pt 3) = true := by kernel_rfl
set_option maxRecDepth 100000 in
theorem r0_24_8 : run (.known 0) (.row [3, 2]) (.pt 4) = true := by kernel_rfl
set_option maxRecDepth 100000 in
theorem r0_24_9 : run (.known 0) (.row [3, 2]) (.pt 5) = true := by kernel_rfl
theorem r0_24 : AllL (fun c => run (.known 0) (.row [3, 2]) c = true) pclasses := ⟨r0_24_0, r0_24_1, r0_24_2, r0_24_3, r0_24_4, r0_24_5, r0_24_6, r0_24_7, r0_24_8, r0_24_9, trivial⟩
set_option maxRecDepth 100000 in
theorem r0_28_0 : run (.known 0) (.row [4, 1]) .nil = true := by kernel_rfl
set_option maxRecDepth 100000 in
theorem r0_28_1 : run (.known 0) (.row [4, 1]) .zero = true := by kernel_rfl
set_option maxRecDepth 100000 in
theorem r0_28_2 : run (.known 0) (.row [4, 1]) .no = true := by kernel_rfl
set_option maxRecDepth 100000 in
theorem r0_28_3 : run (.known 0) (.row [4, 1]) .long = true := by kernel_rfl
set_option maxRecDepth 100000 in
theorem r0_28_4 : run (.known 0) (.row [4, 1]) (.pt 0) = true := by kernel_rfl
set_option maxRecDepth 100000 in
theorem r0_28_5 : run (.known 0) (.row [4, 1]) (.pt 1) = true := by kernel_rfl
set_option maxRecDepth 100000 in
theorem r0_28_6 : run (.known 0) (.row [4, 1]) (.pt 2) = true := by kernel_rfl
set_option maxRecDepth 100000 in
theorem r0_28_7 : run (.known 0) (.row [4, 1]) (.pt 3) = true := by kernel_rfl
set_option maxRecDepth 100000 in
theorem r0_28_8 : run (.known 0) (.row [4, 1]) (.pt 4) = true := by kernel_rfl
set_option maxRecDepth 100000 in
theorem r0_28_9 : run (.known 0) (.row [4, 1]) (.pt 5) = true := by kernel_rfl
theorem r0_28 : AllL (fun c => run (.known 0) (.row [4, 1]) c = true) pclasses := ⟨r0_28_0, r0_28_1, r0_28_2, r0_28_3, r0_28_4, r0_28_5, r0_28_6, r0_28_7, r0_28_8, r0_28_9, trivial⟩
set_option maxRecDepth 100000 in
theorem r0_32_0 : run (.known 0) (.row [5, 1]) .nil = true := by kernel_rfl
set_option maxRecDepth 100000 in
theorem r0_32_1 : run (.known 0) (.row [5, 1]) .zero = true := by kernel_rfl
set_option maxRecDepth 100000 in
theorem r0_32_2 : run (.known 0) (.row [5, 1]) .no = true := by kernel_rfl
set_option maxRecDepth 100000 in
theorem r0_32_3 : run (.known 0) (.row [5, 1]) .long = true := by kernel_rfl
set_option maxRecDepth 100000 in
theorem r0_32_4 : run (.known 0) (.row [5, 1]) (.pt 0) = true := by kernel_rfl
set_option maxRecDepth 100000 in
theorem r0_32_5 : run (.known 0) (.row [5, 1]) (.pt 1) = true := by kernel_rfl
set_option maxRecDepth 100000 in
theorem r0_32_6 : run (.known 0) (.row [5, 1]) (.pt 2) = true := by kernel_rfl
set_option maxRecDepth 100000 in
theorem r0_32_7 : run (.known 0) (.row [5, 1]) (.pt 3) = true := by kernel_rfl
set_option maxRecDepth 100000 in
theorem r0_32_8 : run (.known 0) (.row [5, 1]) (.pt 4) = true := by kernel_rfl
set_option maxRecDepth 100000 in
theorem r0_32_9 : run (.known 0) (.row [5, 1]) (.pt 5) = true := by kernel_rfl
theorem r0_32 : AllL (fun c => run (.known 0) (.row [5, 1]) c = true) pclasses := ⟨r0_32_0, r0_32_1, r0_32_2, r0_32_3, r0_32_4, r0_32_5, r0_32_6, r0_32_7, r0_32_8, r0_32_9, trivial⟩
set_option maxRecDepth 100000 in
theorem r1_2_0 : run (.known 1) .no .nil = true := by kernel_rfl
set_option maxRecDepth 100000 in
theorem r1_2_1 : run (.known 1) .no .zero = true := by kernel_rfl
set_option maxRecDepth 100000 in
theorem r1_2_2 : run (.known 1) .no .no = true := by kernel_rfl
set_option maxRecDepth 100000 in
theorem r1_2_3 : run (.known 1) .no .long = true := by kernel_rfl
set_option maxRecDepth 100000 in
theorem r1_2_4 : run (.known 1) .no (.pt 0) = true := by kernel_rfl
set_option maxRecDepth 100000 in
theorem r1_2_5 : run (.known 1) .no (.pt 1) = true := by kernel_rfl
set_option maxRecDepth 100000 in
theorem r1_2_6 : run (.known 1) .no (.pt 2) = true := by kernel_rfl
set_option maxRecDepth 100000 in
theorem r1_2_7 : run (.known 1) .no (.pt 3) = true := by kernel_rfl
set_option maxRecDepth 100000 in
theorem r1_2_8 : run (.known 1) .no (.pt 4) = true := by kernel_rfl
set_option maxRecDepth 100000 in
theorem r1_2_9 : run (.known 1) .no (.pt 5) = true := by kernel_rfl
theorem r1_2 : AllL (fun c => run (.known 1) .no c = true) pclasses := ⟨r1_2_0, r1_2_1, r1_2_2, r1_2_3, r1_2_4, r1_2_5, r1_2_6, r1_2_7, r1_2_8, r1_2_9, trivial⟩
set_option maxRecDepth 100000 in
theorem r1_6_0 : run (.known 1) (.row [1, 1]) .nil = true := by kernel_rfl
set_option maxRecDepth 100000 in
theorem r1_6_1 : run (.known 1) (.row [1, 1]) .zero = true := by kernel_rfl
set_option maxRecDepth 100000 in
theorem r1_6_2 : run (.known 1) (.row [1, 1]) .no = true := by kernel_rfl
set_option maxRecDepth 100000 in
theorem r1_6_3 : run (.known 1) (.row [1, 1]) .long = true := by kernel_rfl
set_option maxRecDepth 100000 in
theorem r1_6_4 : run (.known 1) (.row [1, 1]) (.pt 0) = true := by kernel_rfl
set_option maxRecDepth 100000 in
theorem r1_6_5 : run (.known 1) (.row [1, 1]) (.pt 1) = true := by kernel_rfl
set_option maxRecDepth 100000 in
theorem r1_6_6 : run (.known 1) (.row [1, 1]) (.pt 2) = true := by kernel_rfl
set_option maxRecDepth 100000 in
theorem r1_6_7 : run (.known 1) (.row [1, 1]) (.pt 3) = true := by kernel_rfl
set_option maxRecDepth 100000 in
theorem r1_6_8 : run (.known 1) (.row [1, 1]) (.pt 4) = true := by kernel_rfl
set_option maxRecDepth 100000 in
theorem r1_6_9 : run (.known 1) (.row [1, 1]) (.pt 5) = true := by kernel_rfl
theorem r1_6 : AllL (fun c => run (.known 1) (.row [1, 1]) c = true) pclasses := ⟨r1_6_0, r1_6_1, r1_6_2, r1_6_3, r1_6_4, r1_6_5, r1_6_6, r1_6_7, r1_6_8, r1_6_9, trivial⟩
set_option maxRecDepth 100000 in
theorem r1_10_0 : run (.known 1) (.row [1, 1, 1, 1, 1, 1]) .nil = true := by kernel_rfl
set_option maxRecDepth 100000 in
theorem r1_10_1 : run (.known 1) (.row [1, 1, 1, 1, 1, 1]) .zero = true := by kernel_rfl
set_option maxRecDepth 100000 in
theorem r1_10_2 : run (.known 1) (.row [1, 1, 1, 1, 1, 1]) .no = true := by kernel_rfl
set_option maxRecDepth 100000 in
theorem r1_10_3 : run (.known 1) (.row [1, 1, 1, 1, 1, 1]) .long = true := by kernel_rfl
set_option maxRecDepth 100000 in
theorem r1_10_4 : run (.known 1) (.row [1, 1, 1, 1, 1, 1]) (.pt 0) = true := by kernel_rfl
set_option maxRecDepth 100000 in
theorem r1_10_5 : run (.known 1) (.row [1, 1, 1, 1, 1, 1]) (.pt 1) = true := by kernel_rfl
set_option maxRecDepth 100000 in
theorem r1_10_6 : run (.known 1) (.row [1, 1, 1, 1, 1, 1]) (.pt 2) = true := by kernel_rfl
set_option maxRecDepth 100000 in
theorem r1_10_7 : run (.known 1) (.row [1, 1, 1, 1, 1, 1]) (.pt 3) = true := by kernel_rfl
set_option maxRecDepth 100000 in
theorem r1_10_8 : run (.known 1) (.row [1, 1, 1, 1, 1, 1]) (.pt 4) = true := by kernel_rfl
set_option maxRecDepth 100000 in
theorem r1_10_9 : run (.known 1) (.row [1, 1, 1, 1, 1, 1]) (.pt 5) = true := by kernel_rfl
theorem r1_10 : AllL (fun c => run (.known 1) (.row [1, 1, 1, 1, 1, 1]) c = true) pclasses := ⟨r1_10_0, r1_10_1, r1_10_2, r1_10_3, r1_10_4, r1_10_5, r1_10_6, r1_10_7, r1_10_8, r1_10_9, trivial⟩
set_option maxRecDepth 100000 in
theorem r1_14_0 : run (.known 1) (.row [2, 1, 1, 1]) .nil = true := by kernel_rfl
set_option maxRecDepth 100000 in
theorem r1_14_1 : run (.known 1) (.row [2, 1, 1, 1]) .zero = true := by kernel_rfl
set_option maxRecDepth 100000 in
theorem r1_14_2 : run (.known 1) (.row [2, 1, 1, 1]) .no = true := by kernel_rfl
set_option maxRecDepth 100000 in
theorem r1_14_3 : run (.known 1) (.row [2, 1, 1, 1]) .long = true := by kernel_rfl
set_option maxRecDepth 100000 in
theorem r1_14_4 : run (.known 1) (.row [2, 1, 1, 1]) (.pt 0) = true := by kernel_rfl
set_option maxRecDepth 100000 in
theorem r1_14_5 : run (.known 1) (.row [2, 1, 1, 1]) (.pt 1) = true := by kernel_rfl
set_option maxRecDepth 100000 in
theorem r1_14_6 : run (.known 1) (.row [2, 1, 1, 1]) (.pt 2) = true := by kernel_rfl
set_option maxRecDepth 100000 in
theorem r1_14_7 : run (.known 1) (.row [2, 1, 1, 1]) (.pt 3) = true := by kernel_rfl
set_option maxRecDepth 100000 in
theorem r1_14_8 : run (.known 1) (.row [2, 1, 1, 1]) (.pt 4) = true := by kernel_rfl
set_option maxRecDepth 100000 in
theorem r1_14_9 : run (.known 1) (.row [2, 1, 1, 1]) (.pt 5) = true := by kernel_rfl
theorem r1_14 : AllL (fun c => run (.known 1) (.row [2, 1, 1, 1]) c = true) pclasses := ⟨r1_14_0, r1_14_1, r1_14_2, r1_14_3, r1_14_4, r1_14_5, r1_14_6, r1_14_7, r1_14_8, r1_14_9, trivial⟩
set_option maxRecDepth 100000 in
theorem r1_18_0 : run (.known 1) (.row [2, 2, 1, 1]) .nil = true := by kernel_rfl
set_option maxRecDepth 100000 in
theorem r1_18_1 : run (.known 1) (.row [2, 2, 1, 1]) .zero = true := by kernel_rfl
set_option maxRecDepth 100000 in
theorem r1_18_2 : run (.known 1) (.row [2, 2, 1, 1]) .no = true := by kernel_rfl
set_option maxRecDepth 100000 in
theorem r1_18_3 : run (.known 1) (.row [2, 2, 1, 1]) .long = true := by kernel_rfl
set_option maxRecDepth 100000 in
theorem r1_18_4 : run (.known 1) (.row [2, 2, 1, 1]) (.pt 0) = true := by kernel_rfl
set_option maxRecDepth 100000 in
theorem r1_18_5 : run (.known 1) (.row [2, 2, 1, 1]) (.pt 1) = true := by kernel_rfl
set_option maxRecDepth 100000 in
theorem r1_18_6 : run (.known 1) (.row [2, 2, 1, 1]) (.pt 2) = true := by kernel_rfl
set_option maxRecDepth 100000 in
theorem r1_18_7 : run (.known 1) (.row [2, 2, 1, 1]) (.pt 3) = true := by kernel_rfl
set_option maxRecDepth 100000 in
theorem r1_18_8 : run (.known 1) (.row [2, 2, 1, 1]) (.pt 4) = true := by kernel_rfl
set_option maxRecDepth 100000 in
theorem r1_18_9 : run (.known 1) (.row [2, 2, 1, 1]) (.pt 5) = true := by kernel_rfl
theorem r1_18 : AllL (fun c => run (.known 1) (.row [2, 2, 1, 1]) c = true) pclasses := ⟨r1_18_0, r1_18_1, r1_18_2, r1_18_3, r1_18_4, r1_18_5, r1_18_6, r1_18_7, r1_18_8, r1_18_9, trivial⟩
set_option maxRecDepth 100000 in
theorem r1_22_0 : run (.known 1) (.row [3, 1, 1]) .nil = true := by kernel_rfl
set_option maxRecDepth 100000 in
theorem r1_22_1 : run (.known 1) (.row [3, 1, 1]) .zero = true := by kernel_rfl
set_option maxRecDepth 100000 in
theorem r1_22_2 : run (.known 1) (.row [3, 1, 1]) .no = true := by kernel_rfl
set_option maxRecDepth 100000 in
theorem r1_22_3 : run (.known 1) (.row [3, 1, 1]) .long = true := by kernel_rfl
set_option maxRecDepth 100000 in
theorem r1_22_4 : run (.known 1) (.row [3, 1, 1]) (.pt 0) = true := by kernel_rfl
set_option maxRecDepth 100000 in
theorem r1_22_5 : run (.known 1) (.row [3, 1, 1]) (.pt 1) = true := by kernel_rfl
set_option maxRecDepth 100000 in
theorem r1_22_6 : run (.known 1) (.row [3, 1, 1]) (.pt 2) = true := by kernel_rfl
set_option maxRecDepth 100000 in
theorem r1_22_7 : run (.known 1) (.row [3, 1, 1]) (.pt 3) = true := by kernel_rfl
set_option maxRecDepth 100000 in
theorem r1_22_8 : run (.known 1) (.row [3, 1, 1]) (.pt 4) = true := by kernel_rfl
set_option maxRecDepth 100000 in
theorem r1_22_9 : run (.known 1) (.row [3, 1, 1]) (.pt 5) = true := by kernel_rfl
theorem r1_22 : AllL (fun c => run (.known 1) (.row [3, 1, 1]) c = true) pclasses := ⟨r1_22_0, r1_22_1, r1_22_2, r1_22_3, r1_22_4, r1_22_5, r1_22_6, r1_22_7, r1_22_8, r1_22_9, trivial⟩
set_option maxRecDepth 100000 in
theorem r1_26_0 : run (.known 1) (.row [3, 3]) .nil = true := by kernel_rfl
set_option maxRecDepth 100000 in
theorem r1_26_1 : run (.known 1) (.row [3, 3]) .zero = true := by kernel_rfl
set_option maxRecDepth 100000 in
theorem r1_26_2 : run (.known 1) (.row [3, 3]) .no = true := by kernel_rfl
set_option maxRecDepth 100000 in
theorem r1_26_3 : run (.known 1) (.row [3, 3]) .long = true := by kernel_rfl
set_option maxRecDepth 100000 in
theorem r1_26_4 : run (.known 1) (.row [3, 3]) (.pt 0) = true := by kernel_rfl
set_option maxRecDepth 100000 in
theorem r1_26_5 : run (.known 1) (.row [3, 3]) (.pt 1) = true := by kernel_rfl
set_option maxRecDepth 100000 in
theorem r1_26_6 : run (.known 1) (.row [3, 3]) (.pt 2) = true := by kernel_rfl
set_option maxRecDepth 100000 in
theorem r1_26_7 : run (.known 1) (.row [3, 3]) (.pt 3) = true := by kernel_rfl
set_option maxRecDepth 100000 in
theorem r1_26_8 : run (.known 1) (.row [3, 3]) (.pt 4) = true := by kernel_rfl
set_option maxRecDepth 100000 in
theorem r1_26_9 : run (.known 1) (.row [3, 3]) (.pt 5) = true := by kernel_rfl
theorem r1_26 : AllL (fun c => run (.known 1) (.row [3, 3]) c = true) pclasses := ⟨r1_26_0, r1_26_1, r1_26_2, r1_26_3, r1_26_4, r1_26_5, r1_26_6, r1_26_7, r1_26_8, r1_26_9, trivial⟩
set_option maxRecDepth 100000 in
theorem r1_30_0 : run (.known 1) (.row [4, 2]) .nil = true := by kernel_rfl
set_option maxRecDepth 100000 in
theorem r1_30_1 : run (.known 1) (.row [4, 2]) .zero = true := by kernel_rfl
set_option maxRecDepth 100000 in
theorem r1_30_2 : run (.known 1) (.row [4, 2]) .no = true := by kernel_rfl
set_option maxRecDepth 100000 in
theorem r1_30_3 : run (.known 1) (.row [4, 2]) .long = true := by kernel_rfl
set_option maxRecDepth 100000 in
theorem r1_30_4 : run (.known 1) (.row [4, 2]) (.pt 0) = true := by kernel_rfl
set_option maxRecDepth 100000 in
theorem r1_30_5 : run (.known 1) (.row [4, 2]) (.pt 1) = true := by kernel_rfl
set_option maxRecDepth 100000 in
theorem r1_30_6 : run (.known 1) (.row [4, 2]) (.pt 2) = true := by kernel_rfl
set_option maxRecDepth 100000 in
theorem r1_30_7 : run (.known 1) (.row [4, 2]) (.pt 3) = true := by kernel_rfl
set_option maxRecDepth 100000 in
theorem r1_30_8 : run (.known 1) (.row [4, 2]) (.pt 4) = true := by kernel_rfl
set_option maxRecDepth 100000 in
theorem r1_30_9 : run (.known 1) (.row [4, 2]) (.pt 5) = true := by kernel_rfl
theorem r1_30 : AllL (fun c => run (.known 1) (.row [4, 2]) c = true) pclasses := ⟨r1_30_0, r1_30_1, r1_30_2, r1_30_3, r1_30_4, r1_30_5, r1_30_6, r1_30_7, r1_30_8, r1_30_9, trivial⟩
set_option maxRecDepth 100000 in
theorem r2_0_0 : run (.known 2) .nil .nil = true := by kernel_rfl
set_option maxRecDepth 100000 in
theorem r2_0_1 : run (.known 2) .nil .zero = true := by kernel_rfl
set_option maxRecDepth 100000 in
theorem r2_0_2 : run (.known 2) .nil .no = true := by kernel_rfl
set_option maxRecDepth 100000 in
theorem r2_0_3 : run (.known 2) .nil .long = true := by kernel_rfl
set_option maxRecDepth 100000 in
theorem r2_0_4 : run (.known 2) .nil (.pt 0) = true := by kernel_rfl
set_option maxRecDepth 100000 in
theorem r2_0_5 : run (.known 2) .nil (.pt 1) = true := by kernel_rfl
set_option maxRecDepth 100000 in
theorem r2_0_6 : run (.known 2) .nil (.pt 2) = true := by kernel_rfl
set_option maxRecDepth 100000 in
theorem r2_0_7 : run (.known 2) .nil (.pt 3) = true := by kernel_rfl
set_option maxRecDepth 100000 in
theorem r2_0_8 : run (.known 2) .nil (.pt 4) = true := by kernel_rfl
set_option maxRecDepth 100000 in
theorem r2_0_9 : run (.known 2) .nil (.pt 5) = true := by kernel_rfl
theorem r2_0 : AllL (fun c => run (.known 2) .nil c = true) pclasses := ⟨r2_0_0, r2_0_1, r2_0_2, r2_0_3, r2_0_4, r2_0_5, r2_0_6, r2_0_7, r2_0_8, r2_0_9, trivial⟩
set_option maxRecDepth 100000 in
theorem r2_4_0 : run (.known 2) (.row []) .nil = true := by kernel_rfl
set_option maxRecDepth 100000 in
theorem r2_4_1 : run (.known 2) (.row []) .zero = true := by kernel_rfl
set_option maxRecDepth 100000 in
theorem r2_4_2 : run (.known 2) (.row []) .no = true := by kernel_rfl
set_option maxRecDepth 100000 in
theorem r2_4_3 : run (.known 2) (.row []) .long = true := by kernel_rfl
set_option maxRecDepth 100000 in
theorem r2_4_4 : run (.known 2) (.row []) (.pt 0) = true := by kernel_rfl
set_option maxRecDepth 100000 in
theorem r2_4_5 : run (.known 2) (.row []) (.pt 1) = true := by kernel_rfl
set_option maxRecDepth 100000 in
theorem r2_4_6 : run (.known 2) (.row []) (.pt 2) = true := by kernel_rfl
set_option maxRecDepth 100000 in
theorem r2_4_7 : run (.known 2) (.row []) (.pt 3) = true := by kernel_rfl
set_option maxRecDepth 100000 in
theorem r2_4_8 : run (.known 2) (.row []) (.pt 4) = true := by kernel_rfl
set_option maxRecDepth 100000 in
theorem r2_4_9 : run (.known 2) (.row []) (.pt 5) = true := by kernel_rfl
theorem r2_4 : AllL (fun c => run (.known 2) (.row []) c = true) pclasses := ⟨r2_4_0, r2_4_1, r2_4_2, r2_4_3, r2_4_4, r2_4_5, r2_4_6, r2_4_7, r2_4_8, r2_4_9, trivial⟩
set_option maxRecDepth 100000 in
theorem r2_8_0 : run (.known 2) (.row [1, 1, 1, 1]) .nil = true := by kernel_rfl
set_option maxRecDepth 100000 in
theorem r2_8_1 : run (.known 2) (.row [1, 1, 1, 1]) .zero = true := by kernel_rfl
set_option maxRecDepth 100000 in
theorem r2_8_2 : run (.known 2) (.row [1, 1, 1, 1]) .no = true := by kernel_rfl
set_option maxRecDepth 100000 in
theorem r2_8_3 : run (.known 2) (.row [1, 1, 1, 1]) .long = true := by kernel_rfl
set_option maxRecDepth 100000 in
theorem r2_8_4 : run (.known 2) (.row [1, 1, 1, 1]) (.pt 0) = true := by kernel_rfl
set_option maxRecDepth 100000 in
theorem r2_8_5 : run (.known 2) (.row [1, 1, 1, 1]) (.pt 1) = true := by kernel_rfl
set_option maxRecDepth 100000 in
theorem r2_8_6 : run (.known 2) (.row [1, 1, 1, 1]) (.pt 2) = true := by kernel_rfl
set_option maxRecDepth 100000 in
theorem r2_8_7 : run (.known 2) (.row [1, 1, 1, 1]) (.pt 3) = true := by kernel_rfl
set_option maxRecDepth 100000 in
theorem r2_8_8 : run (.known 2) (.row [1, 1, 1, 1]) (.pt 4) = true := by kernel_rfl
set_option maxRecDepth 100000 in
theorem r2_8_9 : run (.known 2) (.row [1, 1, 1, 1]) (.pt 5) = true := by kernel_rfl
theorem r2_8 : AllL (fun c => run (.known 2) (.row [1, 1, 1, 1]) c = true) pclasses := ⟨r2_8_0, r2_8_1, r2_8_2, r2_8_3, r2_8_4, r2_8_5, r2_8_6, r2_8_7, r2_8_8, r2_8_9, trivial⟩
set_option maxRecDepth 100000 in
theorem r2_12_0 : run (.known 2) (.row [2, 1]) .nil = true := by kernel_rfl
set_option maxRecDepth 100000 in
theorem r2_12_1 : run (.known 2) (.row [2, 1]) .zero = true := by kernel_rfl
set_option maxRecDepth 100000 in
theorem r2_12_2 : run (.known 2) (.row [2, 1]) .no = true := by kernel_rfl
set_option maxRecDepth 100000 in
theorem r2_12_3 : run (.known 2) (.row [2, 1]) .long = true := by kernel_rfl
set_option maxRecDepth 100000 in
theorem r2_12_4 : run (.known 2) (.row [2, 1]) (.pt 0) = true := by kernel_rfl
set_option maxRecDepth 100000 in
theorem r2_12_5 : run (.known 2) (.row [2, 1]) (.pt 1) = true := by kernel_rfl
set_option maxRecDepth 100000 in
theorem r2_12_6 : run (.known 2) (.row [2, 1]) (.pt 2) = true := by kernel_rfl
set_option maxRecDepth 100000 in
theorem r2_12_7 : run (.known 2) (.row [2, 1]) (.pt 3) = true := by kernel_rfl
set_option maxRecDepth 100000 in
theorem r2_12_8 : run (.known 2) (.row [2, 1]) (.pt 4) = true := by kernel_rfl
set_option maxRecDepth 100000 in
theorem r2_12_9 : run (.known 2) (.row [2, 1]) (.pt 5) = true := by kernel_rfl
theorem r2_12 : AllL (fun c => run (.known 2) (.row [2, 1]) c = true) pclasses := ⟨r2_12_0, r2_12_1, r2_12_2, r2_12_3, r2_12_4, r2_12_5, r2_12_6, r2_12_7, r2_12_8, r2_12_9, trivial⟩
set_option maxRecDepth 100000 in
theorem r2_16_0 : run (.known 2) (.row [2, 2]) .nil = true := by kernel_rfl
set_option maxRecDepth 100000 in
theorem r2_16_1 : run (.known 2) (.row [2, 2]) .zero = true := by kernel_rfl
set_option maxRecDepth 100000 in
theorem r2_16_2 : run (.known 2) (.row [2, 2]) .no = true := by kernel_rfl
set_option maxRecDepth 100000 in
theorem r2_16_3 : run (.known 2) (.row [2, 2]) .long = true := by kernel_rfl
set_option maxRecDepth 100000 in
theorem r2_16_4 : run (.known 2) (.row [2, 2]) (.pt 0) = true := by kernel_rfl
set_option maxRecDepth 100000 in
theorem r2_16_5 : run (.known 2) (.row [2, 2]) (.pt 1) = true := by kernel_rfl
set_option maxRecDepth 100000 in
theorem r2_16_6 : run (.known 2) (.row [2, 2]) (.pt 2) = true := by kernel_rfl
set_option maxRecDepth 100000 in
theorem r2_16_7 : run (.known 2) (.row [2, 2]) (.pt 3) = true := by kernel_rfl
set_option maxRecDepth 100000 in
theorem r2_16_8 : run (.known 2) (.row [2, 2]) (.pt 4) = true := by kernel_rfl
set_option maxRecDepth 100000 in
theorem r2_16_9 : run (.known 2) (.row [2, 2]) (.pt 5) = true := by kernel_rfl
theorem r2_16 : AllL (fun c => run (.known 2) (.row [2, 2]) c = true) pclasses := ⟨r2_16_0, r2_16_1, r2_16_2, r2_16_3, r2_16_4, r2_16_5, r2_16_6, r2_16_7, r2_16_8, r2_16_9, trivial⟩
set_option maxRecDepth 100000 in
theorem r2_20_0 : run (.known 2) (.row [3]) .nil = true := by kernel_rfl
set_option maxRecDepth 100000 in
theorem r2_20_1 : run (.known 2) (.row [3]) .zero = true := by kernel_rfl
set_option maxRecDepth 100000 in
theorem r2_20_2 : run (.known 2) (.row [3]) .no = true := by kernel_rfl
set_option maxRecDepth 100000 in
theorem r2_20_3 : run (.known 2) (.row [3]) .long = true := by kernel_rfl
set_option maxRecDepth 100000 in
theorem r2_20_4 : run (.known 2) (.row [3]) (.pt 0) = true := by kernel_rfl
set_option maxRecDepth 100000 in
theorem r2_20_5 : run (.known 2) (.row [3]) (.pt 1) = true := by kernel_rfl
set_option maxRecDepth 100000 in
theorem r2_20_6 : run (.known 2) (.row [3]) (.pt 2) = true := by kernel_rfl
set_option maxRecDepth 100000 in
theorem r2_20_7 : run (.known 2) (.row [3]) (.pt 3) = true := by kernel_rfl
set_option maxRecDepth 100000 in
theorem r2_20_8 : run (.known 2) (.row [3]) (.pt 4) = true := by kernel_rfl
set_option maxRecDepth 100000 in
theorem r2_20_9 : run (.known 2) (.row [3]) (.pt 5) = true := by kernel_rfl
theorem r2_20 : AllL (fun c => run (.known 2) (.row [3]) c = true) pclasses := ⟨r2_20_0, r2_20_1, r2_20_2, r2_20_3, r2_20_4, r2_20_5, r2_20_6, r2_20_7, r2_20_8, r2_20_9, trivial⟩
set_option maxRecDepth 100000 in
theorem r2_24_0 : run (.known 2) (.row [3, 2]) .nil = true := by kernel_rfl
set_option maxRecDepth 100000 in
theorem r2_24_1 : run (.known 2) (.row [3, 2]) .zero = true := by kernel_rfl
set_option maxRecDepth 100000 in
theorem r2_24_2 : run (.known 2) (.row [3, 2]) .no = true := by kernel_rfl
set_option maxRecDepth 100000 in
theorem r2_24_3 : run (.known 2) (.row [3, 2]) .long = true := by kernel_rfl
set_option maxRecDepth 100000 in
theorem r2_24_4 : run (.known 2) (.row [3, 2]) (.pt 0) = true := by kernel_rfl
set_option maxRecDepth 100000 in
theorem r2_24_5 : run (.known 2) (.row [3, 2]) (.pt 1) = true := by kernel_rfl
set_option maxRecDepth 100000 in
theorem r2_24_6 : run (.known 2) (.row [3, 2]) (.pt 2) = true := by kernel_rfl
set_option maxRecDepth 100000 in
theorem r2_24_7 : run (.known 2) (.row [3, 2]) (.pt 3) = true := by kernel_rfl
set_option maxRecDepth 100000 in
theorem r2_24_8 : run (.known 2) (.row [3, 2]) (.pt 4) = true := by kernel_rfl
set_option maxRecDepth 100000 in
theorem r2_24_9 : run (.known 2) (.row [3, 2]) (.pt 5) = true := by kernel_rfl
theorem r2_24 : AllL (fun c => run (.known 2) (.row [3, 2]) c = true) pclasses := ⟨r2_24_0, r2_24_1, r2_24_2, r2_24_3, r2_24_4, r2_24_5, r2_24_6, r2_24_7, r2_24_8, r2_24_9, trivial⟩
set_option maxRecDepth 100000 in
theorem r2_28_0 : run (.known 2) (.row [4, 1]) .nil = true := by kernel_rfl
set_option maxRecDepth 100000 in
theorem r2_28_1 : run (.known 2) (.row [4, 1]) .zero = true := by kernel_rfl
set_option maxRecDepth 100000 in
theorem r2_28_2 : run (.known 2) (.row [4, 1]) .no = true := by kernel_rfl
set_option maxRecDepth 100000 in
theorem r2_28_3 : run (.known 2) (.row [4, 1]) .long = true := by kernel_rfl
set_option maxRecDepth 100000 in
theorem r2_28_4 : run (.known 2) (.row [4, 1]) (.pt 0) = true := by kernel_rfl
set_option maxRecDepth 100000 in
theorem r2_28_5 : run (.known 2) (.row [4, 1]) (.pt 1) = true := by kernel_rfl
set_option maxRecDepth 100000 in
theorem r2_28_6 : run (.known 2) (.row [4, 1]) (.pt 2) = true := by kernel_rfl
set_option maxRecDepth 100000 in
theorem r2_28_7 : run (.known 2) (.row [4, 1]) (.pt 3) = true := by kernel_rfl
set_option maxRecDepth 100000 in
theorem r2_28_8 : run (.known 2) (.row [4, 1]) (.pt 4) = true := by kernel_rfl
set_option maxRecDepth 100000 in
theorem r2_28_9 : run (.known 2) (.row [4, 1]) (.pt 5) = true := by kernel_rfl
theorem r2_28 : AllL (fun c => run (.known 2) (.row [4, 1]) c = true) pclasses := ⟨r2_28_0, r2_28_1, r2_28_2, r2_28_3, r2_28_4, r2_28_5, r2_28_6, r2_28_7, r2_28_8, r2_28_9, trivial⟩
set_option maxRecDepth 100000 in
theorem r2_32_0 : run (.known 2) (.row [5, 1]) .nil = true := by kernel_rfl
set_option maxRecDepth 100000 in
theorem r2_32_1 : run (.known 2) (.row [5, 1]) .zero = true := by kernel_rfl
set_option maxRecDepth 100000 in
theorem r2_32_2 : run (.known 2) (.row [5, 1]) .no = true := by kernel_rfl
set_option maxRecDepth 100000 in
theorem r2_32_3 : run (.known 2) (.row [5, 1]) .long = true := by kernel_rfl
set_option maxRecDepth 100000 in
theorem r2_32_4 : run (.known 2) (.row [5, 1]) (.pt 0) = true := by kernel_rfl
set_option maxRecDepth 100000 in
theorem r2_32_5 : run (.known 2) (.row [5, 1]) (.pt 1) = true := by kernel_rfl
set_option maxRecDepth 100000 in
theorem r2_32_6 : run (.known 2) (.row [5, 1]) (.pt 2) = true := by kernel_rfl
set_option maxRecDepth 100000 in
theorem r2_32_7 : run (.known 2) (.row [5, 1]) (.pt 3) = true := by kernel_rfl
set_option maxRecDepth 100000 in
theorem r2_32_8 : run (.known 2) (.row [5, 1]) (.pt 4) = true := by kernel_rfl
set_option maxRecDepth 100000 in
theorem r2_32_9 : run (.known 2) (.row [5, 1]) (.pt 5) = true := by kernel_rfl
theorem r2_32 : AllL (fun c => run (.known 2) (.row [5, 1]) c = true) pclasses := ⟨r2_32_0, r2_32_1, r2_32_2, r2_32_3, r2_32_4, r2_32_5, r2_32_6, r2_32_7, r2_32_8, r2_32_9, trivial⟩
set_option maxRecDepth 100000 in
theorem r3_2_0 : run (.known 3) .no .nil = true := by kernel_rfl
set_option maxRecDepth 100000 in
theorem r3_2_1 : run (.known 3) .no .zero = true := by kernel_rfl
set_option maxRecDepth 100000 in
theorem r3_2_2 : run (.known 3) .no .no = true := by kernel_rfl
set_option maxRecDepth 100000 in
theorem r3_2_3 : run (.known 3) .no .long = true := by kernel_rfl
set_option maxRecDepth 100000 in
theorem r3_2_4 : run (.known 3) .no (.pt 0) = true := by kernel_rfl
set_option maxRecDepth 100000 in
theorem r3_2_5 : run (.known 3) .no (.pt 1) = true := by kernel_rfl
set_option maxRecDepth 100000 in
theorem r3_2_6 : run (.known 3) .no (.pt 2) = true := by kernel_rfl
set_option maxRecDepth 100000 in
theorem r3_2_7 : run (.known 3) .no (.pt 3) = true := by kernel_rfl
set_option maxRecDepth 100000 in
theorem r3_2_8 : run (.known 3) .no (.pt 4) = true := by kernel_rfl
set_option maxRecDepth 100000 in
theorem r3_2_9 : run (.known 3) .no (.pt 5) = true := by kernel_rfl
theorem r3_2 : AllL (fun c => run (.known 3) .no c = true) pclasses := ⟨r3_2_0, r3_2_1, r3_2_2, r3_2_3, r3_2_4, r3_2_5, r3_2_6, r3_2_7, r3_2_8, r3_2_9, trivial⟩
set_option maxRecDepth 100000 in
theorem r3_6_0 : run (.known 3) (.row [1, 1]) .nil = true := by kernel_rfl
set_option maxRecDepth 100000 in
theorem r3_6_1 : run (.known 3) (.row [1, 1]) .zero = true := by kernel_rfl
set_option maxRecDepth 100000 in
theorem r3_6_2 : run (.known 3) (.row [1, 1]) .no = true := by kernel_rfl
set_option maxRecDepth 100000 in
theorem r3_6_3 : run (.known 3) (.row [1, 1]) .long = true := by kernel_rfl
set_option maxRecDepth 100000 in
theorem r3_6_4 : run (.known 3) (.row [1, 1]) (.pt 0) = true := by kernel_rfl
set_option maxRecDepth 100000 in
theorem r3_6_5 : run (.known 3) (.row [1, 1]) (.pt 1) = true := by kernel_rfl
set_option maxRecDepth 100000 in
theorem r3_6_6 : run (.known 3) (.row [1, 1]) (.pt 2) = true := by kernel_rfl
set_option maxRecDepth 100000 in
theorem r3_6_7 : run (.known 3) (.row [1, 1]) (.pt 3) = true := by kernel_rfl
set_option maxRecDepth 100000 in
theorem r3_6_8 : run (.known 3) (.row [1, 1]) (.pt 4) = true := by kernel_rfl
set_option maxRecDepth 100000 in
theorem r3_6_9 : run (.known 3) (.row [1, 1]) (.pt 5) = true := by kernel_rfl
theorem r3_6 : AllL (fun c => run (.known 3) (.row [1, 1]) c = true) pclasses := ⟨r3_6_0, r3_6_1, r3_6_2, r3_6_3, r3_6_4, r3_6_5, r3_6_6, r3_6_7, r3_6_8, r3_6_9, trivial⟩
set_option maxRecDepth 100000 in
theorem r3_10_0 : run (.known 3) (.row [1, 1, 1, 1, 1, 1]) .nil = true := by kernel_rfl
set_option maxRecDepth 100000 in
theorem r3_10_1 : run (.known 3) (.row [1, 1, 1, 1, 1, 1]) .zero = true := by kernel_rfl
set_option maxRecDepth 100000 in
theorem r3_10_2 : run (.known 3) (.row [1, 1, 1, 1, 1, 1]) .no = true := by kernel_rfl
set_option maxRecDepth 100000 in
theorem r3_10_3 : run (.known 3) (.row [1, 1, 1, 1, 1, 1]) .long = true := by kernel_rfl
set_option maxRecDepth 100000 in
theorem r3_10_4 : run (.known 3) (.row [1, 1, 1, 1, 1, 1]) (.pt 0) = true := by kernel_rfl
set_option maxRecDepth 100000 in
theorem r3_10_5 : run (.known 3) (.row [1, 1, 1, 1, 1, 1]) (.pt 1) = true := by kernel_rfl
set_option maxRecDepth 100000 in
theorem r3_10_6 : run (.known 3) (.row [1, 1, 1, 1, 1, 1]) (.pt 2) = true := by kernel_rfl
set_option maxRecDepth 100000 in
theorem r3_10_7 : run (.known 3) (.row [1, 1, 1, 1, 1, 1]) (.pt 3) = true := by kernel_rfl
set_option maxRecDepth 100000 in
theorem r3_10_8 : run (.known 3) (.row [1, 1, 1, 1, 1, 1]) (.pt 4) = true := by kernel_rfl
set_option maxRecDepth 100000 in
theorem r3_10_9 : run (.known 3) (.row [1, 1, 1, 1, 1, 1]) (.pt 5) = true := by kernel_rfl
theorem r3_10 : AllL (fun c => run (.known 3) (.row [1, 1, 1, 1, 1, 1]) c = true) pclasses := ⟨r3_10_0, r3_10_1, r3_10_2, r3_10_3, r3_10_4, r3_10_5, r3_10_6, r3_10_7, r3_10_8, r3_10_9, trivial⟩
set_option maxRecDepth 100000 in
theorem r3_14_0 : run (.known 3) (.row [2, 1, 1, 1]) .nil = true := by kernel_rfl
set_option maxRecDepth 100000 in
theorem r3_14_1 : run (.known 3) (.row [2, 1, 1, 1]) .zero = true := by kernel_rfl
set_option maxRecDepth 100000 in
theorem r3_14_2 : run (.known 3) (.row [2, 1, 1, 1]) .no = true := by kernel_rfl
set_option maxRecDepth 100000 in
theorem r3_14_3 : run (.known 3) (.row [2, 1, 1, 1]) .long = true := by kernel_rfl
set_option maxRecDepth 100000 in
theorem r3_14_4 : run (.known 3) (.row [2, 1, 1, 1]) (.pt 0) = true := by kernel_rfl
set_option maxRecDepth 100000 in
theorem r3_14_5 : run (.known 3) (.row [2, 1, 1, 1]) (.pt 1) = true := by kernel_rfl
set_option maxRecDepth 100000 in
theorem r3_14_6 : run (.known 3) (.row [2, 1, 1, 1]) (.pt 2) = true := by kernel_rfl
set_option maxRecDepth 100000 in
theorem r3_14_7 : run (.known 3) (.row [2, 1, 1, 1]) (.pt 3) = true := by kernel_rfl
set_option maxRecDepth 100000 in
theorem r3_14_8 : run (.known 3) (.row [2, 1, 1, 1]) (.pt 4) = true := by kernel_rfl
set_option maxRecDepth 100000 in
theorem r3_14_9 : run (.known 3) (.row [2, 1, 1, 1]) (.pt 5) = true := by kernel_rfl
theorem r3_14 : AllL (fun c => run (.known 3) (.row [2, 1, 1, 1]) c = true) pclasses := ⟨r3_14_0, r3_14_1, r3_14_2, r3_14_3, r3_14_4, r3_14_5, r3_14_6, r3_14_7, r3_14_8, r3_14_9, trivial⟩
set_option maxRecDepth 100000 in
theorem r3_18_0 : run (.known 3) (.row [2, 2, 1, 1]) .nil = true := by kernel_rfl
set_option maxRecDepth 100000 in
theorem r3_18_1 : run (.known 3) (.row [2, 2, 1, 1]) .zero = true := by kernel_rfl
set_option maxRecDepth 100000 in
theorem r3_18_2 : run (.known 3) (.row [2, 2, 1, 1]) .no = true := by kernel_rfl
set_option maxRecDepth 100000 in
theorem r3_18_3 : run (.known 3) (.row [2, 2, 1, 1]) .long = true := by kernel_rfl
set_option maxRecDepth 100000 in
theorem r3_18_4 : run (.known 3) (.row [2, 2, 1, 1]) (.pt 0) = true := by kernel_rfl
set_option maxRecDepth 100000 in
theorem r3_18_5 : run (.known 3) (.row [2, 2, 1, 1]) (.pt 1) = true := by kernel_rfl
set_option maxRecDepth 100000 in
theorem r3_18_6 : run (.known 3) (.row [2, 2, 1, 1]) (.pt 2) = true := by kernel_rfl
set_option maxRecDepth 100000 in
theorem r3_18_7 : run (.known 3) (.row [2, 2, 1, 1]) (.pt 3) = true := by kernel_rfl
set_option maxRecDepth 100000 in
theorem r3_18_8 : run (.known 3) (.row [2, 2, 1, 1]) (.pt 4) = true := by kernel_rfl
set_option maxRecDepth 100000 in
theorem r3_18_9 : run (.known 3) (.row [2, 2, 1, 1]) (.pt 5) = true := by kernel_rfl
theorem r3_18 : AllL (fun c => run (.known 3) (.row [2, 2, 1, 1]) c = true) pclasses := ⟨r3_18_0, r3_18_1, r3_18_2, r3_18_3, r3_18_4, r3_18_5, r3_18_6, r3_18_7, r3_18_8, r3_18_9, trivial⟩
set_option maxRecDepth 100000 in
theorem r3_22_0 : run (.known 3) (.row [3, 1, 1]) .nil = true := by kernel_rfl
set_option maxRecDepth 100000 in
theorem r3_22_1 : run (.known 3) (.row [3, 1, 1]) .zero = true := by kernel_rfl
set_option maxRecDepth 100000 in
theorem r3_22_2 : run (.known 3) (.row [3, 1, 1]) .no = true := by kernel_rfl
set_option maxRecDepth 100000 in
theorem r3_22_3 : run (.known 3) (.row [3, 1, 1]) .long = true := by kernel_rfl
set_option maxRecDepth 100000 in
theorem r3_22_4 : run (.known 3) (.row [3, 1, 1]) (.pt 0) = true := by kernel_rfl
set_option maxRecDepth 100000 in
theorem r3_22_5 : run (.known 3) (.row [3, 1, 1]) (.pt 1) = true := by kernel_rfl
set_option maxRecDepth 100000 in
theorem r3_22_6 : run (.known 3) (.row [3, 1, 1]) (.pt 2) = true := by kernel_rfl
set_option maxRecDepth 100000 in
theorem r3_22_7 : run (.known 3) (.row [3, 1, 1]) (.pt 3) = true := by kernel_rfl
set_option maxRecDepth 100000 in
theorem r3_22_8 : run (.known 3) (.row [3, 1, 1]) (.pt 4) = true := by kernel_rfl
set_option maxRecDepth 100000 in
theorem r3_22_9 : run (.known 3) (.row [3, 1, 1]) (.pt 5) = true := by kernel_rfl
theorem r3_22 : AllL (fun c => run (.known 3) (.row [3, 1, 1]) c = true) pclasses := ⟨r3_22_0, r3_22_1, r3_22_2, r3_22_3, r3_22_4, r3_22_5, r3_22_6, r3_22_7, r3_22_8, r3_22_9, trivial⟩
set_option maxRecDepth 100000 in
theorem r3_26_0 : run (.known 3) (.row [3, 3]) .nil = true := by kernel_rfl
set_option maxRecDepth 100000 in
theorem r3_26_1 : run (.known 3) (.row [3, 3]) .zero = true := by kernel_rfl
set_option maxRecDepth 100000 in
theorem r3_26_2 : run (.known 3) (.row [3, 3]) .no = true := by kernel_rfl
set_option maxRecDepth 100000 in
theorem r3_26_3 : run (.known 3) (.row [3, 3]) .long = true := by kernel_rfl
set_option maxRecDepth 100000 in
theorem r3_26_4 : run (.known 3) (.row [3, 3]) (.pt 0) = true := by kernel_rfl
set_option maxRecDepth 100000 in
theorem r3_26_5 : run (.known 3) (.row [3, 3]) (.pt 1) = true := by kernel_rfl
set_option maxRecDepth 100000 in
theorem r3_26_6 : run (.known 3) (.row [3, 3]) (.pt 2) = true := by kernel_rfl
set_option maxRecDepth 100000 in
theorem r3_26_7 : run (.known 3) (.row [3, 3]) (.pt 3) = true := by kernel_rfl
set_option maxRecDepth 100000 in
theorem r3_26_8 : run (.known 3) (.row [3, 3]) (.pt 4) = true := by kernel_rfl
set_option maxRecDepth 100000 in
theorem r3_26_9 : run (.known 3) (.row [3, 3]) (.pt 5) = true := by kernel_rfl
theorem r3_26 : AllL (fun c => run (.known 3) (.row [3, 3]) c = true) pclasses := ⟨r3_26_0, r3_26_1, r3_26_2, r3_26_3, r3_26_4, r3_26_5, r3_26_6, r3_26_7, r3_26_8, r3_26_9, trivial⟩
set_option maxRecDepth 100000 in
theorem r3_30_0 : run (.known 3) (.row [4, 2]) .nil = true := by kernel_rfl
set_option maxRecDepth 100000 in
theorem r3_30_1 : run (.known 3) (.row [4, 2]) .zero = true := by kernel_rfl
set_option maxRecDepth 100000 in
theorem r3_30_2 : run (.known 3) (.row [4, 2]) .no = true := by kernel_rfl
set_option maxRecDepth 100000 in
theorem r3_30_3 : run (.known 3) (.row [4, 2]) .long = true := by kernel_rfl
set_option maxRecDepth 100000 in
theorem r3_30_4 : run (.known 3) (.row [4, 2]) (.pt 0) = true := by kernel_rfl
set_option maxRecDepth 100000 in
theorem r3_30_5 : run (.known 3) (.row [4, 2]) (.pt 1) = true := by kernel_rfl
set_option maxRecDepth 100000 in
theorem r3_30_6 : run (.known 3) (.row [4, 2]) (.pt 2) = true := by kernel_rfl
set_option maxRecDepth 100000 in
theorem r3_30_7 : run (.known 3) (.row [4, 2]) (.pt 3) = true := by kernel_rfl
set_option maxRecDepth 100000 in
theorem r3_30_8 : run (.known 3) (.row [4, 2]) (.pt 4) = true := by kernel_rfl
set_option maxRecDepth 100000 in
theorem r3_30_9 : run (.known 3) (.row [4, 2]) (.pt 5) = true := by kernel_rfl
theorem r3_30 : AllL (fun c => run (.known 3) (.row [4, 2]) c = true) pclasses := ⟨r3_30_0, r3_30_1, r3_30_2, r3_30_3, r3_30_4, r3_30_5, r3_30_6, r3_30_7, r3_30_8, r3_30_9, trivial⟩
set_option maxRecDepth 100000 in
theorem r4_0_0 : run (.known 4) .nil .nil = true := by kernel_rfl
set_option maxRecDepth 100000 in
theorem r4_0_1 : run (.known 4) .nil .zero = true := by kernel_rfl
set_option maxRecDepth 100000 in
theorem r4_0_2 : run (.known 4) .nil .no = true := by kernel_rfl
set_option maxRecDepth 100000 in
theorem r4_0_3 : run (.known 4) .nil .long = true := by kernel_rfl
set_option maxRecDepth 100000 in
theorem r4_0_4 : run (.known 4) .nil (.pt 0) = true := by kernel_rfl
set_option maxRecDepth 100000 in
theorem r4_0_5 : run (.known 4) .nil (.pt 1) = true := by kernel_rfl
set_option maxRecDepth 100000 in
theorem r4_0_6 : run (.known 4) .nil (.pt 2) = true := by kernel_rfl
set_option maxRecDepth 100000 in
theorem r4_0_7 : run (.known 4) .nil (.pt 3) = true := by kernel_rfl
set_option maxRecDepth 100000 in
theorem r4_0_8 : run (.known 4) .nil (.pt 4) = true := by kernel_rfl
set_option maxRecDepth 100000 in
theorem r4_0_9 : run (.known 4) .nil (.pt 5) = true := by kernel_rfl
theorem r4_0 : AllL (fun c => run (.known 4) .nil c = true) pclasses := ⟨r4_0_0, r4_0_1, r4_0_2, r4_0_3, r4_0_4, r4_0_5, r4_0_6, r4_0_7, r4_0_8, r4_0_9, trivial⟩
set_option maxRecDepth 100000 in
theorem r4_4_0 : run (.known 4) (.row []) .nil = true := by kernel_rfl
set_option maxRecDepth 100000 in
theorem r4_4_1 : run (.known 4) (.row []) .zero = true := by kernel_rfl
set_option maxRecDepth 100000 in
theorem r4_4_2 : run (.known 4) (.row []) .no = true := by kernel_rfl
set_option maxRecDepth 100000 in
theorem r4_4_3 : run (.known 4) (.row []) .long = true := by kernel_rfl
set_option maxRecDepth 100000 in
theorem r4_4_4 : run (.known 4) (.row []) (.pt 0) = true := by kernel_rfl
set_option maxRecDepth 100000 in
theorem r4_4_5 : run (.known 4) (.row []) (.pt 1) = true := by kernel_rfl
set_option maxRecDepth 100000 in
theorem r4_4_6 : run (.known 4) (.row []) (.pt 2) = true := by kernel_rfl
set_option maxRecDepth 100000 in
theorem r4_4_7 : run (.known 4) (.row []) (.pt 3) = true := by kernel_rfl
set_option maxRecDepth 100000 in
theorem r4_4_8 : run (.known 4) (.row []) (.pt 4) = true := by kernel_rfl
set_option maxRecDepth 100000 in
theorem r4_4_9 : run (.known 4) (.row []) (.pt 5) = true := by kernel_rfl
theorem r4_4 : AllL (fun c => run (.known 4) (.row []) c = true) pclasses := ⟨r4_4_0, r4_4_1, r4_4_2, r4_4_3, r4_4_4, r4_4_5, r4_4_6, r4_4_7, r4_4_8, r4_4_9, trivial⟩
set_option maxRecDepth 100000 in
theorem r4_8_0 : run (.known 4) (.row [1, 1, 1, 1]) .nil = true := by kernel_rfl
set_option maxRecDepth 100000 in
theorem r4_8_1 : run (.known 4) (.row [1, 1, 1, 1]) .zero = true := by kernel_rfl
set_option maxRecDepth 100000 in
theorem r4_8_2 : run (.known 4) (.row [1, 1, 1, 1]) .no = true := by kernel_rfl
set_option maxRecDepth 100000 in
theorem r4_8_3 : run (.known 4) (.row [1, 1, 1, 1]) .long = true := by kernel_rfl
set_option maxRecDepth 100000 in
theorem r4_8_4 : run (.known 4) (.row [1, 1, 1, 1]) (.pt 0) = true := by kernel_rfl
set_option maxRecDepth 100000 in
theorem r4_8_5 : run (.known 4) (.row [1, 1, 1, 1]) (.pt 1) = true := by kernel_rfl
set_option maxRecDepth 100000 in
theorem r4_8_6 : run (.known 4) (.row [1, 1, 1, 1]) (.pt 2) = true := by kernel_rfl
set_option maxRecDepth 100000 in
theorem r4_8_7 : run (.known 4) (.row [1, 1, 1, 1]) (.pt 3) = true := by kernel_rfl
set_option maxRecDepth 100000 in
theorem r4_8_8 : run (.known 4) (.row [1, 1, 1, 1]) (.pt 4) = true := by kernel_rfl
set_option maxRecDepth 100000 in
theorem r4_8_9 : run (.known 4) (.row [1, 1, 1, 1]) (.pt 5) = true := by kernel_rfl
theorem r4_8 : AllL (fun c => run (.known 4) (.row [1, 1, 1, 1]) c = true) pclasses := ⟨r4_8_0, r4_8_1, r4_8_2, r4_8_3, r4_8_4, r4_8_5, r4_8_6, r4_8_7, r4_8_8, r4_8_9, trivial⟩
set_option maxRecDepth 100000 in
theorem r4_12_0 : run (.known 4) (.row [2, 1]) .nil = true := by kernel_rfl
set_option maxRecDepth 100000 in
theorem r4_12_1 : run (.known 4) (.row [2, 1]) .zero = true := by kernel_rfl
set_option maxRecDepth 100000 in
theorem r4_12_2 : run (.known 4) (.row [2, 1]) .no = true := by kernel_rfl
set_option maxRecDepth 100000 in
theorem r4_12_3 : run (.known 4) (.row [2, 1]) .long = true := by kernel_rfl
set_option maxRecDepth 100000 in
theorem r4_12_4 : run (.known 4) (.row [2, 1]) (.pt 0) = true := by kernel_rfl
set_option maxRecDepth 100000 in
theorem r4_12_5 : run (.known 4) (.row [2, 1]) (.pt 1) = true := by kernel_rfl
set_option maxRecDepth 100000 in
theorem r4_12_6 : run (.known 4) (.row [2, 1]) (.pt 2) = true := by kernel_rfl
set_option maxRecDepth 100000 in
theorem r4_12_7 : run (.known 4) (.row [2, 1]) (.pt 3) = true := by kernel_rfl
set_option maxRecDepth 100000 in
theorem r4_12_8 : run (.known 4) (.row [2, 1]) (.pt 4) = true := by kernel_rfl
set_option maxRecDepth 100000 in
theorem r4_12_9 : run (.known 4) (.row [2, 1]) (.pt 5) = true := by kernel_rfl
theorem r4_12 : AllL (fun c => run (.known 4) (.row [2, 1]) c = true) pclasses := ⟨r4_12_0, r4_12_1, r4_12_2, r4_12_3, r4_12_4, r4_12_5, r4_12_6, r4_12_7, r4_12_8, r4_12_9, trivial⟩
set_option maxRecDepth 100000 in
theorem r4_16_0 : run (.known 4) (.row [2, 2]) .nil = true := by kernel_rfl
set_option maxRecDepth 100000 in
theorem r4_16_1 : run (.known 4) (.row [2, 2]) .zero = true := by kernel_rfl
set_option maxRecDepth 100000 in
theorem r4_16_2 : run (.known 4) (.row [2, 2]) .no = true := by kernel_rfl
set_option maxRecDepth 100000 in
theorem r4_16_3 : run (.known 4) (.row [2, 2]) .long = true := by kernel_rfl
set_option maxRecDepth 100000 in
theorem r4_16_4 : run (.known 4) (.row [2, 2]) (.pt 0) = true := by kernel_rfl
set_option maxRecDepth 100000 in
theorem r4_16_5 : run (.known 4) (.row [2, 2]) (.pt 1) = true := by kernel_rfl
set_option maxRecDepth 100000 in
theorem r4_16_6 : run (.known 4) (.row [2, 2]) (.pt 2) = true := by kernel_rfl
set_option maxRecDepth 100000 in
theorem r4_16_7 : run (.known 4) (.row [2, 2]) (.pt 3) = true := by kernel_rfl
set_option maxRecDepth 100000 in
theorem r4_16_8 : run (.known 4) (.row [2, 2]) (.pt 4) = true := by kernel_rfl
set_option maxRecDepth 100000 in
theorem r4_16_9 : run (.known 4) (.row [2, 2]) (.pt 5) = true := by kernel_rfl
theorem r4_16 : AllL (fun c => run (.known 4) (.row [2, 2]) c = true) pclasses := ⟨r4_16_0, r4_16_1, r4_16_2, r4_16_3, r4_16_4, r4_16_5, r4_16_6, r4_16_7, r4_16_8, r4_16_9, trivial⟩
set_option maxRecDepth 100000 in
theorem r4_20_0 : run (.known 4) (.row [3]) .nil = true := by kernel_rfl
set_option maxRecDepth 100000 in
theorem r4_20_1 : run (.known 4) (.row [3]) .zero = true := by kernel_rfl
set_option maxRecDepth 100000 in
theorem r4_20_2 : run (.known 4) (.row [3]) .no = true := by kernel_rfl
set_option maxRecDepth 100000 in
theorem r4_20_3 : run (.known 4) (.row [3]) .long = true := by kernel_rfl
set_option maxRecDepth 100000 in
theorem r4_20_4 : run (.known 4) (.row [3]) (.pt 0) = true := by kernel_rfl
set_option maxRecDepth 100000 in
theorem r4_20_5 : run (.known 4) (.row [3]) (.pt 1) = true := by kernel_rfl
set_option maxRecDepth 100000 in
theorem r4_20_6 : run (.known 4) (.row [3]) (.pt 2) = true := by kernel_rfl
set_option maxRecDepth 100000 in
theorem r4_20_7 : run (.known 4) (.row [3]) (.pt 3) = true := by kernel_rfl
set_option maxRecDepth 100000 in
theorem r4_20_8 : run (.known 4) (.row [3]) (.pt 4) = true := by kernel_rfl
set_option maxRecDepth 100000 in
theorem r4_20_9 : run (.known 4) (.row [3]) (.pt 5) = true := by kernel_rfl
theorem r4_20 : AllL (fun c => run (.known 4) (.row [3]) c = true) pclasses := ⟨r4_20_0, r4_20_1, r4_20_2, r4_20_3, r4_20_4, r4_20_5, r4_20_6, r4_20_7, r4_20_8, r4_20_9, trivial⟩
set_option maxRecDepth 100000 in
theorem r4_24_0 : run (.known 4) (.row [3, 2]) .nil = true := by kernel_rfl
set_option maxRecDepth 100000 in
theorem r4_24_1 : run (.known 4) (.row [3, 2]) .zero = true := by kernel_rfl
set_option maxRecDepth 100000 in
theorem r4_24_2 : run (.known 4) (.row [3, 2]) .no = true := by kernel_rfl
set_option maxRecDepth 100000 in
theorem r4_24_3 : run (.known 4) (.row [3, 2]) .long = true := by kernel_rfl
set_option maxRecDepth 100000 in
theorem r4_24_4 : run (.known 4) (.row [3, 2]) (.pt 0) = true := by kernel_rfl
set_option maxRecDepth 100000 in
theorem r4_24_5 : run (.known 4) (.row [3, 2]) (.pt 1) = true := by kernel_rfl
set_option maxRecDepth 100000 in
theorem r4_24_6 : run (.known 4) (.row [3, 2]) (.pt 2) = true := by kernel_rfl
set_option maxRecDepth 100000 in
theorem r4_24_7 : run (.known 4) (.row [3, 2]) (.pt 3) = true := by kernel_rfl
set_option maxRecDepth 100000 in
theorem r4_24_8 : run (.known 4) (.row [3, 2]) (.pt 4) = true := by kernel_rfl
set_option maxRecDepth 100000 in
theorem r4_24_9 : run (.known 4) (.row [3, 2]) (.pt 5) = true := by kernel_rfl
theorem r4_24 : AllL (fun c => run (.known 4) (.row [3, 2]) c = true) pclasses := ⟨r4_24_0, r4_24_1, r4_24_2, r4_24_3, r4_24_4, r4_24_5, r4_24_6, r4_24_7, r4_24_8, r4_24_9, trivial⟩
set_option maxRecDepth 100000 in
theorem r4_28_0 : run (.known 4) (.row [4, 1]) .nil = true := by kernel_rfl
set_option maxRecDepth 100000 in
theorem r4_28_1 : run (.known 4) (.row [4, 1]) .zero = true := by kernel_rfl
set_option maxRecDepth 100000 in
theorem r4_28_2 : run (.known 4) (.row [4, 1]) .no = true := by kernel_rfl
set_option maxRecDepth 100000 in
theorem r4_28_3 : run (.known 4) (.row [4, 1]) .long = true := by kernel_rfl
set_option maxRecDepth 100000 in
theorem r4_28_4 : run (.known 4) (.row [4, 1]) (.pt 0) = true := by kernel_rfl
set_option maxRecDepth 100000 in
theorem r4_28_5 : run (.known 4) (.row [4, 1]) (.pt 1) = true := by kernel_rfl
set_option maxRecDepth 100000 in
theorem r4_28_6 : run (.known 4) (.row [4, 1]) (.pt 2) = true := by kernel_rfl
set_option maxRecDepth 100000 in
theorem r4_28_7 : run (.known 4) (.row [4, 1]) (.pt 3) = true := by kernel_rfl
set_option maxRecDepth 100000 in
theorem r4_28_8 : run (.known 4) (.row [4, 1]) (.pt 4) = true := by kernel_rfl
set_option maxRecDepth 100000 in
theorem r4_28_9 : run (.known 4) (.row [4, 1]) (.pt 5) = true := by kernel_rfl
theorem r4_28 : AllL (fun c => run (.known 4) (.row [4, 1]) c = true) pclasses := ⟨r4_28_0, r4_28_1, r4_28_2, r4_28_3, r4_28_4, r4_28_5, r4_28_6, r4_28_7, r4_28_8, r4_28_9, trivial⟩
set_option maxRecDepth 100000 in
theorem r4_32_0 : run (.known 4) (.row [5, 1]) .nil = true := by kernel_rfl
set_option maxRecDepth 100000 in
theorem r4_32_1 : run (.known 4) (.row [5, 1]) .zero = true := by kernel_rfl
set_option maxRecDepth 100000 in
theorem r4_32_2 : run (.known 4) (.row [5, 1]) .no = true := by kernel_rfl
set_option maxRecDepth 100000 in
theorem r4_32_3 : run (.known 4) (.row [5, 1]) .long = true := by kernel_rfl
set_option maxRecDepth 100000 in
theorem r4_32_4 : run (.known 4) (.row [5, 1]) (.pt 0) = true := by kernel_rfl
set_option maxRecDepth 100000 in
theorem r4_32_5 : run (.known 4) (.row [5, 1]) (.pt 1) = true := by kernel_rfl
set_option maxRecDepth 100000 in
theorem r4_32_6 : run (.known 4) (.row [5, 1]) (.pt 2) = true := by kernel_rfl
set_option maxRecDepth 100000 in
theorem r4_32_7 : run (.known 4) (.row [5, 1]) (.pt 3) = true := by kernel_rfl
set_option maxRecDepth 100000 in
theorem r4_32_8 : run (.known 4) (.row [5, 1]) (.pt 4) = true := by kernel_rfl
set_option maxRecDepth 100000 in
theorem r4_32_9 : run (.known 4) (.row [5, 1]) (.pt 5) = true := by kernel_rfl
theorem r4_32 : AllL (fun c => run (.known 4) (.row [5, 1]) c = true) pclasses := ⟨r4_32_0, r4_32_1, r4_32_2, r4_32_3, r4_32_4, r4_32_5, r4_32_6, r4_32_7, r4_32_8, r4_32_9, trivial⟩
set_option maxRecDepth 100000 in
theorem r5_2_0 : run (.known 5) .no .nil = true := by kernel_rfl
set_option maxRecDepth 100000 in
theorem r5_2_1 : run (.known 5) .no .zero = true := by kernel_rfl
set_option maxRecDepth 100000 in
theorem r5_2_2 : run (.known 5) .no .no = true := by kernel_rfl
set_option maxRecDepth 100000 in
theorem r5_2_3 : run (.known 5) .no .long = true := by kernel_rfl
set_option maxRecDepth 100000 in
theorem r5_2_4 : run (.known 5) .no (.pt 0) = true := by kernel_rfl
set_option maxRecDepth 100000 in
theorem r5_2_5 : run (.known 5) .no (.pt 1) = true := by kernel_rfl
set_option maxRecDepth 100000 in
theorem r5_2_6 : run (.known 5) .no (.pt 2) = true := by kernel_rfl
set_option maxRecDepth 100000 in
theorem r5_2_7 : run (.known 5) .no (.pt 3) = true := by kernel_rfl
set_option maxRecDepth 100000 in
theorem r5_2_8 : run (.known 5) .no (.pt 4) = true := by kernel_rfl
set_option maxRecDepth 100000 in
theorem r5_2_9 : run (.known 5) .no (.pt 5) = true := by kernel_rfl
theorem r5_2 : AllL (fun c => run (.known 5) .no c = true) pclasses := ⟨r5_2_0, r5_2_1, r5_2_2, r5_2_3, r5_2_4, r5_2_5, r5_2_6, r5_2_7, r5_2_8, r5_2_9, trivial⟩
set_option maxRecDepth 100000 in
theorem r5_6_0 : run (.known 5) (.row [1, 1]) .nil = true := by kernel_rfl
set_option maxRecDepth 100000 in
theorem r5_6_1 : run (.known 5) (.row [1, 1]) .zero = true := by kernel_rfl
set_option maxRecDepth 100000 in
theorem r5_6_2 : run (.known 5) (.row [1, 1]) .no = true := by kernel_rfl
set_option maxRecDepth 100000 in
theorem r5_6_3 : run (.known 5) (.row [1, 1]) .long = true := by kernel_rfl
set_option maxRecDepth 100000 in
theorem r5_6_4 : run (.known 5) (.row [1, 1]) (.pt 0) = true := by kernel_rfl
set_option maxRecDepth 100000 in
theorem r5_6_5 : run (.known 5) (.row [1, 1]) (.pt 1) = true := by kernel_rfl
set_option maxRecDepth 100000 in
theorem r5_6_6 : run (.known 5) (.row [1, 1]) (.pt 2) = true := by kernel_rfl
set_option maxRecDepth 100000 in
theorem r5_6_7 : run (.known 5) (.row [1, 1]) (.pt 3) = true := by kernel_rfl
set_option maxRecDepth 100000 in
theorem r5_6_8 : run (.known 5) (.row [1, 1]) (.pt 4) = true := by kernel_rfl
set_option maxRecDepth 100000 in
theorem r5_6_9 : run (.known 5) (.row [1, 1]) (.pt 5) = true := by kernel_rfl
theorem r5_6 : AllL (fun c => run (.known 5) (.row [1, 1]) c = true) pclasses := ⟨r5_6_0, r5_6_1, r5_6_2, r5_6_3, r5_6_4, r5_6_5, r5_6_6, r5_6_7, r5_6_8, r5_6_9, trivial⟩
set_option maxRecDepth 100000 in
theorem r5_10_0 : run (.known 5) (.row [1, 1, 1, 1, 1, 1]) .nil = true := by kernel_rfl
set_option maxRecDepth 100000 in
theorem r5_10_1 : run (.known 5) (.row [1, 1, 1, 1, 1, 1]) .zero = true := by kernel_rfl
set_option maxRecDepth 100000 in
theorem r5_10_2 : run (.known 5) (.row [1, 1, 1, 1, 1, 1]) .no = true := by kernel_rfl
set_option maxRecDepth 100000 in
theorem r5_10_3 : run (.known 5) (.row [1, 1, 1, 1, 1, 1]) .long = true := by kernel_rfl
set_option maxRecDepth 100000 in
theorem r5_10_4 : run (.known 5) (.row [1, 1, 1, 1, 1, 1]) (.pt 0) = true := by kernel_rfl
set_option maxRecDepth 100000 in
theorem r5_10_5 : run (.known 5) (.row [1, 1, 1, 1, 1, 1]) (.pt 1) = true := by kernel_rfl
set_option maxRecDepth 100000 in
theorem r5_10_6 : run (.known 5) (.row [1, 1, 1, 1, 1, 1]) (.pt 2) = true := by kernel_rfl
set_option maxRecDepth 100000 in
theorem r5_10_7 : run (.known 5) (.row [1, 1, 1, 1, 1, 1]) (.pt 3) = true := by kernel_rfl
set_option maxRecDepth 100000 in
theorem r5_10_8 : run (.known 5) (.row [1, 1, 1, 1, 1, 1]) (.pt 4) = true := by kernel_rfl
set_option maxRecDepth 100000 in
theorem r5_10_9 : run (.known 5) (.row [1, 1, 1, 1, 1, 1]) (.pt 5) = true := by kernel_rfl
theorem r5_10 : AllL (fun c => run (.known 5) (.row [1, 1, 1, 1, 1, 1]) c = true) pclasses := ⟨r5_10_0, r5_10_1, r5_10_2, r5_10_3, r5_10_4, r5_10_5, r5_10_6, r5_10_7, r5_10_8, r5_10_9, trivial⟩
set_option maxRecDepth 100000 in
theorem r5_14_0 : run (.known 5) (.row [2, 1, 1, 1]) .nil = true := by kernel_rfl
set_option maxRecDepth 100000 in
theorem r5_14_1 : run (.known 5) (.row [2, 1, 1, 1]) .zero = true := by kernel_rfl
set_option maxRecDepth 100000 in
theorem r5_14_2 : run (.known 5) (.row [2, 1, 1, 1]) .no = true := by kernel_rfl
set_option maxRecDepth 100000 in
theorem r5_14_3 : run (.known 5) (.row [2, 1, 1, 1]) .long = true := by kernel_rfl
set_option maxRecDepth 100000 in
theorem r5_14_4 : run (.known 5) (.row [2, 1, 1, 1]) (.pt 0) = true := by kernel_rfl
set_option maxRecDepth 100000 in
theorem r5_14_5 : run (.known 5) (.row [2, 1, 1, 1]) (.pt 1) = true := by kernel_rfl
set_option maxRecDepth 100000 in
theorem r5_14_6 : run (.known 5) (.row [2, 1, 1, 1]) (.pt 2) = true := by kernel_rfl
set_option maxRecDepth 100000 in
theorem r5_14_7 : run (.known 5) (.row [2, 1, 1, 1]) (.pt 3) = true := by kernel_rfl
set_option maxRecDepth 100000 in
theorem r5_14_8 : run (.known 5) (.row [2, 1, 1, 1]) (.pt 4) = true := by kernel_rfl
set_option maxRecDepth 100000 in
theorem r5_14_9 : run (.known 5) (.row [2, 1, 1, 1]) (.pt 5) = true := by kernel_rfl
theorem r5_14 : AllL (fun c => run (.known 5) (.row [2, 1, 1, 1]) c = true) pclasses := ⟨r5_14_0, r5_14_1, r5_14_2, r5_14_3, r5_14_4, r5_14_5, r5_14_6, r5_14_7, r5_14_8, r5_14_9, trivial⟩
set_option maxRecDepth 100000 in
theorem r5_18_0 : run (.known 5) (.row [2, 2, 1, 1]) .nil = true := by kernel_rfl
set_option maxRecDepth 100000 in
theorem r5_18_1 : run (.known 5) (.row [2, 2, 1, 1]) .zero = true := by kernel_rfl
set_option maxRecDepth 100000 in
theorem r5_18_2 : run (.known 5) (.row [2, 2, 1, 1]) .no = true := by kernel_rfl
set_option maxRecDepth 100000 in
theorem r5_18_3 : run (.known 5) (.row [2, 2, 1, 1]) .long = true := by kernel_rfl
set_option maxRecDepth 100000 in
theorem r5_18_4 : run (.known 5) (.row [2, 2, 1, 1]) (.pt 0) = true := by kernel_rfl
set_option maxRecDepth 100000 in
theorem r5_18_5 : run (.known 5) (.row [2, 2, 1, 1]) (.pt 1) = true := by kernel_rfl
set_option maxRecDepth 100000 in
theorem r5_18_6 : run (.known 5) (.row [2, 2, 1, 1]) (.pt 2) = true := by kernel_rfl
set_option maxRecDepth 100000 in
theorem r5_18_7 : run (.known 5) (.row [2, 2, 1, 1]) (.pt 3) = true := by kernel_rfl
set_option maxRecDepth 100000 in
theorem r5_18_8 : run (.known 5) (.row [2, 2, 1, 1]) (.pt 4) = true := by kernel_rfl
set_option maxRecDepth 100000 in
theorem r5_18_9 : run (.known 5) (.row [2, 2, 1, 1]) (.pt 5) = true := by kernel_rfl
theorem r5_18 : AllL (fun c => run (.known 5) (.row [2, 2, 1, 1]) c = true) pclasses := ⟨r5_18_0, r5_18_1, r5_18_2, r5_18_3, r5_18_4, r5_18_5, r5_18_6, r5_18_7, r5_18_8, r5_18_9, trivial⟩
set_option maxRecDepth 100000 in
theorem r5_22_0 : run (.known 5) (.row [3, 1, 1]) .nil = true := by kernel_rfl
set_option maxRecDepth 100000 in
theorem r5_22_1 : run (.known 5) (.row [3, 1, 1]) .zero = true := by kernel_rfl
set_option maxRecDepth 100000 in
theorem r5_22_2 : run (.known 5) (.row [3, 1, 1]) .no = true := by kernel_rfl
set_option maxRecDepth 100000 in
theorem r5_22_3 : run (.known 5) (.row [3, 1, 1]) .long = true := by kernel_rfl
set_option maxRecDepth 100000 in
theorem r5_22_4 : run (.known 5) (.row [3, 1, 1]) (.pt 0) = true := by kernel_rfl
set_option maxRecDepth 100000 in
theorem r5_22_5 : run (.known 5) (.row [3, 1, 1]) (.pt 1) = true := by kernel_rfl
set_option maxRecDepth 100000 in
theorem r5_22_6 : run (.known 5) (.row [3, 1, 1]) (.pt 2) = true := by kernel_rfl
set_option maxRecDepth 100000 in
theorem r5_22_7 : run (.known 5) (.row [3, 1, 1]) (.pt 3) = true := by kernel_rfl
set_option maxRecDepth 100000 in
theorem r5_22_8 : run (.known 5) (.row [3, 1, 1]) (.pt 4) = true := by kernel_rfl
set_option maxRecDepth 100000 in
theorem r5_22_9 : run (.known 5) (.row [3, 1, 1]) (.pt 5) = true := by kernel_rfl
theorem r5_22 : AllL (fun c => run (.known 5) (.row [3, 1, 1]) c = true) pclasses := ⟨r5_22_0, r5_22_1, r5_22_2, r5_22_3, r5_22_4, r5_22_5, r5_22_6, r5_22_7, r5_22_8, r5_22_9, trivial⟩
set_option maxRecDepth 100000 in
theorem r5_26_0 : run (.known 5) (.row [3, 3]) .nil = true := by kernel_rfl
set_option maxRecDepth 100000 in
theorem r5_26_1 : run (.known 5) (.row [3, 3]) .zero = true := by kernel_rfl
set_option maxRecDepth 100000 in
theorem r5_26_2 : run (.known 5) (.row [3, 3]) .no = true := by kernel_rfl
set_option maxRecDepth 100000 in
theorem r5_26_3 : run (.known 5) (.row [3, 3]) .long = true := by kernel_rfl
set_option maxRecDepth 100000 in
theorem r5_26_4 : run (.known 5) (.row [3, 3]) (.pt 0) = true := by kernel_rfl
set_option maxRecDepth 100000 in
theorem r5_26_5 : run (.known 5) (.row [3, 3]) (.pt 1) = true := by kernel_rfl
set_option maxRecDepth 100000 in
theorem r5_26_6 : run (.known 5) (.row [3, 3]) (.pt 2) = true := by kernel_rfl
set_option maxRecDepth 100000 in
theorem r5_26_7 : run (.known 5) (.row [3, 3]) (.pt 3) = true := by kernel_rfl
set_option maxRecDepth 100000 in
theorem r5_26_8 : run (.known 5) (.row [3, 3]) (.pt 4) = true := by kernel_rfl
set_option maxRecDepth 100000 in
theorem r5_26_9 : run (.known 5) (.row [3, 3]) (.pt 5) = true := by kernel_rfl
theorem r5_26 : AllL (fun c => run (.known 5) (.row [3, 3]) c = true) pclasses := ⟨r5_26_0, r5_26_1, r5_26_2, r5_26_3, r5_26_4, r5_26_5, r5_26_6, r5_26_7, r5_26_8, r5_26_9, trivial⟩
set_option maxRecDepth 100000 in
theorem r5_30_0 : run (.known 5) (.row [4, 2]) .nil = true := by kernel_rfl
set_option maxRecDepth 100000 in
theorem r5_30_1 : run (.known 5) (.row [4, 2]) .zero = true := by kernel_rfl
set_option maxRecDepth 100000 in
theorem r5_30_2 : run (.known 5) (.row [4, 2]) .no = true := by kernel_rfl
set_option maxRecDepth 100000 in
theorem r5_30_3 : run (.known 5) (.row [4, 2]) .long = true := by kernel_rfl
set_option maxRecDepth 100000 in
theorem r5_30_4 : run (.known 5) (.row [4, 2]) (.pt 0) = true := by kernel_rfl
set_option maxRecDepth 100000 in
theorem r5_30_5 : run (.known 5) (.row [4, 2]) (.pt 1) = true := by kernel_rfl
set_option maxRecDepth 100000 in
theorem r5_30_6 : run (.known 5) (.row [4, 2]) (.pt 2) = true := by kernel_rfl
set_option maxRecDepth 100000 in
theorem r5_30_7 : run (.known 5) (.row [4, 2]) (.pt 3) = true := by kernel_rfl
set_option maxRecDepth 100000 in
theorem r5_30_8 : run (.known 5) (.row [4, 2]) (.pt 4) = true := by kernel_rfl
set_option maxRecDepth 100000 in
theorem r5_30_9 : run (.known 5) (.row [4, 2]) (.pt 5) = true := by kernel_rfl
theorem r5_30 : AllL (fun c => run (.known 5) (.row [4, 2]) c = true) pclasses := ⟨r5_30_0, r5_30_1, r5_30_2, r5_30_3, r5_30_4, r5_30_5, r5_30_6, r5_30_7, r5_30_8, r5_30_9, trivial⟩
set_option maxRecDepth 100000 in
theorem r6_0_0 : run .other .nil .nil = true := by kernel_rfl
set_option maxRecDepth 100000 in
theorem r6_0_1 : run .other .nil .zero = true := by kernel_rfl
set_option maxRecDepth 100000 in
theorem r6_0_2 : run .other .nil .no = true := by kernel_rfl
set_option maxRecDepth 100000 in
theorem r6_0_3 : run .other .nil .long = true := by kernel_rfl
set_option maxRecDepth 100000 in
theorem r6_0_4 : run .other .nil (.pt 0) = true := by kernel_rfl
set_option maxRecDepth 100000 in
theorem r6_0_5 : run .other .nil (.pt 1) = true := by kernel_rfl
set_option maxRecDepth 100000 in
theorem r6_0_6 : run .other .nil (.pt 2) = true := by kernel_rfl
set_option maxRecDepth 100000 in
theorem r6_0_7 : run .other .nil (.pt 3) = true := by kernel_rfl
set_option maxRecDepth 100000 in
theorem r6_0_8 : run .other .nil (.pt 4) = true := by kernel_rfl
set_option maxRecDepth 100000 in
theorem r6_0_9 : run .other .nil (.pt 5) = true := by kernel_rfl
theorem r6_0 : AllL (fun c => run .other .nil c = true) pclasses := ⟨r6_0_0, r6_0_1, r6_0_2, r6_0_3, r6_0_4, r6_0_5, r6_0_6, r6_0_7, r6_0_8, r6_0_9, trivial⟩
set_option maxRecDepth 100000 in
theorem r6_4_0 : run .other (.row []) .nil = true := by kernel_rfl
set_option maxRecDepth 100000 in
theorem r6_4_1 : run .other (.row []) .zero = true := by kernel_rfl
set_option maxRecDepth 100000 in
theorem r6_4_2 : run .other (.row []) .no = true := by kernel_rfl
set_option maxRecDepth 100000 in
theorem r6_4_3 : run .other (.row []) .long = true := by kernel_rfl
set_option maxRecDepth 100000 in
theorem r6_4_4 : run .other (.row []) (.pt 0) = true := by kernel_rfl
set_option maxRecDepth 100000 in
theorem r6_4_5 : run .other (.row []) (.pt 1) = true := by kernel_rfl
set_option maxRecDepth 100000 in
theorem r6_4_6 : run .other (.row []) (.pt 2) = true := by kernel_rfl
set_option maxRecDepth 100000 in
theorem r6_4_7 : run .other (.row []) (.pt 3) = true := by kernel_rfl
set_option maxRecDepth 100000 in
theorem r6_4_8 : run .other (.row []) (.pt 4) = true := by kernel_rfl
set_option maxRecDepth 100000 in
theorem r6_4_9 : run .other (.row []) (.pt 5) = true := by kernel_rfl
theorem r6_4 : AllL (fun c => run .other (.row []) c = true) pclasses := ⟨r6_4_0, r6_4_1, r6_4_2, r6_4_3, r6_4_4, r6_4_5, r6_4_6, r6_4_7, r6_4_8, r6_4_9, trivial⟩
set_option maxRecDepth 100000 in
theorem r6_8_0 : run .other (.row [1, 1, 1, 1]) .nil = true := by kernel_rfl
set_option maxRecDepth 100000 in
theorem r6_8_1 : run .other (.row [1, 1, 1, 1]) .zero = true := by kernel_rfl
set_option maxRecDepth 100000 in
theorem r6_8_2 : run .other (.row [1, 1, 1, 1]) .no = true := by kernel_rfl
set_option maxRecDepth 100000 in
theorem r6_8_3 : run .other (.row [1, 1, 1, 1]) .long = true := by kernel_rfl
set_option maxRecDepth 100000 in
theorem r6_8_4 : run .other (.row [1, 1, 1, 1]) (.pt 0) = true := by kernel_rfl
set_option maxRecDepth 100000 in
theorem r6_8_5 : run .other (.row [1, 1, 1, 1]) (.pt 1) = true := by kernel_rfl
set_option maxRecDepth 100000 in
theorem r6_8_6 : run .other (.row [1, 1, 1, 1]) (.pt 2) = true := by kernel_rfl
set_option maxRecDepth 100000 in
theorem r6_8_7 : run .other (.row [1, 1, 1, 1]) (.pt 3) = true := by kernel_rfl
set_option maxRecDepth 100000 in
theorem r6_8_8 : run .other (.row [1, 1, 1, 1]) (.pt 4) = true := by kernel_rfl
set_option maxRecDepth 100000 in
theorem r6_8_9 : run .other (.row [1, 1, 1, 1]) (.pt 5) = true := by kernel_rfl
theorem r6_8 : AllL (fun c => run .other (.row [1, 1, 1, 1]) c = true) pclasses := ⟨r6_8_0, r6_8_1, r6_8_2, r6_8_3, r6_8_4, r6_8_5, r6_8_6, r6_8_7, r6_8_8, r6_8_9, trivial⟩
set_option maxRecDepth 100000 in
theorem r6_12_0 : run .other (.row [2, 1]) .nil = true := by kernel_rfl
set_option maxRecDepth 100000 in
theorem r6_12_1 : run .other (.row [2, 1]) .zero = true := by kernel_rfl
set_option maxRecDepth 100000 in
theorem r6_12_2 : run .other (.row [2, 1]) .no = true := by kernel_rfl
set_option maxRecDepth 100000 in
theorem r6_12_3 : run .other (.row [2, 1]) .long = true := by kernel_rfl
set_option maxRecDepth 100000 in
theorem r6_12_4 : run .other (.row [2, 1]) (.pt 0) = true := by kernel_rfl
set_option maxRecDepth 100000 in
theorem r6_12_5 : run .other (.row [2, 1]) (.pt 1) = true := by kernel_rfl
set_option maxRecDepth 100000 in
theorem r6_12_6 : run .other (.row [2, 1]) (.pt 2) = true := by kernel_rfl
set_option maxRecDepth 100000 in
theorem r6_12_7 : run .other (.row [2, 1]) (.pt 3) = true := by kernel_rfl
set_option maxRecDepth 100000 in
theorem r6_12_8 : run .other (.row [2, 1]) (.pt 4) = true := by kernel_rfl
set_option maxRecDepth 100000 in
theorem r6_12_9 : run .other (.row [2, 1]) (.pt 5) = true := by kernel_rfl
theorem r6_12 : AllL (fun c => run .other (.row [2, 1]) c = true) pclasses := ⟨r6_12_0, r6_12_1, r6_12_2, r6_12_3, r6_12_4, r6_12_5, r6_12_6, r6_12_7, r6_12_8, r6_12_9, trivial⟩
set_option maxRecDepth 100000 in
theorem r6_16_0 : run .other (.row [2, 2]) .nil = true := by kernel_rfl
set_option maxRecDepth 100000 in
theorem r6_16_1 : run .other (.row [2, 2]) .zero = true := by kernel_rfl
set_option maxRecDepth 100000 in
theorem r6_16_2 : run .other (.row [2, 2]) .no = true := by kernel_rfl
set_option maxRecDepth 100000 in
theorem r6_16_3 : run .other (.row [2, 2]) .long = true := by kernel_rfl
set_option maxRecDepth 100000 in
theorem r6_16_4 : run .other (.row [2, 2]) (.pt 0) = true := by kernel_rfl
set_option maxRecDepth 100000 in
theorem r6_16_5 : run .other (.row [2, 2]) (.pt 1) = true := by kernel_rfl
set_option maxRecDepth 100000 in
theorem r6_16_6 : run .other (.row [2, 2]) (.pt 2) = true := by kernel_rfl
set_option maxRecDepth 100000 in
theorem r6_16_7 : run .other (.row [2, 2]) (.pt 3) = true := by kernel_rfl
set_option maxRecDepth 100000 in
theorem r6_16_8 : run .other (.row [2, 2]) (.pt 4) = true := by kernel_rfl
set_option maxRecDepth 100000 in
theorem r6_16_9 : run .other (.row [2, 2]) (.pt 5) = true := by kernel_rfl
theorem r6_16 : AllL (fun c => run .other (.row [2, 2]) c = true) pclasses := ⟨r6_16_0, r6_16_1, r6_16_2, r6_16_3, r6_16_4, r6_16_5, r6_16_6, r6_16_7, r6_16_8, r6_16_9, trivial⟩
set_option maxRecDepth 100000 in
theorem r6_20_0 : run .other (.row [3]) .nil = true := by kernel_rfl
set_option maxRecDepth 100000 in
theorem r6_20_1 : run .other (.row [3]) .zero = true := by kernel_rfl
set_option maxRecDepth 100000 in
theorem r6_20_2 : run .other (.row [3]) .no = true := by kernel_rfl
set_option maxRecDepth 100000 in
theorem r6_20_3 : run .other (.row [3]) .long = true := by kernel_rfl
set_option maxRecDepth 100000 in
theorem r6_20_4 : run .other (.row [3]) (.pt 0) = true := by kernel_rfl
set_option maxRecDepth 100000 in
theorem r6_20_5 : run .other (.row [3]) (.pt 1) = true := by kernel_rfl
set_option maxRecDepth 100000 in
theorem r6_20_6 : run .other (.row [3]) (.pt 2) = true := by kernel_rfl
set_option maxRecDepth 100000 in
theorem r6_20_7 : run .other (.row [3]) (.pt 3) = true := by kernel_rfl
set_option maxRecDepth 100000 in
theorem r6_20_8 : run .other (.row [3]) (.pt 4) = true := by kernel_rfl
set_option maxRecDepth 100000 in
theorem r6_20_9 : run .other (.row [3]) (.pt 5) = true := by kernel_rfl
theorem r6_20 : AllL (fun c => run .other (.row [3]) c = true) pclasses := ⟨r6_20_0, r6_20_1, r6_20_2, r6_20_3, r6_20_4, r6_20_5, r6_20_6, r6_20_7, r6_20_8, r6_20_9, trivial⟩
set_option maxRecDepth 100000 in
theorem r6_24_0 : run .other (.row [3, 2]) .nil = true := by kernel_rfl
set_option maxRecDepth 100000 in
theorem r6_24_1 : run .other (.row [3, 2]) .zero = true := by kernel_rfl
set_option maxRecDepth 100000 in
theorem r6_24_2 : run .other (.row [3, 2]) .no = true := by kernel_rfl
set_option maxRecDepth 100000 in
theorem r6_24_3 : run .other (.row [3, 2]) .long = true := by kernel_rfl
set_option maxRecDepth 100000 in
theorem r6_24_4 : run .other (.row [3, 2]) (.pt 0) = true := by kernel_rfl
set_option maxRecDepth 100000 in
theorem r6_24_5 : run .other (.row [3, 2]) (.pt 1) = true := by kernel_rfl
set_option maxRecDepth 100000 in
theorem r6_24_6 : run .other (.row [3, 2]) (.pt 2) = true := by kernel_rfl
set_option maxRecDepth 100000 in
theorem r6_24_7 : run .other (.row [3, 2]) (.pt 3) = true := by kernel_rfl
set_option maxRecDepth 100000 in
theorem r6_24_8 : run .other (.row [3, 2]) (.pt 4) = true := by kernel_rfl
set_option maxRecDepth 100000 in
theorem r6_24_9 : run .other (.row [3, 2]) (.pt 5) = true := by kernel_rfl
theorem r6_24 : AllL (fun c => run .other (.row [3, 2]) c = true) pclasses := ⟨r6_24_0, r6_24_1, r6_24_2, r6_24_3, r6_24_4, r6_24_5, r6_24_6, r6_24_7, r6_24_8, r6_24_9, trivial⟩
set_option maxRecDepth 100000 in
theorem r6_28_0 : run .other (.row [4, 1]) .nil = true := by kernel_rfl
set_option maxRecDepth 100000 in
theorem r6_28_1 : run .other (.row [4, 1]) .zero = true := by kernel_rfl
set_option maxRecDepth 100000 in
theorem r6_28_2 : run .other (.row [4, 1]) .no = true := by kernel_rfl
set_option maxRecDepth 100000 in
theorem r6_28_3 : run .other (.row [4, 1]) .long = true := by kernel_rfl
set_option maxRecDepth 100000 in
theorem r6_28_4 : run .other (.row [4, 1]) (.pt 0) = true := by kernel_rfl
set_option maxRecDepth 100000 in
theorem r6_28_5 : run .other (.row [4, 1]) (.pt 1) = true := by kernel_rfl
set_option maxRecDepth 100000 in
theorem r6_28_6 : run .other (.row [4, 1]) (.pt 2) = true := by kernel_rfl
set_option maxRecDepth 100000 in
theorem r6_28_7 : run .other (.row [4, 1]) (.pt 3) = true := by kernel_rfl
set_option maxRecDepth 100000 in
theorem r6_28_8 : run .other (.row [4, 1]) (.pt 4) = true := by kernel_rfl
set_option maxRecDepth 100000 in
theorem r6_28_9 : run .other (.row [4, 1]) (.pt 5) = true := by kernel_rfl
theorem r6_28 : AllL (fun c => run .other (.row [4, 1]) c = true) pclasses := ⟨r6_28_0, r6_28_1, r6_28_2, r6_28_3, r6_28_4, r6_28_5, r6_28_6, r6_28_7, r6_28_8, r6_28_9, trivial⟩
set_option maxRecDepth 100000 in
theorem r6_32_0 : run .other (.row [5, 1]) .nil = true := by kernel_rfl
set_option maxRecDepth 100000 in
theorem r6_32_1 : run .other (.row [5, 1]) .zero = true := by kernel_rfl
set_option maxRecDepth 100000 in
theorem r6_32_2 : run .other (.row [5, 1]) .no = true := by kernel_rfl
set_option maxRecDepth 100000 in
theorem r6_32_3 : run .other (.row [5, 1]) .long = true := by kernel_rfl
set_option maxRecDepth 100000 in
theorem r6_32_4 : run .other (.row [5, 1]) (.pt 0) = true := by kernel_rfl
set_option maxRecDepth 100000 in
theorem r6_32_5 : run .other (.row [5, 1]) (.pt 1) = true := by kernel_rfl
set_option maxRecDepth 100000 in
theorem r6_32_6 : run .other (.row [5, 1]) (.pt 2) = true := by kernel_rfl
set_option maxRecDepth 100000 in
theorem r6_32_7 : run .other (.row [5, 1]) (.pt 3) = true := by kernel_rfl
set_option maxRecDepth 100000 in
theorem r6_32_8 : run .other (.row [5, 1]) (.pt 4) = true := by kernel_rfl
set_option maxRecDepth 100000 in
theorem r6_32_9 : run .other (.row [5, 1]) (.pt 5) = true := by kernel_rfl
theorem r6_32 : AllL (fun c => run .other (.row [5, 1]) c = true) pclasses := ⟨r6_32_0, r6_32_1, r6_32_2, r6_32_3, r6_32_4, r6_32_5, r6_32_6, r6_32_7, r6_32_8, r6_32_9, trivial⟩
set_option maxRecDepth 100000 in
theorem r7_2_0 : run .long .no .nil = true := by kernel_rfl
set_option maxRecDepth 100000 in
theorem r7_2_1 : run .long .no .zero = true := by kernel_rfl
set_option maxRecDepth 100000 in
theorem r7_2_2 : run .long .no .no = true := by kernel_rfl
set_option maxRecDepth 100000 in
theorem r7_2_3 : run .long .no .long = true := by kernel_rfl
set_option maxRecDepth 100000 in
theorem r7_2_4 : run .long .no (.pt 0) = true := by kernel_rfl
set_option maxRecDepth 100000 in
theorem r7_2_5 : run .long .no (.pt 1) = true := by kernel_rfl
set_option maxRecDepth 100000 in
theorem r7_2_6 : run .long .no (.pt 2) = true := by kernel_rfl
set_option maxRecDepth 100000 in
theorem r7_2_7 : run .long .no (.pt 3) = true := by kernel_rfl
set_option maxRecDepth 100000 in
theorem r7_2_8 : run .long .no (.pt 4) = true := by kernel_rfl
set_option maxRecDepth 100000 in
theorem r7_2_9 : run .long .no (.pt 5) = true := by kernel_rfl
theorem r7_2 : AllL (fun c => run .long .no c = true) pclasses := ⟨r7_2_0, r7_2_1, r7_2_2, r7_2_3, r7_2_4, r7_2_5, r7_2_6, r7_2_7, r7_2_8, r7_2_9, trivial⟩
set_option maxRecDepth 100000 in
theorem r7_6_0 : run .long (.row [1, 1]) .nil = true := by kernel_rfl
set_option maxRecDepth 100000 in
theorem r7_6_1 : run .long (.row [1, 1]) .zero = true := by kernel_rfl
set_option maxRecDepth 100000 in
theorem r7_6_2 : run .long (.row [1, 1]) .no = true := by kernel_rfl
set_option maxRecDepth 100000 in
theorem r7_6_3 : run .long (.row [1, 1]) .long = true := by kernel_rfl
set_option maxRecDepth 100000 in
theorem r7_6_4 : run .long (.row [1, 1]) (.pt 0) = true := by kernel_rfl
set_option maxRecDepth 100000 in
theorem r7_6_5 : run .long (.row [1, 1]) (.pt 1) = true := by kernel_rfl
set_option maxRecDepth 100000 in
theorem r7_6_6 : run .long (.row [1, 1]) (.pt 2) = true := by kernel_rfl
set_option maxRecDepth 100000 in
theorem r7_6_7 : run .long (.row [1, 1]) (.pt 3) = true := by kernel_rfl
set_option maxRecDepth 100000 in
theorem r7_6_8 : run .long (.row [1, 1]) (.pt 4) = true := by kernel_rfl
set_option maxRecDepth 100000 in
theorem r7_6_9 : run .long (.row [1, 1]) (.pt 5) = true := by kernel_rfl
theorem r7_6 : AllL (fun c => run .long (.row [1, 1]) c = true) pclasses := ⟨r7_6_0, r7_6_1, r7_6_2, r7_6_3, r7_6_4, r7_6_5, r7_6_6, r7_6_7, r7_6_8, r7_6_9, trivial⟩
set_option maxRecDepth 100000 in
theorem r7_10_0 : run .long (.row [1, 1, 1, 1, 1, 1]) .nil = true := by kernel_rfl
set_option maxRecDepth 100000 in
theorem r7_10_1 : run .long (.row [1, 1, 1, 1, 1, 1]) .zero = true := by kernel_rfl
set_option maxRecDepth 100000 in
theorem r7_10_2 : run .long (.row [1, 1, 1, 1, 1, 1]) .no = true := by kernel_rfl
set_option maxRecDepth 100000 in
theorem r7_10_3 : run .long (.row [1, 1, 1, 1, 1, 1]) .long = true := by kernel_rfl
set_option maxRecDepth 100000 in
theorem r7_10_4 : run .long (.row [1, 1, 1, 1, 1, 1]) (.pt 0) = true := by kernel_rfl
set_option maxRecDepth 100000 in
theorem r7_10_5 : run .long (.row [1, 1, 1, 1, 1, 1]) (.pt 1) = true := by kernel_rfl
set_option maxRecDepth 100000 in
theorem r7_10_6 : run .long (.row [1, 1, 1, 1, 1, 1]) (.pt 2) = true := by kernel_rfl
set_option maxRecDepth 100000 in
theorem r7_10_7 : run .long (.row [1, 1, 1, 1, 1, 1]) (.pt 3) = true := by kernel_rfl
set_option maxRecDepth 100000 in
theorem r7_10_8 : run .long (.row [1, 1, 1, 1, 1, 1]) (.pt 4) = true := by kernel_rfl
set_option maxRecDepth 100000 in
theorem r7_10_9 : run .long (.row [1, 1, 1, 1, 1, 1]) (.pt 5) = true := by kernel_rfl
theorem r7_10 : AllL (fun c => run .long (.row [1, 1, 1, 1, 1, 1]) c = true) pclasses := ⟨r7_10_0, r7_10_1, r7_10_2, r7_10_3, r7_10_4, r7_10_5, r7_10_6, r7_10_7, r7_10_8, r7_10_9, trivial⟩
set_option maxRecDepth 100000 in
theorem r7_14_0 : run .long (.row [2, 1, 1, 1]) .nil = true := by kernel_rfl
set_option maxRecDepth 100000 in
theorem r7_14_1 : run .long (.row [2, 1, 1, 1]) .zero = true := by kernel_rfl
set_option maxRecDepth 100000 in
theorem r7_14_2 : run .long (.row [2, 1, 1, 1]) .no = true := by kernel_rfl
set_option maxRecDepth 100000 in
theorem r7_14_3 : run .long (.row [2, 1, 1, 1]) .long = true := by kernel_rfl
set_option maxRecDepth 100000 in
theorem r7_14_4 : run .long (.row [2, 1, 1, 1]) (.pt 0) = true := by kernel_rfl
set_option maxRecDepth 100000 in
theorem r7_14_5 : run .long (.row [2, 1, 1, 1]) (.pt 1) = true := by kernel_rfl
set_option maxRecDepth 100000 in
theorem r7_14_6 : run .long (.row [2, 1, 1, 1]) (.pt 2) = true := by kernel_rfl
set_option maxRecDepth 100000 in
theorem r7_14_7 : run .long (.row [2, 1, 1, 1]) (.pt 3) = true := by kernel_rfl
set_option maxRecDepth 100000 in
theorem r7_14_8 : run .long (.row [2, 1, 1, 1]) (.pt 4) = true := by kernel_rfl
set_option maxRecDepth 100000 in
theorem r7_14_9 : run .long (.row [2, 1, 1, 1]) (.pt 5) = true := by kernel_rfl
theorem r7_14 : AllL (fun c => run .long (.row [2, 1, 1, 1]) c = true) pclasses := ⟨r7_14_0, r7_14_1, r7_14_2, r7_14_3, r7_14_4, r7_14_5, r7_14_6, r7_14_7, r7_14_8, r7_14_9, trivial⟩
set_option maxRecDepth 100000 in
theorem r7_18_0 : run .long (.row [2, 2, 1, 1]) .nil = true := by kernel_rfl
set_option maxRecDepth 100000 in
theorem r7_18_1 : run .long (.row [2, 2, 1, 1]) .zero = true := by kernel_rfl
set_option maxRecDepth 100000 in
theorem r7_18_2 : run .long (.row [2, 2, 1, 1]) .no = true := by kernel_rfl
set_option maxRecDepth 100000 in
theorem r7_18_3 : run .long (.row [2, 2, 1, 1]) .long = true := by kernel_rfl
set_option maxRecDepth 100000 in
theorem r7_18_4 : run .long (.row [2, 2, 1, 1]) (.pt 0) = true := by kernel_rfl
set_option maxRecDepth 100000 in
theorem r7_18_5 : run .long (.row [2, 2, 1, 1]) (.pt 1) = true := by kernel_rfl
set_option maxRecDepth 100000 in
theorem r7_18_6 : run .long (.row [2, 2, 1, 1]) (.pt 2) = true := by kernel_rfl
set_option maxRecDepth 100000 in
theorem r7_18_7 : run .long (.row [2, 2, 1, 1]) (.pt 3) = true := by kernel_rfl
set_option maxRecDepth 100000 in
theorem r7_18_8 : run .long (.row [2, 2, 1, 1]) (.pt 4) = true := by kernel_rfl
set_option maxRecDepth 100000 in
theorem r7_18_9 : run .long (.row [2, 2, 1, 1]) (.pt 5) = true := by kernel_rfl
theorem r7_18 : AllL (fun c => run .long (.row [2, 2, 1, 1]) c = true) pclasses := ⟨r7_18_0, r7_18_1, r7_18_2, r7_18_3, r7_18_4, r7_18_5, r7_18_6, r7_18_7, r7_18_8, r7_18_9, trivial⟩
set_option maxRecDepth 100000 in
theorem r7_22_0 : run .long (.row [3, 1, 1]) .nil = true := by kernel_rfl
set_option maxRecDepth 100000 in
theorem r7_22_1 : run .long (.row [3, 1, 1]) .zero = true := by kernel_rfl
set_option maxRecDepth 100000 in
theorem r7_22_2 : run .long (.row [3, 1, 1]) .no = true := by kernel_rfl
set_option maxRecDepth 100000 in
theorem r7_22_3 : run .long (.row [3, 1, 1]) .long = true := by kernel_rfl
set_option maxRecDepth 100000 in
theorem r7_22_4 : run .long (.row [3, 1, 1]) (.pt 0) = true := by kernel_rfl
set_option maxRecDepth 100000 in
theorem r7_22_5 : run .long (.row [3, 1, 1]) (.pt 1) = true := by kernel_rfl
set_option maxRecDepth 100000 in
theorem r7_22_6 : run .long (.row [3, 1, 1]) (.pt 2) = true := by kernel_rfl
set_option maxRecDepth 100000 in
theorem r7_22_7 : run .long (.row [3, 1, 1]) (.pt 3) = true := by kernel_rfl
set_option maxRecDepth 100000 in
theorem r7_22_8 : run .long (.row [3, 1, 1]) (.pt 4) = true := by kernel_rfl
set_option maxRecDepth 100000 in
theorem r7_22_9 : run .long (.row [3, 1, 1]) (.pt 5) = true := by kernel_rfl
theorem r7_22 : AllL (fun c => run .long (.row [3, 1, 1]) c = true) pclasses := ⟨r7_22_0, r7_22_1, r7_22_2, r7_22_3, r7_22_4, r7_22_5, r7_22_6, r7_22_7, r7_22_8, r7_22_9, trivial⟩
set_option maxRecDepth 100000 in
theorem r7_26_0 : run .long (.row [3, 3]) .nil = true := by kernel_rfl
set_option maxRecDepth 100000 in
theorem r7_26_1 : run .long (.row [3, 3]) .zero = true := by kernel_rfl
set_option maxRecDepth 100000 in
theorem r7_26_2 : run .long (.row [3, 3]) .no = true := by kernel_rfl
set_option maxRecDepth 100000 in
theorem r7_26_3 : run .long (.row [3, 3]) .long = true := by kernel_rfl
set_option maxRecDepth 100000 in
theorem r7_26_4 : run .long (.row [3, 3]) (.pt 0) = true := by kernel_rfl
set_option maxRecDepth 100000 in
theorem r7_26_5 : run .long (.row [3, 3]) (.pt 1) = true := by kernel_rfl
set_option maxRecDepth 100000 in
theorem r7_26_6 : run .long (.row [3, 3]) (.pt 2) = true := by kernel_rfl
set_option maxRecDepth 100000 in
theorem r7_26_7 : run .long (.row [3, 3]) (.pt 3) = true := by kernel_rfl
set_option maxRecDepth 100000 in
theorem r7_26_8 : run .long (.row [3, 3]) (.pt 4) = true := by kernel_rfl
set_option maxRecDepth 100000 in
theorem r7_26_9 : run .long (.row [3, 3]) (.pt 5) = true := by kernel_rfl
theorem r7_26 : AllL (fun c => run .long (.row [3, 3]) c = true) pclasses := ⟨r7_26_0, r7_26_1, r7_26_2, r7_26_3, r7_26_4, r7_26_5, r7_26_6, r7_26_7, r7_26_8, r7_26_9, trivial⟩
set_option maxRecDepth 100000 in
theorem r7_30_0 : run .long (.row [4, 2]) .nil = true := by kernel_rfl
set_option maxRecDepth 100000 in
theorem r7_30_1 : run .long (.row [4, 2]) .zero = true := by kernel_rfl
set_option maxRecDepth 100000 in
theorem r7_30_2 : run .long (.row [4, 2]) .no = true := by kernel_rfl
set_option maxRecDepth 100000 in
theorem r7_30_3 : run .long (.row [4, 2]) .long = true := by kernel_rfl
set_option maxRecDepth 100000 in
theorem r7_30_4 : run .long (.row [4, 2]) (.pt 0) = true := by kernel_rfl
set_option maxRecDepth 100000 in
theorem r7_30_5 : run .long (.row [4, 2]) (.pt 1) = true := by kernel_rfl
set_option maxRecDepth 100000 in
theorem r7_30_6 : run .long (.row [4, 2]) (.pt 2) = true := by kernel_rfl
set_option maxRecDepth 100000 in
theorem r7_30_7 : run .long (.row [4, 2]) (.pt 3) = true := by kernel_rfl
set_option maxRecDepth 100000 in
theorem r7_30_8 : run .long (.row [4, 2]) (.pt 4) = true := by kernel_rfl
set_option maxRecDepth 100000 in
theorem r7_30_9 : run .long (.row [4, 2]) (.pt 5) = true := by kernel_rfl
theorem r7_30 : AllL (fun c => run .long (.row [4, 2]) c = true) pclasses := ⟨r7_30_0, r7_30_1, r7_30_2, r7_30_3, r7_30_4, r7_30_5, r7_30_6, r7_30_7, r7_30_8, r7_30_9, trivial⟩
end Go.Proofs.Ythcdiaahpodkoae.fnExactAtShareRuns
