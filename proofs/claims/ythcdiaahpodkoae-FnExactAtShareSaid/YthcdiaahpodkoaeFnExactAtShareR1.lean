/- The runs of FnExactAtShare. -/
import Derived.Test.YthcdiaahpodkoaeFnExactAtShareP
namespace Go.Proofs.Ythcdiaahpodkoae.fnExactAtShareRuns
open Go.Eng
set_option linter.unusedVariables false
set_option linter.unusedSectionVars false
set_option linter.unusedSimpArgs false
set_option maxRecDepth 100000 in
theorem r0_1_0 : run (.known 0) .zero .nil = true := by kernel_rfl
set_option maxRecDepth 100000 in
theorem r0_1_1 : run (.known 0) .zero .zero = true := by kernel_rfl
set_option maxRecDepth 100000 in
theorem r0_1_2 : run (.known 0) .zero .no = true := by kernel_rfl
set_option maxRecDepth 100000 in
theorem r0_1_3 : run (.known 0) .zero .long = true := by kernel_rfl
set_option maxRecDepth 100000 in
theorem r0_1_4 : run (.known 0) .zero (.pt 0) = true := by kernel_rfl
set_option maxRecDepth 100000 in
theorem r0_1_5 : run (.known 0) .zero (.pt 1) = true := by kernel_rfl
set_option maxRecDepth 100000 in
theorem r0_1_6 : run (.known 0) .zero (.pt 2) = true := by kernel_rfl
set_option maxRecDepth 100000 in
theorem r0_1_7 : run (.known 0) .zero (.pt 3) = true := by kernel_rfl
set_option maxRecDepth 100000 in
theorem r0_1_8 : run (.known 0) .zero (.pt 4) = true := by kernel_rfl
set_option maxRecDepth 100000 in
theorem r0_1_9 : run (.known 0) .zero (.pt 5) = true := by kernel_rfl
theorem r0_1 : AllL (fun c => run (.known 0) .zero c = true) pclasses := ⟨r0_1_0, r0_1_1, r0_1_2, r0_1_3, r0_1_4, r0_1_5, r0_1_6, r0_1_7, r0_1_8, r0_1_9, trivial⟩
set_option maxRecDepth 100000 in
theorem r0_5_0 : run (.known 0) (.row [1]) .nil = true := by kernel_rfl
set_option maxRecDepth 100000 in
theorem r0_5_1 : run (.known 0) (.row [1]) .zero = true := by kernel_rfl
set_option maxRecDepth 100000 in
theorem r0_5_2 : run (.known 0) (.row [1]) .no = true := by kernel_rfl
set_option maxRecDepth 100000 in
theorem r0_5_3 : run (.known 0) (.row [1]) .long = true := by kernel_rfl
set_option maxRecDepth 100000 in
theorem r0_5_4 : run (.known 0) (.row [1]) (.pt 0) = true := by kernel_rfl
set_option maxRecDepth 100000 in
theorem r0_5_5 : run (.known 0) (.row [1]) (.pt 1) = true := by kernel_rfl
set_option maxRecDepth 100000 in
theorem r0_5_6 : run (.known 0) (.row [1]) (.pt 2) = true := by kernel_rfl
set_option maxRecDepth 100000 in
theorem r0_5_7 : run (.known 0) (.row [1]) (.pt 3) = true := by kernel_rfl
set_option maxRecDepth 100000 in
theorem r0_5_8 : run (.known 0) (.row [1]) (.pt 4) = true := by kernel_rfl
set_option maxRecDepth 100000 in
theorem r0_5_9 : run (.known 0) (.row [1]) (.pt 5) = true := by kernel_rfl
theorem r0_5 : AllL (fun c => run (.known 0) (.row [1]) c = true) pclasses := ⟨r0_5_0, r0_5_1, r0_5_2, r0_5_3, r0_5_4, r0_5_5, r0_5_6, r0_5_7, r0_5_8, r0_5_9, trivial⟩
set_option maxRecDepth 100000 in
theorem r0_9_0 : run (.known 0) (.row [1, 1, 1, 1, 1]) .nil = true := by kernel_rfl
set_option maxRecDepth 100000 in
theorem r0_9_1 : run (.known 0) (.row [1, 1, 1, 1, 1]) .zero = true := by kernel_rfl
set_option maxRecDepth 100000 in
theorem r0_9_2 : run (.known 0) (.row [1, 1, 1, 1, 1]) .no = true := by kernel_rfl
set_option maxRecDepth 100000 in
theorem r0_9_3 : run (.known 0) (.row [1, 1, 1, 1, 1]) .long = true := by kernel_rfl
set_option maxRecDepth 100000 in
theorem r0_9_4 : run (.known 0) (.row [1, 1, 1, 1, 1]) (.pt 0) = true := by kernel_rfl
set_option maxRecDepth 100000 in
theorem r0_9_5 : run (.known 0) (.row [1, 1, 1, 1, 1]) (.pt 1) = true := by kernel_rfl
set_option maxRecDepth 100000 in
theorem r0_9_6 : run (.known 0) (.row [1, 1, 1, 1, 1]) (.pt 2) = true := by kernel_rfl
set_option maxRecDepth 100000 in
theorem r0_9_7 : run (.known 0) (.row [1, 1, 1, 1, 1]) (.pt 3) = true := by kernel_rfl
set_option maxRecDepth 100000 in
theorem r0_9_8 : run (.known 0) (.row [1, 1, 1, 1, 1]) (.pt 4) = true := by kernel_rfl
set_option maxRecDepth 100000 in
theorem r0_9_9 : run (.known 0) (.row [1, 1, 1, 1, 1]) (.pt 5) = true := by kernel_rfl
theorem r0_9 : AllL (fun c => run (.known 0) (.row [1, 1, 1, 1, 1]) c = true) pclasses := ⟨r0_9_0, r0_9_1, r0_9_2, r0_9_3, r0_9_4, r0_9_5, r0_9_6, r0_9_7, r0_9_8, r0_9_9, trivial⟩
set_option maxRecDepth 100000 in
theorem r0_13_0 : run (.known 0) (.row [2, 1, 1]) .nil = true := by kernel_rfl
set_option maxRecDepth 100000 in
theorem r0_13_1 : run (.known 0) (.row [2, 1, 1]) .zero = true := by kernel_rfl
set_option maxRecDepth 100000 in
theorem r0_13_2 : run (.known 0) (.row [2, 1, 1]) .no = true := by kernel_rfl
set_option maxRecDepth 100000 in
theorem r0_13_3 : run (.known 0) (.row [2, 1, 1]) .long = true := by kernel_rfl
set_option maxRecDepth 100000 in
theorem r0_13_4 : run (.known 0) (.row [2, 1, 1]) (.pt 0) = true := by kernel_rfl
set_option maxRecDepth 100000 in
theorem r0_13_5 : run (.known 0) (.row [2, 1, 1]) (.pt 1) = true := by kernel_rfl
set_option maxRecDepth 100000 in
theorem r0_13_6 : run (.known 0) (.row [2, 1, 1]) (.pt 2) = true := by kernel_rfl
set_option maxRecDepth 100000 in
theorem r0_13_7 : run (.known 0) (.row [2, 1, 1]) (.pt 3) = true := by kernel_rfl
set_option maxRecDepth 100000 in
theorem r0_13_8 : run (.known 0) (.row [2, 1, 1]) (.pt 4) = true := by kernel_rfl
set_option maxRecDepth 100000 in
theorem r0_13_9 : run (.known 0) (.row [2, 1, 1]) (.pt 5) = true := by kernel_rfl
theorem r0_13 : AllL (fun c => run (.known 0) (.row [2, 1, 1]) c = true) pclasses := ⟨r0_13_0, r0_13_1, r0_13_2, r0_13_3, r0_13_4, r0_13_5, r0_13_6, r0_13_7, r0_13_8, r0_13_9, trivial⟩
set_option maxRecDepth 100000 in
theorem r0_17_0 : run (.known 0) (.row [2, 2, 1]) .nil = true := by kernel_rfl
set_option maxRecDepth 100000 in
theorem r0_17_1 : run (.known 0) (.row [2, 2, 1]) .zero = true := by kernel_rfl
set_option maxRecDepth 100000 in
theorem r0_17_2 : run (.known 0) (.row [2, 2, 1]) .no = true := by kernel_rfl
set_option maxRecDepth 100000 in
theorem r0_17_3 : run (.known 0) (.row [2, 2, 1]) .long = true := by kernel_rfl
set_option maxRecDepth 100000 in
theorem r0_17_4 : run (.known 0) (.row [2, 2, 1]) (.pt 0) = true := by kernel_rfl
set_option maxRecDepth 100000 in
theorem r0_17_5 : run (.known 0) (.row [2, 2, 1]) (.pt 1) = true := by kernel_rfl
set_option maxRecDepth 100000 in
theorem r0_17_6 : run (.known 0) (.row [2, 2, 1]) (.pt 2) = true := by kernel_rfl
set_option maxRecDepth 100000 in
theorem r0_17_7 : run (.known 0) (.row [2, 2, 1]) (.pt 3) = true := by kernel_rfl
set_option maxRecDepth 100000 in
theorem r0_17_8 : run (.known 0) (.row [2, 2, 1]) (.pt 4) = true := by kernel_rfl
set_option maxRecDepth 100000 in
theorem r0_17_9 : run (.known 0) (.row [2, 2, 1]) (.pt 5) = true := by kernel_rfl
theorem r0_17 : AllL (fun c => run (.known 0) (.row [2, 2, 1]) c = true) pclasses := ⟨r0_17_0, r0_17_1, r0_17_2, r0_17_3, r0_17_4, r0_17_5, r0_17_6, r0_17_7, r0_17_8, r0_17_9, trivial⟩
set_option maxRecDepth 100000 in
theorem r0_21_0 : run (.known 0) (.row [3, 1]) .nil = true := by kernel_rfl
set_option maxRecDepth 100000 in
theorem r0_21_1 : run (.known 0) (.row [3, 1]) .zero = true := by kernel_rfl
set_option maxRecDepth 100000 in
theorem r0_21_2 : run (.known 0) (.row [3, 1]) .no = true := by kernel_rfl
set_option maxRecDepth 100000 in
theorem r0_21_3 : run (.known 0) (.row [3, 1]) .long = true := by kernel_rfl
set_option maxRecDepth 100000 in
theorem r0_21_4 : run (.known 0) (.row [3, 1]) (.pt 0) = true := by kernel_rfl
set_option maxRecDepth 100000 in
theorem r0_21_5 : run (.known 0) (.row [3, 1]) (.pt 1) = true := by kernel_rfl
set_option maxRecDepth 100000 in
theorem r0_21_6 : run (.known 0) (.row [3, 1]) (.pt 2) = true := by kernel_rfl
set_option maxRecDepth 100000 in
theorem r0_21_7 : run (.known 0) (.row [3, 1]) (.pt 3) = true := by kernel_rfl
set_option maxRecDepth 100000 in
theorem r0_21_8 : run (.known 0) (.row [3, 1]) (.pt 4) = true := by kernel_rfl
set_option maxRecDepth 100000 in
theorem r0_21_9 : run (.known 0) (.row [3, 1]) (.pt 5) = true := by kernel_rfl
theorem r0_21 : AllL (fun c => run (.known 0) (.row [3, 1]) c = true) pclasses := ⟨r0_21_0, r0_21_1, r0_21_2, r0_21_3, r0_21_4, r0_21_5, r0_21_6, r0_21_7, r0_21_8, r0_21_9, trivial⟩
set_option maxRecDepth 100000 in
theorem r0_25_0 : run (.known 0) (.row [3, 2, 1]) .nil = true := by kernel_rfl
set_option maxRecDepth 100000 in
theorem r0_25_1 : run (.known 0) (.row [3, 2, 1]) .zero = true := by kernel_rfl
set_option maxRecDepth 100000 in
theorem r0_25_2 : run (.known 0) (.row [3, 2, 1]) .no = true := by kernel_rfl
set_option maxRecDepth 100000 in
theorem r0_25_3 : run (.known 0) (.row [3, 2, 1]) .long = true := by kernel_rfl
set_option maxRecDepth 100000 in
theorem r0_25_4 : run (.known 0) (.row [3, 2, 1]) (.pt 0) = true := by kernel_rfl
set_option maxRecDepth 100000 in
theorem r0_25_5 : run (.known 0) (.row [3, 2, 1]) (.pt 1) = true := by kernel_rfl
set_option maxRecDepth 100000 in
theorem r0_25_6 : run (.known 0) (.row [3, 2, 1]) (.pt 2) = true := by kernel_rfl
set_option maxRecDepth 100000 in
theorem r0_25_7 : run (.known 0) (.row [3, 2, 1]) (.pt 3) = true := by kernel_rfl
set_option maxRecDepth 100000 in
theorem r0_25_8 : run (.known 0) (.row [3, 2, 1]) (.pt 4) = true := by kernel_rfl
set_option maxRecDepth 100000 in
theorem r0_25_9 : run (.known 0) (.row [3, 2, 1]) (.pt 5) = true := by kernel_rfl
theorem r0_25 : AllL (fun c => run (.known 0) (.row [3, 2, 1]) c = true) pclasses := ⟨r0_25_0, r0_25_1, r0_25_2, r0_25_3, r0_25_4, r0_25_5, r0_25_6, r0_25_7, r0_25_8, r0_25_9, trivial⟩
set_option maxRecDepth 100000 in
theorem r0_29_0 : run (.known 0) (.row [4, 1, 1]) .nil = true := by kernel_rfl
set_option maxRecDepth 100000 in
theorem r0_29_1 : run (.known 0) (.row [4, 1, 1]) .zero = true := by kernel_rfl
set_option maxRecDepth 100000 in
theorem r0_29_2 : run (.known 0) (.row [4, 1, 1]) .no = true := by kernel_rfl
set_option maxRecDepth 100000 in
theorem r0_29_3 : run (.known 0) (.row [4, 1, 1]) .long = true := by kernel_rfl
set_option maxRecDepth 100000 in
theorem r0_29_4 : run (.known 0) (.row [4, 1, 1]) (.pt 0) = true := by kernel_rfl
set_option maxRecDepth 100000 in
theorem r0_29_5 : run (.known 0) (.row [4, 1, 1]) (.pt 1) = true := by kernel_rfl
set_option maxRecDepth 100000 in
theorem r0_29_6 : run (.known 0) (.row [4, 1, 1]) (.pt 2) = true := by kernel_rfl
set_option maxRecDepth 100000 in
theorem r0_29_7 : run (.known 0) (.row [4, 1, 1]) (.pt 3) = true := by kernel_rfl
set_option maxRecDepth 100000 in
theorem r0_29_8 : run (.known 0) (.row [4, 1, 1]) (.pt 4) = true := by kernel_rfl
set_option maxRecDepth 100000 in
theorem r0_29_9 : run (.known 0) (.row [4, 1, 1]) (.pt 5) = true := by kernel_rfl
theorem r0_29 : AllL (fun c => run (.known 0) (.row [4, 1, 1]) c = true) pclasses := ⟨r0_29_0, r0_29_1, r0_29_2, r0_29_3, r0_29_4, r0_29_5, r0_29_6, r0_29_7, r0_29_8, r0_29_9, trivial⟩
set_option maxRecDepth 100000 in
theorem r0_33_0 : run (.known 0) (.row [6]) .nil = true := by kernel_rfl
set_option maxRecDepth 100000 in
theorem r0_33_1 : run (.known 0) (.row [6]) .zero = true := by kernel_rfl
set_option maxRecDepth 100000 in
theorem r0_33_2 : run (.known 0) (.row [6]) .no = true := by kernel_rfl
set_option maxRecDepth 100000 in
theorem r0_33_3 : run (.known 0) (.row [6]) .long = true := by kernel_rfl
set_option maxRecDepth 100000 in
theorem r0_33_4 : run (.known 0) (.row [6]) (.pt 0) = true := by kernel_rfl
set_option maxRecDepth 100000 in
theorem r0_33_5 : run (.known 0) (.row [6]) (.pt 1) = true := by kernel_rfl
set_option maxRecDepth 100000 in
theorem r0_33_6 : run (.known 0) (.row [6]) (.pt 2) = true := by kernel_rfl
set_option maxRecDepth 100000 in
theorem r0_33_7 : run (.known 0) (.row [6]) (.pt 3) = true := by kernel_rfl
set_option maxRecDepth 100000 in
theorem r0_33_8 : run (.known 0) (.row [6]) (.pt 4) = true := by kernel_rfl
set_option maxRecDepth 100000 in
theorem r0_33_9 : run (.known 0) (.row [6]) (.pt 5) = true := by kernel_rfl
theorem r0_33 : AllL (fun c => run (.known 0) (.row [6]) c = true) pclasses := ⟨r0_33_0, r0_33_1, r0_33_2, r0_33_3, r0_33_4, r0_33_5, r0_33_6, r0_33_7, r0_33_8, r0_33_9, trivial⟩
set_option maxRecDepth 100000 in
theorem r1_3_0 : run (.known 1) .long .nil = true := by kernel_rfl
set_option maxRecDepth 100000 in
theorem r1_3_1 : run (.known 1) .long .zero = true := by kernel_rfl
set_option maxRecDepth 100000 in
theorem r1_3_2 : run (.known 1) .long .no = true := by kernel_rfl
set_option maxRecDepth 100000 in
theorem r1_3_3 : run (.known 1) .long .long = true := by kernel_rfl
set_option maxRecDepth 100000 in
theorem r1_3_4 : run (.known 1) .long (.pt 0) = true := by kernel_rfl
set_option maxRecDepth 100000 in
theorem r1_3_5 : run (.known 1) .long (.pt 1) = true := by kernel_rfl
set_option maxRecDepth 100000 in
theorem r1_3_6 : run (.known 1) .long (.pt 2) = true := by kernel_rfl
set_option maxRecDepth 100000 in
theorem r1_3_7 : run (.known 1) .long (.pt 3) = true := by kernel_rfl
set_option maxRecDepth 100000 in
theorem r1_3_8 : run (.known 1) .long (.pt 4) = true := by kernel_rfl
set_option maxRecDepth 100000 in
theorem r1_3_9 : run (.known 1) .long (.pt 5) = true := by kernel_rfl
theorem r1_3 : AllL (fun c => run (.known 1) .long c = true) pclasses := ⟨r1_3_0, r1_3_1, r1_3_2, r1_3_3, r1_3_4, r1_3_5, r1_3_6, r1_3_7, r1_3_8, r1_3_9, trivial⟩
set_option maxRecDepth 100000 in
theorem r1_7_0 : run (.known 1) (.row [1, 1, 1]) .nil = true := by kernel_rfl
set_option maxRecDepth 100000 in
theorem r1_7_1 : run (.known 1) (.row [1, 1, 1]) .zero = true := by kernel_rfl
set_option maxRecDepth 100000 in
theorem r1_7_2 : run (.known 1) (.row [1, 1, 1]) .no = true := by kernel_rfl
set_option maxRecDepth 100000 in
theorem r1_7_3 : run (.known 1) (.row [1, 1, 1]) .long = true := by kernel_rfl
set_option maxRecDepth 100000 in
theorem r1_7_4 : run (.known 1) (.row [1, 1, 1]) (.pt 0) = true := by kernel_rfl
set_option maxRecDepth 100000 in
theorem r1_7_5 : run (.known 1) (.row [1, 1, 1]) (.pt 1) = true := by kernel_rfl
set_option maxRecDepth 100000 in
theorem r1_7_6 : run (.known 1) (.row [1, 1, 1]) (.pt 2) = true := by kernel_rfl
set_option maxRecDepth 100000 in
theorem r1_7_7 : run (.known 1) (.row [1, 1, 1]) (.pt 3) = true := by kernel_rfl
set_option maxRecDepth 100000 in
theorem r1_7_8 : run (.known 1) (.row [1, 1, 1]) (.pt 4) = true := by kernel_rfl
set_option maxRecDepth 100000 in
theorem r1_7_9 : run (.known 1) (.row [1, 1, 1]) (.pt 5) = true := by kernel_rfl
theorem r1_7 : AllL (fun c => run (.known 1) (.row [1, 1, 1]) c = true) pclasses := ⟨r1_7_0, r1_7_1, r1_7_2, r1_7_3, r1_7_4, r1_7_5, r1_7_6, r1_7_7, r1_7_8, r1_7_9, trivial⟩
set_option maxRecDepth 100000 in
theorem r1_11_0 : run (.known 1) (.row [2]) .nil = true := by kernel_rfl
set_option maxRecDepth 100000 in
theorem r1_11_1 : run (.known 1) (.row [2]) .zero = true := by kernel_rfl
set_option maxRecDepth 100000 in
theorem r1_11_2 : run (.known 1) (.row [2]) .no = true := by kernel_rfl
set_option maxRecDepth 100000 in
theorem r1_11_3 : run (.known 1) (.row [2]) .long = true := by kernel_rfl
set_option maxRecDepth 100000 in
theorem r1_11_4 : run (.known 1) (.row [2]) (.pt 0) = true := by kernel_rfl
set_option maxRecDepth 100000 in
theorem r1_11_5 : run (.known 1) (.row [2]) (.pt 1) = true := by kernel_rfl
set_option maxRecDepth 100000 in
theorem r1_11_6 : run (.known 1) (.row [2]) (.pt 2) = true := by kernel_rfl
set_option maxRecDepth 100000 in
theorem r1_11_7 : run (.known 1) (.row [2]) (.pt 3) = true := by kernel_rfl
set_option maxRecDepth 100000 in
theorem r1_11_8 : run (.known 1) (.row [2]) (.pt 4) = true := by kernel_rfl
set_option maxRecDepth 100000 in
theorem r1_11_9 : run (.known 1) (.row [2]) (.pt 5) = true := by kernel_rfl
theorem r1_11 : AllL (fun c => run (.known 1) (.row [2]) c = true) pclasses := ⟨r1_11_0, r1_11_1, r1_11_2, r1_11_3, r1_11_4, r1_11_5, r1_11_6, r1_11_7, r1_11_8, r1_11_9, trivial⟩
set_option maxRecDepth 100000 in
theorem r1_15_0 : run (.known 1) (.row [2, 1, 1, 1, 1]) .nil = true := by kernel_rfl
set_option maxRecDepth 100000 in
theorem r1_15_1 : run (.known 1) (.row [2, 1, 1, 1, 1]) .zero = true := by kernel_rfl
set_option maxRecDepth 100000 in
theorem r1_15_2 : run (.known 1) (.row [2, 1, 1, 1, 1]) .no = true := by kernel_rfl
set_option maxRecDepth 100000 in
theorem r1_15_3 : run (.known 1) (.row [2, 1, 1, 1, 1]) .long = true := by kernel_rfl
set_option maxRecDepth 100000 in
theorem r1_15_4 : run (.known 1) (.row [2, 1, 1, 1, 1]) (.pt 0) = true := by kernel_rfl
set_option maxRecDepth 100000 in
theorem r1_15_5 : run (.known 1) (.row [2, 1, 1, 1, 1]) (.pt 1) = true := by kernel_rfl
set_option maxRecDepth 100000 in
theorem r1_15_6 : run (.known 1) (.row [2, 1, 1, 1, 1]) (.pt 2) = true := by kernel_rfl
set_option maxRecDepth 100000 in
theorem r1_15_7 : run (.known 1) (.row [2, 1, 1, 1, 1]) (.pt 3) = true := by kernel_rfl
set_option maxRecDepth 100000 in
theorem r1_15_8 : run (.known 1) (.row [2, 1, 1, 1, 1]) (.pt 4) = true := by kernel_rfl
set_option maxRecDepth 100000 in
theorem r1_15_9 : run (.known 1) (.row [2, 1, 1, 1, 1]) (.pt 5) = true := by kernel_rfl
theorem r1_15 : AllL (fun c => run (.known 1) (.row [2, 1, 1, 1, 1]) c = true) pclasses := ⟨r1_15_0, r1_15_1, r1_15_2, r1_15_3, r1_15_4, r1_15_5, r1_15_6, r1_15_7, r1_15_8, r1_15_9, trivial⟩
set_option maxRecDepth 100000 in
theorem r1_19_0 : run (.known 1) (.row [2, 2, 2]) .nil = true := by kernel_rfl
set_option maxRecDepth 100000 in
theorem r1_19_1 : run (.known 1) (.row [2, 2, 2]) .zero = true := by kernel_rfl
set_option maxRecDepth 100000 in
theorem r1_19_2 : run (.known 1) (.row [2, 2, 2]) .no = true := by kernel_rfl
set_option maxRecDepth 100000 in
theorem r1_19_3 : run (.known 1) (.row [2, 2, 2]) .long = true := by kernel_rfl
set_option maxRecDepth 100000 in
theorem r1_19_4 : run (.known 1) (.row [2, 2, 2]) (.pt 0) = true := by kernel_rfl
set_option maxRecDepth 100000 in
theorem r1_19_5 : run (.known 1) (.row [2, 2, 2]) (.pt 1) = true := by kernel_rfl
set_option maxRecDepth 100000 in
theorem r1_19_6 : run (.known 1) (.row [2, 2, 2]) (.pt 2) = true := by kernel_rfl
set_option maxRecDepth 100000 in
theorem r1_19_7 : run (.known 1) (.row [2, 2, 2]) (.pt 3) = true := by kernel_rfl
set_option maxRecDepth 100000 in
theorem r1_19_8 : run (.known 1) (.row [2, 2, 2]) (.pt 4) = true := by kernel_rfl
set_option maxRecDepth 100000 in
theorem r1_19_9 : run (.known 1) (.row [2, 2, 2]) (.pt 5) = true := by kernel_rfl
theorem r1_19 : AllL (fun c => run (.known 1) (.row [2, 2, 2]) c = true) pclasses := ⟨r1_19_0, r1_19_1, r1_19_2, r1_19_3, r1_19_4, r1_19_5, r1_19_6, r1_19_7, r1_19_8, r1_19_9, trivial⟩
set_option maxRecDepth 100000 in
theorem r1_23_0 : run (.known 1) (.row [3, 1, 1, 1]) .nil = true := by kernel_rfl
set_option maxRecDepth 100000 in
theorem r1_23_1 : run (.known 1) (.row [3, 1, 1, 1]) .zero = true := by kernel_rfl
set_option maxRecDepth 100000 in
theorem r1_23_2 : run (.known 1) (.row [3, 1, 1, 1]) .no = true := by kernel_rfl
set_option maxRecDepth 100000 in
theorem r1_23_3 : run (.known 1) (.row [3, 1, 1, 1]) .long = true := by kernel_rfl
set_option maxRecDepth 100000 in
theorem r1_23_4 : run (.known 1) (.row [3, 1, 1, 1]) (.pt 0) = true := by kernel_rfl
set_option maxRecDepth 100000 in
theorem r1_23_5 : run (.known 1) (.row [3, 1, 1, 1]) (.pt 1) = true := by kernel_rfl
set_option maxRecDepth 100000 in
theorem r1_23_6 : run (.known 1) (.row [3, 1, 1, 1]) (.pt 2) = true := by kernel_rfl
set_option maxRecDepth 100000 in
theorem r1_23_7 : run (.known 1) (.row [3, 1, 1, 1]) (.pt 3) = true := by kernel_rfl
set_option maxRecDepth 100000 in
theorem r1_23_8 : run (.known 1) (.row [3, 1, 1, 1]) (.pt 4) = true := by kernel_rfl
set_option maxRecDepth 100000 in
theorem r1_23_9 : run (.known 1) (.row [3, 1, 1, 1]) (.pt 5) = true := by kernel_rfl
theorem r1_23 : AllL (fun c => run (.known 1) (.row [3, 1, 1, 1]) c = true) pclasses := ⟨r1_23_0, r1_23_1, r1_23_2, r1_23_3, r1_23_4, r1_23_5, r1_23_6, r1_23_7, r1_23_8, r1_23_9, trivial⟩
set_option maxRecDepth 100000 in
theorem r1_27_0 : run (.known 1) (.row [4]) .nil = true := by kernel_rfl
set_option maxRecDepth 100000 in
theorem r1_27_1 : run (.known 1) (.row [4]) .zero = true := by kernel_rfl
set_option maxRecDepth 100000 in
theorem r1_27_2 : run (.known 1) (.row [4]) .no = true := by kernel_rfl
set_option maxRecDepth 100000 in
theorem r1_27_3 : run (.known 1) (.row [4]) .long = true := by kernel_rfl
set_option maxRecDepth 100000 in
theorem r1_27_4 : run (.known 1) (.row [4]) (.pt 0) = true := by kernel_rfl
set_option maxRecDepth 100000 in
theorem r1_27_5 : run (.known 1) (.row [4]) (.pt 1) = true := by kernel_rfl
set_option maxRecDepth 100000 in
theorem r1_27_6 : run (.known 1) (.row [4]) (.pt 2) = true := by kernel_rfl
set_option maxRecDepth 100000 in
theorem r1_27_7 : run (.known 1) (.row [4]) (.pt 3) = true := by kernel_rfl
set_option maxRecDepth 100000 in
theorem r1_27_8 : run (.known 1) (.row [4]) (.pt 4) = true := by kernel_rfl
set_option maxRecDepth 100000 in
theorem r1_27_9 : run (.known 1) (.row [4]) (.pt 5) = true := by kernel_rfl
theorem r1_27 : AllL (fun c => run (.known 1) (.row [4]) c = true) pclasses := ⟨r1_27_0, r1_27_1, r1_27_2, r1_27_3, r1_27_4, r1_27_5, r1_27_6, r1_27_7, r1_27_8, r1_27_9, trivial⟩
set_option maxRecDepth 100000 in
theorem r1_31_0 : run (.known 1) (.row [5]) .nil = true := by kernel_rfl
set_option maxRecDepth 100000 in
theorem r1_31_1 : run (.known 1) (.row [5]) .zero = true := by kernel_rfl
set_option maxRecDepth 100000 in
theorem r1_31_2 : run (.known 1) (.row [5]) .no = true := by kernel_rfl
set_option maxRecDepth 100000 in
theorem r1_31_3 : run (.known 1) (.row [5]) .long = true := by kernel_rfl
set_option maxRecDepth 100000 in
theorem r1_31_4 : run (.known 1) (.row [5]) (.pt 0) = true := by kernel_rfl
set_option maxRecDepth 100000 in
theorem r1_31_5 : run (.known 1) (.row [5]) (.pt 1) = true := by kernel_rfl
set_option maxRecDepth 100000 in
theorem r1_31_6 : run (.known 1) (.row [5]) (.pt 2) = true := by kernel_rfl
set_option maxRecDepth 100000 in
theorem r1_31_7 : run (.known 1) (.row [5]) (.pt 3) = true := by kernel_rfl
set_option maxRecDepth 100000 in
theorem r1_31_8 : run (.known 1) (.row [5]) (.pt 4) = true := by kernel_rfl
set_option maxRecDepth 100000 in
theorem r1_31_9 : run (.known 1) (.row [5]) (.pt 5) = true := by kernel_rfl
theorem r1_31 : AllL (fun c => run (.known 1) (.row [5]) c = true) pclasses := ⟨r1_31_0, r1_31_1, r1_31_2, r1_31_3, r1_31_4, r1_31_5, r1_31_6, r1_31_7, r1_31_8, r1_31_9, trivial⟩
set_option maxRecDepth 100000 in
theorem r2_1_0 : run (.known 2) .zero .nil = true := by kernel_rfl
set_option maxRecDepth 100000 in
theorem r2_1_1 : run (.known 2) .zero .zero = true := by kernel_rfl
set_option maxRecDepth 100000 in
theorem r2_1_2 : run (.known 2) .zero .no = true := by kernel_rfl
set_option maxRecDepth 100000 in
theorem r2_1_3 : run (.known 2) .zero .long = true := by kernel_rfl
set_option maxRecDepth 100000 in
theorem r2_1_4 : run (.known 2) .zero (.pt 0) = true := by kernel_rfl
set_option maxRecDepth 100000 in
theorem r2_1_5 : run (.known 2) .zero (.pt 1) = true := by kernel_rfl
set_option maxRecDepth 100000 in
theorem r2_1_6 : run (.known 2) .zero (.pt 2) = true := by kernel_rfl
set_option maxRecDepth 100000 in
theorem r2_1_7 : run (.known 2) .zero (.pt 3) = true := by kernel_rfl
set_option maxRecDepth 100000 in
theorem r2_1_8 : run (.known 2) .zero (.pt 4) = true := by kernel_rfl
set_option maxRecDepth 100000 in
theorem r2_1_9 : run (.known 2) .zero (.pt 5) = true := by kernel_rfl
theorem r2_1 : AllL (fun c => run (.known 2) .zero c = true) pclasses := ⟨r2_1_0, r2_1_1, r2_1_2, r2_1_3, r2_1_4, r2_1_5, r2_1_6, r2_1_7, r2_1_8, r2_1_9, trivial⟩
set_option maxRecDepth 100000 in
theorem r2_5_0 : run (.known 2) (.row [1]) .nil = true := by kernel_rfl
set_option maxRecDepth 100000 in
theorem r2_5_1 : run (.known 2) (.row [1]) .zero = true := by kernel_rfl
set_option maxRecDepth 100000 in
theorem r2_5_2 : run (.known 2) (.row [1]) .no = true := by kernel_rfl
set_option maxRecDepth 100000 in
theorem r2_5_3 : run (.known 2) (.row [1]) .long = true := by kernel_rfl
set_option maxRecDepth 100000 in
theorem r2_5_4 : run (.known 2) (.row [1]) (.pt 0) = true := by kernel_rfl
set_option maxRecDepth 100000 in
theorem r2_5_5 : run (.known 2) (.row [1]) (.pt 1) = true := by kernel_rfl
set_option maxRecDepth 100000 in
theorem r2_5_6 : run (.known 2) (.row [1]) (.pt 2) = true := by kernel_rfl
set_option maxRecDepth 100000 in
theorem r2_5_7 : run (.known 2) (.row [1]) (.pt 3) = true := by kernel_rfl
set_option maxRecDepth 100000 in
theorem r2_5_8 : run (.known 2) (.row [1]) (.pt 4) = true := by kernel_rfl
set_option maxRecDepth 100000 in
theorem r2_5_9 : run (.known 2) (.row [1]) (.pt 5) = true := by kernel_rfl
theorem r2_5 : AllL (fun c => run (.known 2) (.row [1]) c = true) pclasses := ⟨r2_5_0, r2_5_1, r2_5_2, r2_5_3, r2_5_4, r2_5_5, r2_5_6, r2_5_7, r2_5_8, r2_5_9, trivial⟩
set_option maxRecDepth 100000 in
theorem r2_9_0 : run (.known 2) (.row [1, 1, 1, 1, 1]) .nil = true := by kernel_rfl
set_option maxRecDepth 100000 in
theorem r2_9_1 : run (.known 2) (.row [1, 1, 1, 1, 1]) .zero = true := by kernel_rfl
set_option maxRecDepth 100000 in
theorem r2_9_2 : run (.known 2) (.row [1, 1, 1, 1, 1]) .no = true := by kernel_rfl
set_option maxRecDepth 100000 in
theorem r2_9_3 : run (.known 2) (.row [1, 1, 1, 1, 1]) .long = true := by kernel_rfl
set_option maxRecDepth 100000 in
theorem r2_9_4 : run (.known 2) (.row [1, 1, 1, 1, 1]) (.pt 0) = true := by kernel_rfl
set_option maxRecDepth 100000 in
theorem r2_9_5 : run (.known 2) (.row [1, 1, 1, 1, 1]) (.pt 1) = true := by kernel_rfl
set_option maxRecDepth 100000 in
theorem r2_9_6 : run (.known 2) (.row [1, 1, 1, 1, 1]) (.pt 2) = true := by kernel_rfl
set_option maxRecDepth 100000 in
theorem r2_9_7 : run (.known 2) (.row [1, 1, 1, 1, 1]) (.pt 3) = true := by kernel_rfl
set_option maxRecDepth 100000 in
theorem r2_9_8 : run (.known 2) (.row [1, 1, 1, 1, 1]) (.pt 4) = true := by kernel_rfl
set_option maxRecDepth 100000 in
theorem r2_9_9 : run (.known 2) (.row [1, 1, 1, 1, 1]) (.pt 5) = true := by kernel_rfl
theorem r2_9 : AllL (fun c => run (.known 2) (.row [1, 1, 1, 1, 1]) c = true) pclasses := ⟨r2_9_0, r2_9_1, r2_9_2, r2_9_3, r2_9_4, r2_9_5, r2_9_6, r2_9_7, r2_9_8, r2_9_9, trivial⟩
set_option maxRecDepth 100000 in
theorem r2_13_0 : run (.known 2) (.row [2, 1, 1]) .nil = true := by kernel_rfl
set_option maxRecDepth 100000 in
theorem r2_13_1 : run (.known 2) (.row [2, 1, 1]) .zero = true := by kernel_rfl
set_option maxRecDepth 100000 in
theorem r2_13_2 : run (.known 2) (.row [2, 1, 1]) .no = true := by kernel_rfl
set_option maxRecDepth 100000 in
theorem r2_13_3 : run (.known 2) (.row [2, 1, 1]) .long = true := by kernel_rfl
set_option maxRecDepth 100000 in
theorem r2_13_4 : run (.known 2) (.row [2, 1, 1]) (.pt 0) = true := by kernel_rfl
set_option maxRecDepth 100000 in
theorem r2_13_5 : run (.known 2) (.row [2, 1, 1]) (.pt 1) = true := by kernel_rfl
set_option maxRecDepth 100000 in
theorem r2_13_6 : run (.known 2) (.row [2, 1, 1]) (.pt 2) = true := by kernel_rfl
set_option maxRecDepth 100000 in
theorem r2_13_7 : run (.known 2) (.row [2, 1, 1]) (.pt 3) = true := by kernel_rfl
set_option maxRecDepth 100000 in
theorem r2_13_8 : run (.known 2) (.row [2, 1, 1]) (.pt 4) = true := by kernel_rfl
set_option maxRecDepth 100000 in
theorem r2_13_9 : run (.known 2) (.row [2, 1, 1]) (.pt 5) = true := by kernel_rfl
theorem r2_13 : AllL (fun c => run (.known 2) (.row [2, 1, 1]) c = true) pclasses := ⟨r2_13_0, r2_13_1, r2_13_2, r2_13_3, r2_13_4, r2_13_5, r2_13_6, r2_13_7, r2_13_8, r2_13_9, trivial⟩
set_option maxRecDepth 100000 in
theorem r2_17_0 : run (.known 2) (.row [2, 2, 1]) .nil = true := by kernel_rfl
set_option maxRecDepth 100000 in
theorem r2_17_1 : run (.known 2) (.row [2, 2, 1]) .zero = true := by kernel_rfl
set_option maxRecDepth 100000 in
theorem r2_17_2 : run (.known 2) (.row [2, 2, 1]) .no = true := by kernel_rfl
set_option maxRecDepth 100000 in
theorem r2_17_3 : run (.known 2) (.row [2, 2, 1]) .long = true := by kernel_rfl
set_option maxRecDepth 100000 in
theorem r2_17_4 : run (.known 2) (.row [2, 2, 1]) (.pt 0) = true := by kernel_rfl
set_option maxRecDepth 100000 in
theorem r2_17_5 : run (.known 2) (.row [2, 2, 1]) (.pt 1) = true := by kernel_rfl
set_option maxRecDepth 100000 in
theorem r2_17_6 : run (.known 2) (.row [2, 2, 1]) (.pt 2) = true := by kernel_rfl
set_option maxRecDepth 100000 in
theorem r2_17_7 : run (.known 2) (.row [2, 2, 1]) (.pt 3) = true := by kernel_rfl
set_option maxRecDepth 100000 in
theorem r2_17_8 : run (.known 2) (.row [2, 2, 1]) (.pt 4) = true := by kernel_rfl
set_option maxRecDepth 100000 in
theorem r2_17_9 : run (.known 2) (.row [2, 2, 1]) (.pt 5) = true := by kernel_rfl
theorem r2_17 : AllL (fun c => run (.known 2) (.row [2, 2, 1]) c = true) pclasses := ⟨r2_17_0, r2_17_1, r2_17_2, r2_17_3, r2_17_4, r2_17_5, r2_17_6, r2_17_7, r2_17_8, r2_17_9, trivial⟩
set_option maxRecDepth 100000 in
theorem r2_21_0 : run (.known 2) (.row [3, 1]) .nil = true := by kernel_rfl
set_option maxRecDepth 100000 in
theorem r2_21_1 : run (.known 2) (.row [3, 1]) .zero = true := by kernel_rfl
set_option maxRecDepth 100000 in
theorem r2_21_2 : run (.known 2) (.row [3, 1]) .no = true := by kernel_rfl
set_option maxRecDepth 100000 in
theorem r2_21_3 : run (.known 2) (.row [3, 1]) .long = true := by kernel_rfl
set_option maxRecDepth 100000 in
theorem r2_21_4 : run (.known 2) (.row [3, 1]) (.pt 0) = true := by kernel_rfl
set_option maxRecDepth 100000 in
theorem r2_21_5 : run (.known 2) (.row [3, 1]) (.pt 1) = true := by kernel_rfl
set_option maxRecDepth 100000 in
theorem r2_21_6 : run (.known 2) (.row [3, 1]) (.pt 2) = true := by kernel_rfl
set_option maxRecDepth 100000 in
theorem r2_21_7 : run (.known 2) (.row [3, 1]) (.pt 3) = true := by kernel_rfl
set_option maxRecDepth 100000 in
theorem r2_21_8 : run (.known 2) (.row [3, 1]) (.pt 4) = true := by kernel_rfl
set_option maxRecDepth 100000 in
theorem r2_21_9 : run (.known 2) (.row [3, 1]) (.pt 5) = true := by kernel_rfl
theorem r2_21 : AllL (fun c => run (.known 2) (.row [3, 1]) c = true) pclasses := ⟨r2_21_0, r2_21_1, r2_21_2, r2_21_3, r2_21_4, r2_21_5, r2_21_6, r2_21_7, r2_21_8, r2_21_9, trivial⟩
set_option maxRecDepth 100000 in
theorem r2_25_0 : run (.known 2) (.row [3, 2, 1]) .nil = true := by kernel_rfl
set_option maxRecDepth 100000 in
theorem r2_25_1 : run (.known 2) (.row [3, 2, 1]) .zero = true := by kernel_rfl
set_option maxRecDepth 100000 in
theorem r2_25_2 : run (.known 2) (.row [3, 2, 1]) .no = true := by kernel_rfl
set_option maxRecDepth 100000 in
theorem r2_25_3 : run (.known 2) (.row [3, 2, 1]) .long = true := by kernel_rfl
set_option maxRecDepth 100000 in
theorem r2_25_4 : run (.known 2) (.row [3, 2, 1]) (.pt 0) = true := by kernel_rfl
set_option maxRecDepth 100000 in
theorem r2_25_5 : run (.known 2) (.row [3, 2, 1]) (.pt 1) = true := by kernel_rfl
set_option maxRecDepth 100000 in
theorem r2_25_6 : run (.known 2) (.row [3, 2, 1]) (.pt 2) = true := by kernel_rfl
set_option maxRecDepth 100000 in
theorem r2_25_7 : run (.known 2) (.row [3, 2, 1]) (.pt 3) = true := by kernel_rfl
set_option maxRecDepth 100000 in
theorem r2_25_8 : run (.known 2) (.row [3, 2, 1]) (.pt 4) = true := by kernel_rfl
set_option maxRecDepth 100000 in
theorem r2_25_9 : run (.known 2) (.row [3, 2, 1]) (.pt 5) = true := by kernel_rfl
theorem r2_25 : AllL (fun c => run (.known 2) (.row [3, 2, 1]) c = true) pclasses := ⟨r2_25_0, r2_25_1, r2_25_2, r2_25_3, r2_25_4, r2_25_5, r2_25_6, r2_25_7, r2_25_8, r2_25_9, trivial⟩
set_option maxRecDepth 100000 in
theorem r2_29_0 : run (.known 2) (.row [4, 1, 1]) .nil = true := by kernel_rfl
set_option maxRecDepth 100000 in
theorem r2_29_1 : run (.known 2) (.row [4, 1, 1]) .zero = true := by kernel_rfl
set_option maxRecDepth 100000 in
theorem r2_29_2 : run (.known 2) (.row [4, 1, 1]) .no = true := by kernel_rfl
set_option maxRecDepth 100000 in
theorem r2_29_3 : run (.known 2) (.row [4, 1, 1]) .long = true := by kernel_rfl
set_option maxRecDepth 100000 in
theorem r2_29_4 : run (.known 2) (.row [4, 1, 1]) (.pt 0) = true := by kernel_rfl
set_option maxRecDepth 100000 in
theorem r2_29_5 : run (.known 2) (.row [4, 1, 1]) (.pt 1) = true := by kernel_rfl
set_option maxRecDepth 100000 in
theorem r2_29_6 : run (.known 2) (.row [4, 1, 1]) (.pt 2) = true := by kernel_rfl
set_option maxRecDepth 100000 in
theorem r2_29_7 : run (.known 2) (.row [4, 1, 1]) (.pt 3) = true := by kernel_rfl
set_option maxRecDepth 100000 in
theorem r2_29_8 : run (.known 2) (.row [4, 1, 1]) (.pt 4) = true := by kernel_rfl
set_option maxRecDepth 100000 in
theorem r2_29_9 : run (.known 2) (.row [4, 1, 1]) (.pt 5) = true := by kernel_rfl
theorem r2_29 : AllL (fun c => run (.known 2) (.row [4, 1, 1]) c = true) pclasses := ⟨r2_29_0, r2_29_1, r2_29_2, r2_29_3, r2_29_4, r2_29_5, r2_29_6, r2_29_7, r2_29_8, r2_29_9, trivial⟩
set_option maxRecDepth 100000 in
theorem r2_33_0 : run (.known 2) (.row [6]) .nil = true := by kernel_rfl
set_option maxRecDepth 100000 in
theorem r2_33_1 : run (.known 2) (.row [6]) .zero = true := by kernel_rfl
set_option maxRecDepth 100000 in
theorem r2_33_2 : run (.known 2) (.row [6]) .no = true := by kernel_rfl
set_option maxRecDepth 100000 in
theorem r2_33_3 : run (.known 2) (.row [6]) .long = true := by kernel_rfl
set_option maxRecDepth 100000 in
theorem r2_33_4 : run (.known 2) (.row [6]) (.pt 0) = true := by kernel_rfl
set_option maxRecDepth 100000 in
theorem r2_33_5 : run (.known 2) (.row [6]) (.pt 1) = true := by kernel_rfl
set_option maxRecDepth 100000 in
theorem r2_33_6 : run (.known 2) (.row [6]) (.pt 2) = true := by kernel_rfl
set_option maxRecDepth 100000 in
theorem r2_33_7 : run (.known 2) (.row [6]) (.pt 3) = true := by kernel_rfl
set_option maxRecDepth 100000 in
theorem r2_33_8 : run (.known 2) (.row [6]) (.pt 4) = true := by kernel_rfl
set_option maxRecDepth 100000 in
theorem r2_33_9 : run (.known 2) (.row [6]) (.pt 5) = true := by kernel_rfl
theorem r2_33 : AllL (fun c => run (.known 2) (.row [6]) c = true) pclasses := ⟨r2_33_0, r2_33_1, r2_33_2, r2_33_3, r2_33_4, r2_33_5, r2_33_6, r2_33_7, r2_33_8, r2_33_9, trivial⟩
set_option maxRecDepth 100000 in
theorem r3_3_0 : run (.known 3) .long .nil = true := by kernel_rfl
set_option maxRecDepth 100000 in
theorem r3_3_1 : run (.known 3) .long .zero = true := by kernel_rfl
set_option maxRecDepth 100000 in
theorem r3_3_2 : run (.known 3) .long .no = true := by kernel_rfl
set_option maxRecDepth 100000 in
theorem r3_3_3 : run (.known 3) .long .long = true := by kernel_rfl
set_option maxRecDepth 100000 in
theorem r3_3_4 : run (.known 3) .long (.pt 0) = true := by kernel_rfl
set_option maxRecDepth 100000 in
theorem r3_3_5 : run (.known 3) .long (.pt 1) = true := by kernel_rfl
set_option maxRecDepth 100000 in
theorem r3_3_6 : run (.known 3) .long (.pt 2) = true := by kernel_rfl
set_option maxRecDepth 100000 in
theorem r3_3_7 : run (.known 3) .long (.pt 3) = true := by kernel_rfl
set_option maxRecDepth 100000 in
theorem r3_3_8 : run (.known 3) .long (.pt 4) = true := by kernel_rfl
set_option maxRecDepth 100000 in
theorem r3_3_9 : run (.known 3) .long (.pt 5) = true := by kernel_rfl
theorem r3_3 : AllL (fun c => run (.known 3) .long c = true) pclasses := ⟨r3_3_0, r3_3_1, r3_3_2, r3_3_3, r3_3_4, r3_3_5, r3_3_6, r3_3_7, r3_3_8, r3_3_9, trivial⟩
set_option maxRecDepth 100000 in
theorem r3_7_0 : run (.known 3) (.row [1, 1, 1]) .nil = true := by kernel_rfl
set_option maxRecDepth 100000 in
theorem r3_7_1 : run (.known 3) (.row [1, 1, 1]) .zero = true := by kernel_rfl
set_option maxRecDepth 100000 in
theorem r3_7_2 : run (.known 3) (.row [1, 1, 1]) .no = true := by kernel_rfl
set_option maxRecDepth 100000 in
theorem r3_7_3 : run (.known 3) (.row [1, 1, 1]) .long = true := by kernel_rfl
set_option maxRecDepth 100000 in
theorem r3_7_4 : run (.known 3) (.row [1, 1, 1]) (.pt 0) = true := by kernel_rfl
set_option maxRecDepth 100000 in
theorem r3_7_5 : run (.known 3) (.row [1, 1, 1]) (.pt 1) = true := by kernel_rfl
set_option maxRecDepth 100000 in
theorem r3_7_6 : run (.known 3) (.row [1, 1, 1]) (.pt 2) = true := by kernel_rfl
set_option maxRecDepth 100000 in
theorem r3_7_7 : run (.known 3) (.row [1, 1, 1]) (.pt 3) = true := by kernel_rfl
set_option maxRecDepth 100000 in
theorem r3_7_8 : run (.known 3) (.row [1, 1, 1]) (.pt 4) = true := by kernel_rfl
set_option maxRecDepth 100000 in
theorem r3_7_9 : run (.known 3) (.row [1, 1, 1]) (.pt 5) = true := by kernel_rfl
theorem r3_7 : AllL (fun c => run (.known 3) (.row [1, 1, 1]) c = true) pclasses := ⟨r3_7_0, r3_7_1, r3_7_2, r3_7_3, r3_7_4, r3_7_5, r3_7_6, r3_7_7, r3_7_8, r3_7_9, trivial⟩
set_option maxRecDepth 100000 in
theorem r3_11_0 : run (.known 3) (.row [2]) .nil = true := by kernel_rfl
set_option maxRecDepth 100000 in
theorem r3_11_1 : run (.known 3) (.row [2]) .zero = true := by kernel_rfl
set_option maxRecDepth 100000 in
theorem r3_11_2 : run (.known 3) (.row [2]) .no = true := by kernel_rfl
set_option maxRecDepth 100000 in
theorem r3_11_3 : run (.known 3) (.row [2]) .long = true := by kernel_rfl
set_option maxRecDepth 100000 in
theorem r3_11_4 : run (.known 3) (.row [2]) (.pt 0) = true := by kernel_rfl
set_option maxRecDepth 100000 in
theorem r3_11_5 : run (.known 3) (.row [2]) (.pt 1) = true := by kernel_rfl
set_option maxRecDepth 100000 in
theorem r3_11_6 : run (.known 3) (.row [2]) (.pt 2) = true := by kernel_rfl
set_option maxRecDepth 100000 in
theorem r3_11_7 : run (.known 3) (.row [2]) (.pt 3) = true := by kernel_rfl
set_option maxRecDepth 100000 in
theorem r3_11_8 : run (.known 3) (.row [2]) (.pt 4) = true := by kernel_rfl
set_option maxRecDepth 100000 in
theorem r3_11_9 : run (.known 3) (.row [2]) (.pt 5) = true := by kernel_rfl
theorem r3_11 : AllL (fun c => run (.known 3) (.row [2]) c = true) pclasses := ⟨r3_11_0, r3_11_1, r3_11_2, r3_11_3, r3_11_4, r3_11_5, r3_11_6, r3_11_7, r3_11_8, r3_11_9, trivial⟩
set_option maxRecDepth 100000 in
theorem r3_15_0 : run (.known 3) (.row [2, 1, 1, 1, 1]) .nil = true := by kernel_rfl
set_option maxRecDepth 100000 in
theorem r3_15_1 : run (.known 3) (.row [2, 1, 1, 1, 1]) .zero = true := by kernel_rfl
set_option maxRecDepth 100000 in
theorem r3_15_2 : run (.known 3) (.row [2, 1, 1, 1, 1]) .no = true := by kernel_rfl
set_option maxRecDepth 100000 in
theorem r3_15_3 : run (.known 3) (.row [2, 1, 1, 1, 1]) .long = true := by kernel_rfl
set_option maxRecDepth 100000 in
theorem r3_15_4 : run (.known 3) (.row [2, 1, 1, 1, 1]) (.pt 0) = true := by kernel_rfl
set_option maxRecDepth 100000 in
theorem r3_15_5 : run (.known 3) (.row [2, 1, 1, 1, 1]) (.pt 1) = true := by kernel_rfl
set_option maxRecDepth 100000 in
theorem r3_15_6 : run (.known 3) (.row [2, 1, 1, 1, 1]) (.pt 2) = true := by kernel_rfl
set_option maxRecDepth 100000 in
theorem r3_15_7 : run (.known 3) (.row [2, 1, 1, 1, 1]) (.pt 3) = true := by kernel_rfl
set_option maxRecDepth 100000 in
theorem r3_15_8 : run (.known 3) (.row [2, 1, 1, 1, 1]) (.pt 4) = true := by kernel_rfl
set_option maxRecDepth 100000 in
theorem r3_15_9 : run (.known 3) (.row [2, 1, 1, 1, 1]) (.pt 5) = true := by kernel_rfl
theorem r3_15 : AllL (fun c => run (.known 3) (.row [2, 1, 1, 1, 1]) c = true) pclasses := ⟨r3_15_0, r3_15_1, r3_15_2, r3_15_3, r3_15_4, r3_15_5, r3_15_6, r3_15_7, r3_15_8, r3_15_9, trivial⟩
set_option maxRecDepth 100000 in
theorem r3_19_0 : run (.known 3) (.row [2, 2, 2]) .nil = true := by kernel_rfl
set_option maxRecDepth 100000 in
theorem r3_19_1 : run (.known 3) (.row [2, 2, 2]) .zero = true := by kernel_rfl
set_option maxRecDepth 100000 in
theorem r3_19_2 : run (.known 3) (.row [2, 2, 2]) .no = true := by kernel_rfl
set_option maxRecDepth 100000 in
theorem r3_19_3 : run (.known 3) (.row [2, 2, 2]) .long = true := by kernel_rfl
set_option maxRecDepth 100000 in
theorem r3_19_4 : run (.known 3) (.row [2, 2, 2]) (.pt 0) = true := by kernel_rfl
set_option maxRecDepth 100000 in
theorem r3_19_5 : run (.known 3) (.row [2, 2, 2]) (.pt 1) = true := by kernel_rfl
set_option maxRecDepth 100000 in
theorem r3_19_6 : run (.known 3) (.row [2, 2, 2]) (.pt 2) = true := by kernel_rfl
set_option maxRecDepth 100000 in
theorem r3_19_7 : run (.known 3) (.row [2, 2, 2]) (.pt 3) = true := by kernel_rfl
set_option maxRecDepth 100000 in
theorem r3_19_8 : run (.known 3) (.row [2, 2, 2]) (.pt 4) = true := by kernel_rfl
set_option maxRecDepth 100000 in
theorem r3_19_9 : run (.known 3) (.row [2, 2, 2]) (.pt 5) = true := by kernel_rfl
theorem r3_19 : AllL (fun c => run (.known 3) (.row [2, 2, 2]) c = true) pclasses := ⟨r3_19_0, r3_19_1, r3_19_2, r3_19_3, r3_19_4, r3_19_5, r3_19_6, r3_19_7, r3_19_8, r3_19_9, trivial⟩
set_option maxRecDepth 100000 in
theorem r3_23_0 : run (.known 3) (.row [3, 1, 1, 1]) .nil = true := by kernel_rfl
set_option maxRecDepth 100000 in
theorem r3_23_1 : run (.known 3) (.row [3, 1, 1, 1]) .zero = true := by kernel_rfl
set_option maxRecDepth 100000 in
theorem r3_23_2 : run (.known 3) (.row [3, 1, 1, 1]) .no = true := by kernel_rfl
set_option maxRecDepth 100000 in
theorem r3_23_3 : run (.known 3) (.row [3, 1, 1, 1]) .long = true := by kernel_rfl
set_option maxRecDepth 100000 in
theorem r3_23_4 : run (.known 3) (.row [3, 1, 1, 1]) (.pt 0) = true := by kernel_rfl
set_option maxRecDepth 100000 in
theorem r3_23_5 : run (.known 3) (.row [3, 1, 1, 1]) (.pt 1) = true := by kernel_rfl
set_option maxRecDepth 100000 in
theorem r3_23_6 : run (.known 3) (.row [3, 1, 1, 1]) (.pt 2) = true := by kernel_rfl
set_option maxRecDepth 100000 in
theorem r3_23_7 : run (.known 3) (.row [3, 1, 1, 1]) (.pt 3) = true := by kernel_rfl
set_option maxRecDepth 100000 in
theorem r3_23_8 : run (.known 3) (.row [3, 1, 1, 1]) (.pt 4) = true := by kernel_rfl
set_option maxRecDepth 100000 in
theorem r3_23_9 : run (.known 3) (.row [3, 1, 1, 1]) (.pt 5) = true := by kernel_rfl
theorem r3_23 : AllL (fun c => run (.known 3) (.row [3, 1, 1, 1]) c = true) pclasses := ⟨r3_23_0, r3_23_1, r3_23_2, r3_23_3, r3_23_4, r3_23_5, r3_23_6, r3_23_7, r3_23_8, r3_23_9, trivial⟩
set_option maxRecDepth 100000 in
theorem r3_27_0 : run (.known 3) (.row [4]) .nil = true := by kernel_rfl
set_option maxRecDepth 100000 in
theorem r3_27_1 : run (.known 3) (.row [4]) .zero = true := by kernel_rfl
set_option maxRecDepth 100000 in
theorem r3_27_2 : run (.known 3) (.row [4]) .no = true := by kernel_rfl
set_option maxRecDepth 100000 in
theorem r3_27_3 : run (.known 3) (.row [4]) .long = true := by kernel_rfl
set_option maxRecDepth 100000 in
theorem r3_27_4 : run (.known 3) (.row [4]) (.pt 0) = true := by kernel_rfl
set_option maxRecDepth 100000 in
theorem r3_27_5 : run (.known 3) (.row [4]) (.pt 1) = true := by kernel_rfl
set_option maxRecDepth 100000 in
theorem r3_27_6 : run (.known 3) (.row [4]) (.pt 2) = true := by kernel_rfl
set_option maxRecDepth 100000 in
theorem r3_27_7 : run (.known 3) (.row [4]) (.pt 3) = true := by kernel_rfl
set_option maxRecDepth 100000 in
theorem r3_27_8 : run (.known 3) (.row [4]) (.pt 4) = true := by kernel_rfl
set_option maxRecDepth 100000 in
theorem r3_27_9 : run (.known 3) (.row [4]) (.pt 5) = true := by kernel_rfl
theorem r3_27 : AllL (fun c => run (.known 3) (.row [4]) c = true) pclasses := ⟨r3_27_0, r3_27_1, r3_27_2, r3_27_3, r3_27_4, r3_27_5, r3_27_6, r3_27_7, r3_27_8, r3_27_9, trivial⟩
set_option maxRecDepth 100000 in
theorem r3_31_0 : run (.known 3) (.row [5]) .nil = true := by kernel_rfl
set_option maxRecDepth 100000 in
theorem r3_31_1 : run (.known 3) (.row [5]) .zero = true := by kernel_rfl
set_option maxRecDepth 100000 in
theorem r3_31_2 : run (.known 3) (.row [5]) .no = true := by kernel_rfl
set_option maxRecDepth 100000 in
theorem r3_31_3 : run (.known 3) (.row [5]) .long = true := by kernel_rfl
set_option maxRecDepth 100000 in
theorem r3_31_4 : run (.known 3) (.row [5]) (.pt 0) = true := by kernel_rfl
set_option maxRecDepth 100000 in
theorem r3_31_5 : run (.known 3) (.row [5]) (.pt 1) = true := by kernel_rfl
set_option maxRecDepth 100000 in
theorem r3_31_6 : run (.known 3) (.row [5]) (.pt 2) = true := by kernel_rfl
set_option maxRecDepth 100000 in
theorem r3_31_7 : run (.known 3) (.row [5]) (.pt 3) = true := by kernel_rfl
set_option maxRecDepth 100000 in
theorem r3_31_8 : run (.known 3) (.row [5]) (.pt 4) = true := by kernel_rfl
set_option maxRecDepth 100000 in
theorem r3_31_9 : run (.known 3) (.row [5]) (.pt 5) = true := by kernel_rfl
theorem r3_31 : AllL (fun c => run (.known 3) (.row [5]) c = true) pclasses := ⟨r3_31_0, r3_31_1, r3_31_2, r3_31_3, r3_31_4, r3_31_5, r3_31_6, r3_31_7, r3_31_8, r3_31_9, trivial⟩
set_option maxRecDepth 100000 in
theorem r4_1_0 : run (.known 4) .zero .nil = true := by kernel_rfl
set_option maxRecDepth 100000 in
theorem r4_1_1 : run (.known 4) .zero .zero = true := by kernel_rfl
set_option maxRecDepth 100000 in
theorem r4_1_2 : run (.known 4) .zero .no = true := by kernel_rfl
set_option maxRecDepth 100000 in
theorem r4_1_3 : run (.known 4) .zero .long = true := by kernel_rfl
set_option maxRecDepth 100000 in
theorem r4_1_4 : run (.known 4) .zero (.pt 0) = true := by kernel_rfl
set_option maxRecDepth 100000 in
theorem r4_1_5 : run (.known 4) .zero (.pt 1) = true := by kernel_rfl
set_option maxRecDepth 100000 in
theorem r4_1_6 : run (.known 4) .zero (.pt 2) = true := by kernel_rfl
set_option maxRecDepth 100000 in
theorem r4_1_7 : run (.known 4) .zero (.pt 3) = true := by kernel_rfl
set_option maxRecDepth 100000 in
theorem r4_1_8 : run (.known 4) .zero (.pt 4) = true := by kernel_rfl
set_option maxRecDepth 100000 in
theorem r4_1_9 : run (.known 4) .zero (.pt 5) = true := by kernel_rfl
theorem r4_1 : AllL (fun c => run (.known 4) .zero c = true) pclasses := ⟨r4_1_0, r4_1_1, r4_1_2, r4_1_3, r4_1_4, r4_1_5, r4_1_6, r4_1_7, r4_1_8, r4_1_9, trivial⟩
set_option maxRecDepth 100000 in
theorem r4_5_0 : run (.known 4) (.row [1]) .nil = true := by kernel_rfl
set_option maxRecDepth 100000 in
theorem r4_5_1 : run (.known 4) (.row [1]) .zero = true := by kernel_rfl
set_option maxRecDepth 100000 in
theorem r4_5_2 : run (.known 4) (.row [1]) .no = true := by kernel_rfl
set_option maxRecDepth 100000 in
theorem r4_5_3 : run (.known 4) (.row [1]) .long = true := by kernel_rfl
set_option maxRecDepth 100000 in
theorem r4_5_4 : run (.known 4) (.row [1]) (.pt 0) = true := by kernel_rfl
set_option maxRecDepth 100000 in
theorem r4_5_5 : run (.known 4) (.row [1]) (.pt 1) = true := by kernel_rfl
set_option maxRecDepth 100000 in
theorem r4_5_6 : run (.known 4) (.row [1]) (.pt 2) = true := by kernel_rfl
set_option maxRecDepth 100000 in
theorem r4_5_7 : run (.known 4) (.row [1]) (.pt 3) = true := by kernel_rfl
set_option maxRecDepth 100000 in
theorem r4_5_8 : run (.known 4) (.row [1]) (.pt 4) = true := by kernel_rfl
set_option maxRecDepth 100000 in
theorem r4_5_9 : run (.known 4) (.row [1]) (.pt 5) = true := by kernel_rfl
theorem r4_5 : AllL (fun c => run (.known 4) (.row [1]) c = true) pclasses := ⟨r4_5_0, r4_5_1, r4_5_2, r4_5_3, r4_5_4, r4_5_5, r4_5_6, r4_5_7, r4_5_8, r4_5_9, trivial⟩
set_option maxRecDepth 100000 in
theorem r4_9_0 : run (.known 4) (.row [1, 1, 1, 1, 1]) .nil = true := by kernel_rfl
set_option maxRecDepth 100000 in
theorem r4_9_1 : run (.known 4) (.row [1, 1, 1, 1, 1]) .zero = true := by kernel_rfl
set_option maxRecDepth 100000 in
theorem r4_9_2 : run (.known 4) (.row [1, 1, 1, 1, 1]) .no = true := by kernel_rfl
set_option maxRecDepth 100000 in
theorem r4_9_3 : run (.known 4) (.row [1, 1, 1, 1, 1]) .long = true := by kernel_rfl
set_option maxRecDepth 100000 in
theorem r4_9_4 : run (.known 4) (.row [1, 1, 1, 1, 1]) (.pt 0) = true := by kernel_rfl
set_option maxRecDepth 100000 in
theorem r4_9_5 : run (.known 4) (.row [1, 1, 1, 1, 1]) (.pt 1) = true := by kernel_rfl
set_option maxRecDepth 100000 in
theorem r4_9_6 : run (.known 4) (.row [1, 1, 1, 1, 1]) (.pt 2) = true := by kernel_rfl
set_option maxRecDepth 100000 in
theorem r4_9_7 : run (.known 4) (.row [1, 1, 1, 1, 1]) (.pt 3) = true := by kernel_rfl
set_option maxRecDepth 100000 in
theorem r4_9_8 : run (.known 4) (.row [1, 1, 1, 1, 1]) (.pt 4) = true := by kernel_rfl
set_option maxRecDepth 100000 in
theorem r4_9_9 : run (.known 4) (.row [1, 1, 1, 1, 1]) (.pt 5) = true := by kernel_rfl
theorem r4_9 : AllL (fun c => run (.known 4) (.row [1, 1, 1, 1, 1]) c = true) pclasses := ⟨r4_9_0, r4_9_1, r4_9_2, r4_9_3, r4_9_4, r4_9_5, r4_9_6, r4_9_7, r4_9_8, r4_9_9, trivial⟩
set_option maxRecDepth 100000 in
theorem r4_13_0 : run (.known 4) (.row [2, 1, 1]) .nil = true := by kernel_rfl
set_option maxRecDepth 100000 in
theorem r4_13_1 : run (.known 4) (.row [2, 1, 1]) .zero = true := by kernel_rfl
set_option maxRecDepth 100000 in
theorem r4_13_2 : run (.known 4) (.row [2, 1, 1]) .no = true := by kernel_rfl
set_option maxRecDepth 100000 in
theorem r4_13_3 : run (.known 4) (.row [2, 1, 1]) .long = true := by kernel_rfl
set_option maxRecDepth 100000 in
theorem r4_13_4 : run (.known 4) (.row [2, 1, 1]) (.pt 0) = true := by kernel_rfl
set_option maxRecDepth 100000 in
theorem r4_13_5 : run (.known 4) (.row [2, 1, 1]) (.pt 1) = true := by kernel_rfl
set_option maxRecDepth 100000 in
theorem r4_13_6 : run (.known 4) (.row [2, 1, 1]) (.pt 2) = true := by kernel_rfl
set_option maxRecDepth 100000 in
theorem r4_13_7 : run (.known 4) (.row [2, 1, 1]) (.pt 3) = true := by kernel_rfl
set_option maxRecDepth 100000 in
theorem r4_13_8 : run (.known 4) (.row [2, 1, 1]) (.pt 4) = true := by kernel_rfl
set_option maxRecDepth 100000 in
theorem r4_13_9 : run (.known 4) (.row [2, 1, 1]) (.pt 5) = true := by kernel_rfl
theorem r4_13 : AllL (fun c => run (.known 4) (.row [2, 1, 1]) c = true) pclasses := ⟨r4_13_0, r4_13_1, r4_13_2, r4_13_3, r4_13_4, r4_13_5, r4_13_6, r4_13_7, r4_13_8, r4_13_9, trivial⟩
set_option maxRecDepth 100000 in
theorem r4_17_0 : run (.known 4) (.row [2, 2, 1]) .nil = true := by kernel_rfl
set_option maxRecDepth 100000 in
theorem r4_17_1 : run (.known 4) (.row [2, 2, 1]) .zero = true := by kernel_rfl
set_option maxRecDepth 100000 in
theorem r4_17_2 : run (.known 4) (.row [2, 2, 1]) .no = true := by kernel_rfl
set_option maxRecDepth 100000 in
theorem r4_17_3 : run (.known 4) (.row [2, 2, 1]) .long = true := by kernel_rfl
set_option maxRecDepth 100000 in
theorem r4_17_4 : run (.known 4) (.row [2, 2, 1]) (.pt 0) = true := by kernel_rfl
set_option maxRecDepth 100000 in
theorem r4_17_5 : run (.known 4) (.row [2, 2, 1]) (.pt 1) = true := by kernel_rfl
set_option maxRecDepth 100000 in
theorem r4_17_6 : run (.known 4) (.row [2, 2, 1]) (.pt 2) = true := by kernel_rfl
set_option maxRecDepth 100000 in
theorem r4_17_7 : run (.known 4) (.row [2, 2, 1]) (.pt 3) = true := by kernel_rfl
set_option maxRecDepth 100000 in
theorem r4_17_8 : run (.known 4) (.row [2, 2, 1]) (.pt 4) = true := by kernel_rfl
set_option maxRecDepth 100000 in
theorem r4_17_9 : run (.known 4) (.row [2, 2, 1]) (.pt 5) = true := by kernel_rfl
theorem r4_17 : AllL (fun c => run (.known 4) (.row [2, 2, 1]) c = true) pclasses := ⟨r4_17_0, r4_17_1, r4_17_2, r4_17_3, r4_17_4, r4_17_5, r4_17_6, r4_17_7, r4_17_8, r4_17_9, trivial⟩
set_option maxRecDepth 100000 in
theorem r4_21_0 : run (.known 4) (.row [3, 1]) .nil = true := by kernel_rfl
set_option maxRecDepth 100000 in
theorem r4_21_1 : run (.known 4) (.row [3, 1]) .zero = true := by kernel_rfl
set_option maxRecDepth 100000 in
theorem r4_21_2 : run (.known 4) (.row [3, 1]) .no = true := by kernel_rfl
set_option maxRecDepth 100000 in
theorem r4_21_3 : run (.known 4) (.row [3, 1]) .long = true := by kernel_rfl
set_option maxRecDepth 100000 in
theorem r4_21_4 : run (.known 4) (.row [3, 1]) (.pt 0) = true := by kernel_rfl
set_option maxRecDepth 100000 in
theorem r4_21_5 : run (.known 4) (.row [3, 1]) (.pt 1) = true := by kernel_rfl
set_option maxRecDepth 100000 in
theorem r4_21_6 : run (.known 4) (.row [3, 1]) (.pt 2) = true := by kernel_rfl
set_option maxRecDepth 100000 in
theorem r4_21_7 : run (.known 4) (.row [3, 1]) (.pt 3) = true := by kernel_rfl
set_option maxRecDepth 100000 in
theorem r4_21_8 : run (.known 4) (.row [3, 1]) (.pt 4) = true := by kernel_rfl
set_option maxRecDepth 100000 in
theorem r4_21_9 : run (.known 4) (.row [3, 1]) (.pt 5) = true := by kernel_rfl
theorem r4_21 : AllL (fun c => run (.known 4) (.row [3, 1]) c = true) pclasses := ⟨r4_21_0, r4_21_1, r4_21_2, r4_21_3, r4_21_4, r4_21_5, r4_21_6, r4_21_7, r4_21_8, r4_21_9, trivial⟩
set_option maxRecDepth 100000 in
theorem r4_25_0 : run (.known 4) (.row [3, 2, 1]) .nil = true := by kernel_rfl
set_option maxRecDepth 100000 in
theorem r4_25_1 : run (.known 4) (.row [3, 2, 1]) .zero = true := by kernel_rfl
set_option maxRecDepth 100000 in
theorem r4_25_2 : run (.known 4) (.row [3, 2, 1]) .no = true := by kernel_rfl
set_option maxRecDepth 100000 in
theorem r4_25_3 : run (.known 4) (.row [3, 2, 1]) .long = true := by kernel_rfl
set_option maxRecDepth 100000 in
theorem r4_25_4 : run (.known 4) (.row [3, 2, 1]) (.pt 0) = true := by kernel_rfl
set_option maxRecDepth 100000 in
theorem r4_25_5 : run (.known 4) (.row [3, 2, 1]) (.pt 1) = true := by kernel_rfl
set_option maxRecDepth 100000 in
theorem r4_25_6 : run (.known 4) (.row [3, 2, 1]) (.pt 2) = true := by kernel_rfl
set_option maxRecDepth 100000 in
theorem r4_25_7 : run (.known 4) (.row [3, 2, 1]) (.pt 3) = true := by kernel_rfl
set_option maxRecDepth 100000 in
theorem r4_25_8 : run (.known 4) (.row [3, 2, 1]) (.pt 4) = true := by kernel_rfl
set_option maxRecDepth 100000 in
theorem r4_25_9 : run (.known 4) (.row [3, 2, 1]) (.pt 5) = true := by kernel_rfl
theorem r4_25 : AllL (fun c => run (.known 4) (.row [3, 2, 1]) c = true) pclasses := ⟨r4_25_0, r4_25_1, r4_25_2, r4_25_3, r4_25_4, r4_25_5, r4_25_6, r4_25_7, r4_25_8, r4_25_9, trivial⟩
set_option maxRecDepth 100000 in
theorem r4_29_0 : run (.known 4) (.row [4, 1, 1]) .nil = true := by kernel_rfl
set_option maxRecDepth 100000 in
theorem r4_29_1 : run (.known 4) (.row [4, 1, 1]) .zero = true := by kernel_rfl
set_option maxRecDepth 100000 in
theorem r4_29_2 : run (.known 4) (.row [4, 1, 1]) .no = true := by kernel_rfl
set_option maxRecDepth 100000 in
theorem r4_29_3 : run (.known 4) (.row [4, 1, 1]) .long = true := by kernel_rfl
set_option maxRecDepth 100000 in
theorem r4_29_4 : run (.known 4) (.row [4, 1, 1]) (.pt 0) = true := by kernel_rfl
set_option maxRecDepth 100000 in
theorem r4_29_5 : run (.known 4) (.row [4, 1, 1]) (.pt 1) = true := by kernel_rfl
set_option maxRecDepth 100000 in
theorem r4_29_6 : run (.known 4) (.row [4, 1, 1]) (.pt 2) = true := by kernel_rfl
set_option maxRecDepth 100000 in
theorem r4_29_7 : run (.known 4) (.row [4, 1, 1]) (.pt 3) = true := by kernel_rfl
set_option maxRecDepth 100000 in
theorem r4_29_8 : run (.known 4) (.row [4, 1, 1]) (.pt 4) = true := by kernel_rfl
set_option maxRecDepth 100000 in
theorem r4_29_9 : run (.known 4) (.row [4, 1, 1]) (.pt 5) = true := by kernel_rfl
theorem r4_29 : AllL (fun c => run (.known 4) (.row [4, 1, 1]) c = true) pclasses := ⟨r4_29_0, r4_29_1, r4_29_2, r4_29_3, r4_29_4, r4_29_5, r4_29_6, r4_29_7, r4_29_8, r4_29_9, trivial⟩
set_option maxRecDepth 100000 in
theorem r4_33_0 : run (.known 4) (.row [6]) .nil = true := by kernel_rfl
set_option maxRecDepth 100000 in
theorem r4_33_1 : run (.known 4) (.row [6]) .zero = true := by kernel_rfl
set_option maxRecDepth 100000 in
theorem r4_33_2 : run (.known 4) (.row [6]) .no = true := by kernel_rfl
set_option maxRecDepth 100000 in
theorem r4_33_3 : run (.known 4) (.row [6]) .long = true := by kernel_rfl
set_option maxRecDepth 100000 in
theorem r4_33_4 : run (.known 4) (.row [6]) (.pt 0) = true := by kernel_rfl
set_option maxRecDepth 100000 in
theorem r4_33_5 : run (.known 4) (.row [6]) (.pt 1) = true := by kernel_rfl
set_option maxRecDepth 100000 in
theorem r4_33_6 : run (.known 4) (.row [6]) (.pt 2) = true := by kernel_rfl
set_option maxRecDepth 100000 in
theorem r4_33_7 : run (.known 4) (.row [6]) (.pt 3) = true := by kernel_rfl
set_option maxRecDepth 100000 in
theorem r4_33_8 : run (.known 4) (.row [6]) (.pt 4) = true := by kernel_rfl
set_option maxRecDepth 100000 in
theorem r4_33_9 : run (.known 4) (.row [6]) (.pt 5) = true := by kernel_rfl
theorem r4_33 : AllL (fun c => run (.known 4) (.row [6]) c = true) pclasses := ⟨r4_33_0, r4_33_1, r4_33_2, r4_33_3, r4_33_4, r4_33_5, r4_33_6, r4_33_7, r4_33_8, r4_33_9, trivial⟩
set_option maxRecDepth 100000 in
theorem r5_3_0 : run (.known 5) .long .nil = true := by kernel_rfl
set_option maxRecDepth 100000 in
theorem r5_3_1 : run (.known 5) .long .zero = true := by kernel_rfl
set_option maxRecDepth 100000 in
theorem r5_3_2 : run (.known 5) .long .no = true := by kernel_rfl
set_option maxRecDepth 100000 in
theorem r5_3_3 : run (.known 5) .long .long = true := by kernel_rfl
set_option maxRecDepth 100000 in
theorem r5_3_4 : run (.known 5) .long (.pt 0) = true := by kernel_rfl
set_option maxRecDepth 100000 in
theorem r5_3_5 : run (.known 5) .long (.pt 1) = true := by kernel_rfl
set_option maxRecDepth 100000 in
theorem r5_3_6 : run (.known 5) .long (.pt 2) = true := by kernel_rfl
set_option maxRecDepth 100000 in
theorem r5_3_7 : run (.known 5) .long (.pt 3) = true := by kernel_rfl
set_option maxRecDepth 100000 in
theorem r5_3_8 : run (.known 5) .long (.pt 4) = true := by kernel_rfl
set_option maxRecDepth 100000 in
theorem r5_3_9 : run (.known 5) .long (.pt 5) = true := by kernel_rfl
theorem r5_3 : AllL (fun c => run (.known 5) .long c = true) pclasses := ⟨r5_3_0, r5_3_1, r5_3_2, r5_3_3, r5_3_4, r5_3_5, r5_3_6, r5_3_7, r5_3_8, r5_3_9, trivial⟩
set_option maxRecDepth 100000 in
theorem r5_7_0 : run (.known 5) (.row [1, 1, 1]) .nil = true := by kernel_rfl
set_option maxRecDepth 100000 in
theorem r5_7_1 : run (.known 5) (.row [1, 1, 1]) .zero = true := by kernel_rfl
set_option maxRecDepth 100000 in
theorem r5_7_2 : run (.known 5) (.row [1, 1, 1]) .no = true := by kernel_rfl
set_option maxRecDepth 100000 in
theorem r5_7_3 : run (.known 5) (.row [1, 1, 1]) .long = true := by kernel_rfl
set_option maxRecDepth 100000 in
theorem r5_7_4 : run (.known 5) (.row [1, 1, 1]) (.pt 0) = true := by kernel_rfl
set_option maxRecDepth 100000 in
theorem r5_7_5 : run (.known 5) (.row [1, 1, 1]) (.pt 1) = true := by kernel_rfl
set_option maxRecDepth 100000 in
theorem r5_7_6 : run (.known 5) (.row [1, 1, 1]) (.pt 2) = true := by kernel_rfl
set_option maxRecDepth 100000 in
theorem r5_7_7 : run (.known 5) (.row [1, 1, 1]) (.pt 3) = true := by kernel_rfl
set_option maxRecDepth 100000 in
theorem r5_7_8 : run (.known 5) (.row [1, 1, 1]) (.pt 4) = true := by kernel_rfl
set_option maxRecDepth 100000 in
theorem r5_7_9 : run (.known 5) (.row [1, 1, 1]) (.pt 5) = true := by kernel_rfl
theorem r5_7 : AllL (fun c => run (.known 5) (.row [1, 1, 1]) c = true) pclasses := ⟨r5_7_0, r5_7_1, r5_7_2, r5_7_3, r5_7_4, r5_7_5, r5_7_6, r5_7_7, r5_7_8, r5_7_9, trivial⟩
set_option maxRecDepth 100000 in
theorem r5_11_0 : run (.known 5) (.row [2]) .nil = true := by kernel_rfl
set_option maxRecDepth 100000 in
theorem r5_11_1 : run (.known 5) (.row [2]) .zero = true := by kernel_rfl
set_option maxRecDepth 100000 in
theorem r5_11_2 : run (.known 5) (.row [2]) .no = true := by kernel_rfl
set_option maxRecDepth 100000 in
theorem r5_11_3 : run (.known 5) (.row [2]) .long = true := by kernel_rfl
set_option maxRecDepth 100000 in
theorem r5_11_4 : run (.known 5) (.row [2]) (.pt 0) = true := by kernel_rfl
set_option maxRecDepth 100000 in
theorem r5_11_5 : run (.known 5) (.row [2]) (.pt 1) = true := by kernel_rfl
set_option maxRecDepth 100000 in
theorem r5_11_6 : run (.known 5) (.row [2]) (.pt 2) = true := by kernel_rfl
set_option maxRecDepth 100000 in
theorem r5_11_7 : run (.known 5) (.row [2]) (.pt 3) = true := by kernel_rfl
set_option maxRecDepth 100000 in
theorem r5_11_8 : run (.known 5) (.row [2]) (.pt 4) = true := by kernel_rfl
set_option maxRecDepth 100000 in
theorem r5_11_9 : run (.known 5) (.row [2]) (.pt 5) = true := by kernel_rfl
theorem r5_11 : AllL (fun c => run (.known 5) (.row [2]) c = true) pclasses := ⟨r5_11_0, r5_11_1, r5_11_2, r5_11_3, r5_11_4, r5_11_5, r5_11_6, r5_11_7, r5_11_8, r5_11_9, trivial⟩
set_option maxRecDepth 100000 in
theorem r5_15_0 : run (.known 5) (.row [2, 1, 1, 1, 1]) .nil = true := by kernel_rfl
set_option maxRecDepth 100000 in
theorem r5_15_1 : run (.known 5) (.row [2, 1, 1, 1, 1]) .zero = true := by kernel_rfl
set_option maxRecDepth 100000 in
theorem r5_15_2 : run (.known 5) (.row [2, 1, 1, 1, 1]) .no = true := by kernel_rfl
set_option maxRecDepth 100000 in
theorem r5_15_3 : run (.known 5) (.row [2, 1, 1, 1, 1]) .long = true := by kernel_rfl
set_option maxRecDepth 100000 in
theorem r5_15_4 : run (.known 5) (.row [2, 1, 1, 1, 1]) (.pt 0) = true := by kernel_rfl
set_option maxRecDepth 100000 in
theorem r5_15_5 : run (.known 5) (.row [2, 1, 1, 1, 1]) (.pt 1) = true := by kernel_rfl
set_option maxRecDepth 100000 in
theorem r5_15_6 : run (.known 5) (.row [2, 1, 1, 1, 1]) (.pt 2) = true := by kernel_rfl
set_option maxRecDepth 100000 in
theorem r5_15_7 : run (.known 5) (.row [2, 1, 1, 1, 1]) (.pt 3) = true := by kernel_rfl
set_option maxRecDepth 100000 in
theorem r5_15_8 : run (.known 5) (.row [2, 1, 1, 1, 1]) (.pt 4) = true := by kernel_rfl
set_option maxRecDepth 100000 in
theorem r5_15_9 : run (.known 5) (.row [2, 1, 1, 1, 1]) (.pt 5) = true := by kernel_rfl
theorem r5_15 : AllL (fun c => run (.known 5) (.row [2, 1, 1, 1, 1]) c = true) pclasses := ⟨r5_15_0, r5_15_1, r5_15_2, r5_15_3, r5_15_4, r5_15_5, r5_15_6, r5_15_7, r5_15_8, r5_15_9, trivial⟩
set_option maxRecDepth 100000 in
theorem r5_19_0 : run (.known 5) (.row [2, 2, 2]) .nil = true := by kernel_rfl
set_option maxRecDepth 100000 in
theorem r5_19_1 : run (.known 5) (.row [2, 2, 2]) .zero = true := by kernel_rfl
set_option maxRecDepth 100000 in
theorem r5_19_2 : run (.known 5) (.row [2, 2, 2]) .no = true := by kernel_rfl
set_option maxRecDepth 100000 in
theorem r5_19_3 : run (.known 5) (.row [2, 2, 2]) .long = true := by kernel_rfl
set_option maxRecDepth 100000 in
theorem r5_19_4 : run (.known 5) (.row [2, 2, 2]) (.pt 0) = true := by kernel_rfl
set_option maxRecDepth 100000 in
theorem r5_19_5 : run (.known 5) (.row [2, 2, 2]) (.pt 1) = true := by kernel_rfl
set_option maxRecDepth 100000 in
theorem r5_19_6 : run (.known 5) (.row [2, 2, 2]) (.pt 2) = true := by kernel_rfl
set_option maxRecDepth 100000 in
theorem r5_19_7 : run (.known 5) (.row [2, 2, 2]) (.pt 3) = true := by kernel_rfl
set_option maxRecDepth 100000 in
theorem r5_19_8 : run (.known 5) (.row [2, 2, 2]) (.pt 4) = true := by kernel_rfl
set_option maxRecDepth 100000 in
theorem r5_19_9 : run (.known 5) (.row [2, 2, 2]) (.pt 5) = true := by kernel_rfl
theorem r5_19 : AllL (fun c => run (.known 5) (.row [2, 2, 2]) c = true) pclasses := ⟨r5_19_0, r5_19_1, r5_19_2, r5_19_3, r5_19_4, r5_19_5, r5_19_6, r5_19_7, r5_19_8, r5_19_9, trivial⟩
set_option maxRecDepth 100000 in
theorem r5_23_0 : run (.known 5) (.row [3, 1, 1, 1]) .nil = true := by kernel_rfl
set_option maxRecDepth 100000 in
theorem r5_23_1 : run (.known 5) (.row [3, 1, 1, 1]) .zero = true := by kernel_rfl
set_option maxRecDepth 100000 in
theorem r5_23_2 : run (.known 5) (.row [3, 1, 1, 1]) .no = true := by kernel_rfl
set_option maxRecDepth 100000 in
theorem r5_23_3 : run (.known 5) (.row [3, 1, 1, 1]) .long = true := by kernel_rfl
set_option maxRecDepth 100000 in
theorem r5_23_4 : run (.known 5) (.row [3, 1, 1, 1]) (.pt 0) = true := by kernel_rfl
set_option maxRecDepth 100000 in
theorem r5_23_5 : run (.known 5) (.row [3, 1, 1, 1]) (.pt 1) = true := by kernel_rfl
set_option maxRecDepth 100000 in
theorem r5_23_6 : run (.known 5) (.row [3, 1, 1, 1]) (.pt 2) = true := by kernel_rfl
set_option maxRecDepth 100000 in
theorem r5_23_7 : run (.known 5) (.row [3, 1, 1, 1]) (.pt 3) = true := by kernel_rfl
set_option maxRecDepth 100000 in
theorem r5_23_8 : run (.known 5) (.row [3, 1, 1, 1]) (.pt 4) = true := by kernel_rfl
set_option maxRecDepth 100000 in
theorem r5_23_9 : run (.known 5) (.row [3, 1, 1, 1]) (.pt 5) = true := by kernel_rfl
theorem r5_23 : AllL (fun c => run (.known 5) (.row [3, 1, 1, 1]) c = true) pclasses := ⟨r5_23_0, r5_23_1, r5_23_2, r5_23_3, r5_23_4, r5_23_5, r5_23_6, r5_23_7, r5_23_8, r5_23_9, trivial⟩
set_option maxRecDepth 100000 in
theorem r5_27_0 : run (.known 5) (.row [4]) .nil = true := by kernel_rfl
set_option maxRecDepth 100000 in
theorem r5_27_1 : run (.known 5) (.row [4]) .zero = true := by kernel_rfl
set_option maxRecDepth 100000 in
theorem r5_27_2 : run (.known 5) (.row [4]) .no = true := by kernel_rfl
set_option maxRecDepth 100000 in
theorem r5_27_3 : run (.known 5) (.row [4]) .long = true := by kernel_rfl
set_option maxRecDepth 100000 in
theorem r5_27_4 : run (.known 5) (.row [4]) (.pt 0) = true := by kernel_rfl
set_option maxRecDepth 100000 in
theorem r5_27_5 : run (.known 5) (.row [4]) (.pt 1) = true := by kernel_rfl
set_option maxRecDepth 100000 in
theorem r5_27_6 : run (.known 5) (.row [4]) (.pt 2) = true := by kernel_rfl
set_option maxRecDepth 100000 in
theorem r5_27_7 : run (.known 5) (.row [4]) (.pt 3) = true := by kernel_rfl
set_option maxRecDepth 100000 in
theorem r5_27_8 : run (.known 5) (.row [4]) (.pt 4) = true := by kernel_rfl
set_option maxRecDepth 100000 in
theorem r5_27_9 : run (.known 5) (.row [4]) (.pt 5) = true := by kernel_rfl
theorem r5_27 : AllL (fun c => run (.known 5) (.row [4]) c = true) pclasses := ⟨r5_27_0, r5_27_1, r5_27_2, r5_27_3, r5_27_4, r5_27_5, r5_27_6, r5_27_7, r5_27_8, r5_27_9, trivial⟩
set_option maxRecDepth 100000 in
theorem r5_31_0 : run (.known 5) (.row [5]) .nil = true := by kernel_rfl
set_option maxRecDepth 100000 in
theorem r5_31_1 : run (.known 5) (.row [5]) .zero = true := by kernel_rfl
set_option maxRecDepth 100000 in
theorem r5_31_2 : run (.known 5) (.row [5]) .no = true := by kernel_rfl
set_option maxRecDepth 100000 in
theorem r5_31_3 : run (.known 5) (.row [5]) .long = true := by kernel_rfl
set_option maxRecDepth 100000 in
theorem r5_31_4 : run (.known 5) (.row [5]) (.pt 0) = true := by kernel_rfl
set_option maxRecDepth 100000 in
theorem r5_31_5 : run (.known 5) (.row [5]) (.pt 1) = true := by kernel_rfl
set_option maxRecDepth 100000 in
theorem r5_31_6 : run (.known 5) (.row [5]) (.pt 2) = true := by kernel_rfl
set_option maxRecDepth 100000 in
theorem r5_31_7 : run (.known 5) (.row [5]) (.pt 3) = true := by kernel_rfl
set_option maxRecDepth 100000 in
theorem r5_31_8 : run (.known 5) (.row [5]) (.pt 4) = true := by kernel_rfl
set_option maxRecDepth 100000 in
theorem r5_31_9 : run (.known 5) (.row [5]) (.pt 5) = true := by kernel_rfl
theorem r5_31 : AllL (fun c => run (.known 5) (.row [5]) c = true) pclasses := ⟨r5_31_0, r5_31_1, r5_31_2, r5_31_3, r5_31_4, r5_31_5, r5_31_6, r5_31_7, r5_31_8, r5_31_9, trivial⟩
set_option maxRecDepth 100000 in
theorem r6_1_0 : run .other .zero .nil = true := by kernel_rfl
set_option maxRecDepth 100000 in
theorem r6_1_1 : run .other .zero .zero = true := by kernel_rfl
set_option maxRecDepth 100000 in
theorem r6_1_2 : run .other .zero .no = true := by kernel_rfl
set_option maxRecDepth 100000 in
theorem r6_1_3 : run .other .zero .long = true := by kernel_rfl
set_option maxRecDepth 100000 in
theorem r6_1_4 : run .other .zero (.pt 0) = true := by kernel_rfl
set_option maxRecDepth 100000 in
theorem r6_1_5 : run .other .zero (.pt 1) = true := by kernel_rfl
set_option maxRecDepth 100000 in
theorem r6_1_6 : run .other .zero (.pt 2) = true := by kernel_rfl
set_option maxRecDepth 100000 in
theorem r6_1_7 : run .other .zero (.pt 3) = true := by kernel_rfl
set_option maxRecDepth 100000 in
theorem r6_1_8 : run .other .zero (.pt 4) = true := by kernel_rfl
set_option maxRecDepth 100000 in
theorem r6_1_9 : run .other .zero (.pt 5) = true := by kernel_rfl
theorem r6_1 : AllL (fun c => run .other .zero c = true) pclasses := ⟨r6_1_0, r6_1_1, r6_1_2, r6_1_3, r6_1_4, r6_1_5, r6_1_6, r6_1_7, r6_1_8, r6_1_9, trivial⟩
set_option maxRecDepth 100000 in
theorem r6_5_0 : run .other (.row [1]) .nil = true := by kernel_rfl
set_option maxRecDepth 100000 in
theorem r6_5_1 : run .other (.row [1]) .zero = true := by kernel_rfl
set_option maxRecDepth 100000 in
theorem r6_5_2 : run .other (.row [1]) .no = true := by kernel_rfl
set_option maxRecDepth 100000 in
theorem r6_5_3 : run .other (.row [1]) .long = true := by kernel_rfl
set_option maxRecDepth 100000 in
theorem r6_5_4 : run .other (.row [1]) (.pt 0) = true := by kernel_rfl
set_option maxRecDepth 100000 in
theorem r6_5_5 : run .other (.row [1]) (.pt 1) = true := by kernel_rfl
set_option maxRecDepth 100000 in
theorem r6_5_6 : run .other (.row [1]) (.pt 2) = true := by kernel_rfl
set_option maxRecDepth 100000 in
theorem r6_5_7 : run .other (.row [1]) (.pt 3) = true := by kernel_rfl
set_option maxRecDepth 100000 in
theorem r6_5_8 : run .other (.row [1]) (.pt 4) = true := by kernel_rfl
set_option maxRecDepth 100000 in
theorem r6_5_9 : run .other (.row [1]) (.pt 5) = true := by kernel_rfl
theorem r6_5 : AllL (fun c => run .other (.row [1]) c = true) pclasses := ⟨r6_5_0, r6_5_1, r6_5_2, r6_5_3, r6_5_4, r6_5_5, r6_5_6, r6_5_7, r6_5_8, r6_5_9, trivial⟩
set_option maxRecDepth 100000 in
theorem r6_9_0 : run .other (.row [1, 1, 1, 1, 1]) .nil = true := by kernel_rfl
set_option maxRecDepth 100000 in
theorem r6_9_1 : run .other (.row [1, 1, 1, 1, 1]) .zero = true := by kernel_rfl
set_option maxRecDepth 100000 in
theorem r6_9_2 : run .other (.row [1, 1, 1, 1, 1]) .no = true := by kernel_rfl
set_option maxRecDepth 100000 in
theorem r6_9_3 : run .other (.row [1, 1, 1, 1, 1]) .long = true := by kernel_rfl
set_option maxRecDepth 100000 in
theorem r6_9_4 : run .other (.row [1, 1, 1, 1, 1]) (.pt 0) = true := by kernel_rfl
set_option maxRecDepth 100000 in
theorem r6_9_5 : run .other (.row [1, 1, 1, 1, 1]) (.pt 1) = true := by kernel_rfl
set_option maxRecDepth 100000 in
theorem r6_9_6 : run .other (.row [1, 1, 1, 1, 1]) (.pt 2) = true := by kernel_rfl
set_option maxRecDepth 100000 in
theorem r6_9_7 : run .other (.row [1, 1, 1, 1, 1]) (.pt 3) = true := by kernel_rfl
set_option maxRecDepth 100000 in
theorem r6_9_8 : run .other (.row [1, 1, 1, 1, 1]) (.pt 4) = true := by kernel_rfl
set_option maxRecDepth 100000 in
theorem r6_9_9 : run .other (.row [1, 1, 1, 1, 1]) (.pt 5) = true := by kernel_rfl
theorem r6_9 : AllL (fun c => run .other (.row [1, 1, 1, 1, 1]) c = true) pclasses := ⟨r6_9_0, r6_9_1, r6_9_2, r6_9_3, r6_9_4, r6_9_5, r6_9_6, r6_9_7, r6_9_8, r6_9_9, trivial⟩
set_option maxRecDepth 100000 in
theorem r6_13_0 : run .other (.row [2, 1, 1]) .nil = true := by kernel_rfl
set_option maxRecDepth 100000 in
theorem r6_13_1 : run .other (.row [2, 1, 1]) .zero = true := by kernel_rfl
set_option maxRecDepth 100000 in
theorem r6_13_2 : run .other (.row [2, 1, 1]) .no = true := by kernel_rfl
set_option maxRecDepth 100000 in
theorem r6_13_3 : run .other (.row [2, 1, 1]) .long = true := by kernel_rfl
set_option maxRecDepth 100000 in
theorem r6_13_4 : run .other (.row [2, 1, 1]) (.pt 0) = true := by kernel_rfl
set_option maxRecDepth 100000 in
theorem r6_13_5 : run .other (.row [2, 1, 1]) (.pt 1) = true := by kernel_rfl
set_option maxRecDepth 100000 in
theorem r6_13_6 : run .other (.row [2, 1, 1]) (.pt 2) = true := by kernel_rfl
set_option maxRecDepth 100000 in
theorem r6_13_7 : run .other (.row [2, 1, 1]) (.pt 3) = true := by kernel_rfl
set_option maxRecDepth 100000 in
theorem r6_13_8 : run .other (.row [2, 1, 1]) (.pt 4) = true := by kernel_rfl
set_option maxRecDepth 100000 in
theorem r6_13_9 : run .other (.row [2, 1, 1]) (.pt 5) = true := by kernel_rfl
theorem r6_13 : AllL (fun c => run .other (.row [2, 1, 1]) c = true) pclasses := ⟨r6_13_0, r6_13_1, r6_13_2, r6_13_3, r6_13_4, r6_13_5, r6_13_6, r6_13_7, r6_13_8, r6_13_9, trivial⟩
set_option maxRecDepth 100000 in
theorem r6_17_0 : run .other (.row [2, 2, 1]) .nil = true := by kernel_rfl
set_option maxRecDepth 100000 in
theorem r6_17_1 : run .other (.row [2, 2, 1]) .zero = true := by kernel_rfl
set_option maxRecDepth 100000 in
theorem r6_17_2 : run .other (.row [2, 2, 1]) .no = true := by kernel_rfl
set_option maxRecDepth 100000 in
theorem r6_17_3 : run .other (.row [2, 2, 1]) .long = true := by kernel_rfl
set_option maxRecDepth 100000 in
theorem r6_17_4 : run .other (.row [2, 2, 1]) (.pt 0) = true := by kernel_rfl
set_option maxRecDepth 100000 in
theorem r6_17_5 : run .other (.row [2, 2, 1]) (.pt 1) = true := by kernel_rfl
set_option maxRecDepth 100000 in
theorem r6_17_6 : run .other (.row [2, 2, 1]) (.pt 2) = true := by kernel_rfl
set_option maxRecDepth 100000 in
theorem r6_17_7 : run .other (.row [2, 2, 1]) (.pt 3) = true := by kernel_rfl
set_option maxRecDepth 100000 in
theorem r6_17_8 : run .other (.row [2, 2, 1]) (.pt 4) = true := by kernel_rfl
set_option maxRecDepth 100000 in
theorem r6_17_9 : run .other (.row [2, 2, 1]) (.pt 5) = true := by kernel_rfl
theorem r6_17 : AllL (fun c => run .other (.row [2, 2, 1]) c = true) pclasses := ⟨r6_17_0, r6_17_1, r6_17_2, r6_17_3, r6_17_4, r6_17_5, r6_17_6, r6_17_7, r6_17_8, r6_17_9, trivial⟩
set_option maxRecDepth 100000 in
theorem r6_21_0 : run .other (.row [3, 1]) .nil = true := by kernel_rfl
set_option maxRecDepth 100000 in
theorem r6_21_1 : run .other (.row [3, 1]) .zero = true := by kernel_rfl
set_option maxRecDepth 100000 in
theorem r6_21_2 : run .other (.row [3, 1]) .no = true := by kernel_rfl
set_option maxRecDepth 100000 in
theorem r6_21_3 : run .other (.row [3, 1]) .long = true := by kernel_rfl
set_option maxRecDepth 100000 in
theorem r6_21_4 : run .other (.row [3, 1]) (.pt 0) = true := by kernel_rfl
set_option maxRecDepth 100000 in
theorem r6_21_5 : run .other (.row [3, 1]) (.pt 1) = true := by kernel_rfl
set_option maxRecDepth 100000 in
theorem r6_21_6 : run .other (.row [3, 1]) (.pt 2) = true := by kernel_rfl
set_option maxRecDepth 100000 in
theorem r6_21_7 : run .other (.row [3, 1]) (.pt 3) = true := by kernel_rfl
set_option maxRecDepth 100000 in
theorem r6_21_8 : run .other (.row [3, 1]) (.pt 4) = true := by kernel_rfl
set_option maxRecDepth 100000 in
theorem r6_21_9 : run .other (.row [3, 1]) (.pt 5) = true := by kernel_rfl
theorem r6_21 : AllL (fun c => run .other (.row [3, 1]) c = true) pclasses := ⟨r6_21_0, r6_21_1, r6_21_2, r6_21_3, r6_21_4, r6_21_5, r6_21_6, r6_21_7, r6_21_8, r6_21_9, trivial⟩
set_option maxRecDepth 100000 in
theorem r6_25_0 : run .other (.row [3, 2, 1]) .nil = true := by kernel_rfl
set_option maxRecDepth 100000 in
theorem r6_25_1 : run .other (.row [3, 2, 1]) .zero = true := by kernel_rfl
set_option maxRecDepth 100000 in
theorem r6_25_2 : run .other (.row [3, 2, 1]) .no = true := by kernel_rfl
set_option maxRecDepth 100000 in
theorem r6_25_3 : run .other (.row [3, 2, 1]) .long = true := by kernel_rfl
set_option maxRecDepth 100000 in
theorem r6_25_4 : run .other (.row [3, 2, 1]) (.pt 0) = true := by kernel_rfl
set_option maxRecDepth 100000 in
theorem r6_25_5 : run .other (.row [3, 2, 1]) (.pt 1) = true := by kernel_rfl
set_option maxRecDepth 100000 in
theorem r6_25_6 : run .other (.row [3, 2, 1]) (.pt 2) = true := by kernel_rfl
set_option maxRecDepth 100000 in
theorem r6_25_7 : run .other (.row [3, 2, 1]) (.pt 3) = true := by kernel_rfl
set_option maxRecDepth 100000 in
theorem r6_25_8 : run .other (.row [3, 2, 1]) (.pt 4) = true := by kernel_rfl
set_option maxRecDepth 100000 in
theorem r6_25_9 : run .other (.row [3, 2, 1]) (.pt 5) = true := by kernel_rfl
theorem r6_25 : AllL (fun c => run .other (.row [3, 2, 1]) c = true) pclasses := ⟨r6_25_0, r6_25_1, r6_25_2, r6_25_3, r6_25_4, r6_25_5, r6_25_6, r6_25_7, r6_25_8, r6_25_9, trivial⟩
set_option maxRecDepth 100000 in
theorem r6_29_0 : run .other (.row [4, 1, 1]) .nil = true := by kernel_rfl
set_option maxRecDepth 100000 in
theorem r6_29_1 : run .other (.row [4, 1, 1]) .zero = true := by kernel_rfl
set_option maxRecDepth 100000 in
theorem r6_29_2 : run .other (.row [4, 1, 1]) .no = true := by kernel_rfl
set_option maxRecDepth 100000 in
theorem r6_29_3 : run .other (.row [4, 1, 1]) .long = true := by kernel_rfl
set_option maxRecDepth 100000 in
theorem r6_29_4 : run .other (.row [4, 1, 1]) (.pt 0) = true := by kernel_rfl
set_option maxRecDepth 100000 in
theorem r6_29_5 : run .other (.row [4, 1, 1]) (.pt 1) = true := by kernel_rfl
set_option maxRecDepth 100000 in
theorem r6_29_6 : run .other (.row [4, 1, 1]) (.pt 2) = true := by kernel_rfl
set_option maxRecDepth 100000 in
theorem r6_29_7 : run .other (.row [4, 1, 1]) (.pt 3) = true := by kernel_rfl
set_option maxRecDepth 100000 in
theorem r6_29_8 : run .other (.row [4, 1, 1]) (.pt 4) = true := by kernel_rfl
set_option maxRecDepth 100000 in
theorem r6_29_9 : run .other (.row [4, 1, 1]) (.pt 5) = true := by kernel_rfl
theorem r6_29 : AllL (fun c => run .other (.row [4, 1, 1]) c = true) pclasses := ⟨r6_29_0, r6_29_1, r6_29_2, r6_29_3, r6_29_4, r6_29_5, r6_29_6, r6_29_7, r6_29_8, r6_29_9, trivial⟩
set_option maxRecDepth 100000 in
theorem r6_33_0 : run .other (.row [6]) .nil = true := by kernel_rfl
set_option maxRecDepth 100000 in
theorem r6_33_1 : run .other (.row [6]) .zero = true := by kernel_rfl
set_option maxRecDepth 100000 in
theorem r6_33_2 : run .other (.row [6]) .no = true := by kernel_rfl
set_option maxRecDepth 100000 in
theorem r6_33_3 : run .other (.row [6]) .long = true := by kernel_rfl
set_option maxRecDepth 100000 in
theorem r6_33_4 : run .other (.row [6]) (.pt 0) = true := by kernel_rfl
set_option maxRecDepth 100000 in
theorem r6_33_5 : run .other (.row [6]) (.pt 1) = true := by kernel_rfl
set_option maxRecDepth 100000 in
theorem r6_33_6 : run .other (.row [6]) (.pt 2) = true := by kernel_rfl
set_option maxRecDepth 100000 in
theorem r6_33_7 : run .other (.row [6]) (.pt 3) = true := by kernel_rfl
set_option maxRecDepth 100000 in
theorem r6_33_8 : run .other (.row [6]) (.pt 4) = true := by kernel_rfl
set_option maxRecDepth 100000 in
theorem r6_33_9 : run .other (.row [6]) (.pt 5) = true := by kernel_rfl
theorem r6_33 : AllL (fun c => run .other (.row [6]) c = true) pclasses := ⟨r6_33_0, r6_33_1, r6_33_2, r6_33_3, r6_33_4, r6_33_5, r6_33_6, r6_33_7, r6_33_8, r6_33_9, trivial⟩
set_option maxRecDepth 100000 in
theorem r7_3_0 : run .long .long .nil = true := by kernel_rfl
set_option maxRecDepth 100000 in
theorem r7_3_1 : run .long .long .zero = true := by kernel_rfl
set_option maxRecDepth 100000 in
theorem r7_3_2 : run .long .long .no = true := by kernel_rfl
set_option maxRecDepth 100000 in
theorem r7_3_3 : run .long .long .long = true := by kernel_rfl
set_option maxRecDepth 100000 in
theorem r7_3_4 : run .long .long (.pt 0) = true := by kernel_rfl
set_option maxRecDepth 100000 in
theorem r7_3_5 : run .long .long (.pt 1) = true := by kernel_rfl
set_option maxRecDepth 100000 in
theorem r7_3_6 : run .long .long (.pt 2) = true := by kernel_rfl
set_option maxRecDepth 100000 in
theorem r7_3_7 : run .long .long (.pt 3) = true := by kernel_rfl
set_option maxRecDepth 100000 in
theorem r7_3_8 : run .long .long (.pt 4) = true := by kernel_rfl
set_option maxRecDepth 100000 in
theorem r7_3_9 : run .long .long (.pt 5) = true := by kernel_rfl
theorem r7_3 : AllL (fun c => run .long .long c = true) pclasses := ⟨r7_3_0, r7_3_1, r7_3_2, r7_3_3, r7_3_4, r7_3_5, r7_3_6, r7_3_7, r7_3_8, r7_3_9, trivial⟩
set_option maxRecDepth 100000 in
theorem r7_7_0 : run .long (.row [1, 1, 1]) .nil = true := by kernel_rfl
set_option maxRecDepth 100000 in
theorem r7_7_1 : run .long (.row [1, 1, 1]) .zero = true := by kernel_rfl
set_option maxRecDepth 100000 in
theorem r7_7_2 : run .long (.row [1, 1, 1]) .no = true := by kernel_rfl
set_option maxRecDepth 100000 in
theorem r7_7_3 : run .long (.row [1, 1, 1]) .long = true := by kernel_rfl
set_option maxRecDepth 100000 in
theorem r7_7_4 : run .long (.row [1, 1, 1]) (.pt 0) = true := by kernel_rfl
set_option maxRecDepth 100000 in
theorem r7_7_5 : run .long (.row [1, 1, 1]) (.pt 1) = true := by kernel_rfl
set_option maxRecDepth 100000 in
theorem r7_7_6 : run .long (.row [1, 1, 1]) (.pt 2) = true := by kernel_rfl
set_option maxRecDepth 100000 in
theorem r7_7_7 : run .long (.row [1, 1, 1]) (.pt 3) = true := by kernel_rfl
set_option maxRecDepth 100000 in
theorem r7_7_8 : run .long (.row [1, 1, 1]) (.pt 4) = true := by kernel_rfl
set_option maxRecDepth 100000 in
theorem r7_7_9 : run .long (.row [1, 1, 1]) (.pt 5) = true := by kernel_rfl
theorem r7_7 : AllL (fun c => run .long (.row [1, 1, 1]) c = true) pclasses := ⟨r7_7_0, r7_7_1, r7_7_2, r7_7_3, r7_7_4, r7_7_5, r7_7_6, r7_7_7, r7_7_8, r7_7_9, trivial⟩
set_option maxRecDepth 100000 in
theorem r7_11_0 : run .long (.row [2]) .nil = true := by kernel_rfl
set_option maxRecDepth 100000 in
theorem r7_11_1 : run .long (.row [2]) .zero = true := by kernel_rfl
set_option maxRecDepth 100000 in
theorem r7_11_2 : run .long (.row [2]) .no = true := by kernel_rfl
set_option maxRecDepth 100000 in
theorem r7_11_3 : run .long (.row [2]) .long = true := by kernel_rfl
set_option maxRecDepth 100000 in
theorem r7_11_4 : run .long (.row [2]) (.pt 0) = true := by kernel_rfl
set_option maxRecDepth 100000 in
theorem r7_11_5 : run .long (.row [2]) (.pt 1) = true := by kernel_rfl
set_option maxRecDepth 100000 in
theorem r7_11_6 : run .long (.row [2]) (.pt 2) = true := by kernel_rfl
set_option maxRecDepth 100000 in
theorem r7_11_7 : run .long (.row [2]) (.pt 3) = true := by kernel_rfl
set_option maxRecDepth 100000 in
theorem r7_11_8 : run .long (.row [2]) (.pt 4) = true := by kernel_rfl
set_option maxRecDepth 100000 in
theorem r7_11_9 : run .long (.row [2]) (.pt 5) = true := by kernel_rfl
theorem r7_11 : AllL (fun c => run .long (.row [2]) c = true) pclasses := ⟨r7_11_0, r7_11_1, r7_11_2, r7_11_3, r7_11_4, r7_11_5, r7_11_6, r7_11_7, r7_11_8, r7_11_9, trivial⟩
set_option maxRecDepth 100000 in
theorem r7_15_0 : run .long (.row [2, 1, 1, 1, 1]) .nil = true := by kernel_rfl
set_option maxRecDepth 100000 in
theorem r7_15_1 : run .long (.row [2, 1, 1, 1, 1]) .zero = true := by kernel_rfl
set_option maxRecDepth 100000 in
theorem r7_15_2 : run .long (.row [2, 1, 1, 1, 1]) .no = true := by kernel_rfl
set_option maxRecDepth 100000 in
theorem r7_15_3 : run .long (.row [2, 1, 1, 1, 1]) .long = true := by kernel_rfl
set_option maxRecDepth 100000 in
theorem r7_15_4 : run .long (.row [2, 1, 1, 1, 1]) (.pt 0) = true := by kernel_rfl
set_option maxRecDepth 100000 in
theorem r7_15_5 : run .long (.row [2, 1, 1, 1, 1]) (.pt 1) = true := by kernel_rfl
set_option maxRecDepth 100000 in
theorem r7_15_6 : run .long (.row [2, 1, 1, 1, 1]) (.pt 2) = true := by kernel_rfl
set_option maxRecDepth 100000 in
theorem r7_15_7 : run .long (.row [2, 1, 1, 1, 1]) (.pt 3) = true := by kernel_rfl
set_option maxRecDepth 100000 in
theorem r7_15_8 : run .long (.row [2, 1, 1, 1, 1]) (.pt 4) = true := by kernel_rfl
set_option maxRecDepth 100000 in
theorem r7_15_9 : run .long (.row [2, 1, 1, 1, 1]) (.pt 5) = true := by kernel_rfl
theorem r7_15 : AllL (fun c => run .long (.row [2, 1, 1, 1, 1]) c = true) pclasses := ⟨r7_15_0, r7_15_1, r7_15_2, r7_15_3, r7_15_4, r7_15_5, r7_15_6, r7_15_7, r7_15_8, r7_15_9, trivial⟩
set_option maxRecDepth 100000 in
theorem r7_19_0 : run .long (.row [2, 2, 2]) .nil = true := by kernel_rfl
set_option maxRecDepth 100000 in
theorem r7_19_1 : run .long (.row [2, 2, 2]) .zero = true := by kernel_rfl
set_option maxRecDepth 100000 in
theorem r7_19_2 : run .long (.row [2, 2, 2]) .no = true := by kernel_rfl
set_option maxRecDepth 100000 in
theorem r7_19_3 : run .long (.row [2, 2, 2]) .long = true := by kernel_rfl
set_option maxRecDepth 100000 in
theorem r7_19_4 : run .long (.row [2, 2, 2]) (.pt 0) = true := by kernel_rfl
set_option maxRecDepth 100000 in
theorem r7_19_5 : run .long (.row [2, 2, 2]) (.pt 1) = true := by kernel_rfl
set_option maxRecDepth 100000 in
theorem r7_19_6 : run .long (.row [2, 2, 2]) (.pt 2) = true := by kernel_rfl
set_option maxRecDepth 100000 in
theorem r7_19_7 : run .long (.row [2, 2, 2]) (.pt 3) = true := by kernel_rfl
set_option maxRecDepth 100000 in
theorem r7_19_8 : run .long (.row [2, 2, 2]) (.pt 4) = true := by kernel_rfl
set_option maxRecDepth 100000 in
theorem r7_19_9 : run .long (.row [2, 2, 2]) (.pt 5) = true := by kernel_rfl
theorem r7_19 : AllL (fun c => run .long (.row [2, 2, 2]) c = true) pclasses := ⟨r7_19_0, r7_19_1, r7_19_2, r7_19_3, r7_19_4, r7_19_5, r7_19_6, r7_19_7, r7_19_8, r7_19_9, trivial⟩
set_option maxRecDepth 100000 in
theorem r7_23_0 : run .long (.row [3, 1, 1, 1]) .nil = true := by kernel_rfl
set_option maxRecDepth 100000 in
theorem r7_23_1 : run .long (.row [3, 1, 1, 1]) .zero = true := by kernel_rfl
set_option maxRecDepth 100000 in
theorem r7_23_2 : run .long (.row [3, 1, 1, 1]) .no = true := by kernel_rfl
set_option maxRecDepth 100000 in
theorem r7_23_3 : run .long (.row [3, 1, 1, 1]) .long = true := by kernel_rfl
set_option maxRecDepth 100000 in
theorem r7_23_4 : run .long (.row [3, 1, 1, 1]) (.pt 0) = true := by kernel_rfl
set_option maxRecDepth 100000 in
theorem r7_23_5 : run .long (.row [3, 1, 1, 1]) (.pt 1) = true := by kernel_rfl
set_option maxRecDepth 100000 in
theorem r7_23_6 : run .long (.row [3, 1, 1, 1]) (.pt 2) = true := by kernel_rfl
set_option maxRecDepth 100000 in
theorem r7_23_7 : run .long (.row [3, 1, 1, 1]) (.pt 3) = true := by kernel_rfl
set_option maxRecDepth 100000 in
theorem r7_23_8 : run .long (.row [3, 1, 1, 1]) (.pt 4) = true := by kernel_rfl
set_option maxRecDepth 100000 in
theorem r7_23_9 : run .long (.row [3, 1, 1, 1]) (.pt 5) = true := by kernel_rfl
theorem r7_23 : AllL (fun c => run .long (.row [3, 1, 1, 1]) c = true) pclasses := ⟨r7_23_0, r7_23_1, r7_23_2, r7_23_3, r7_23_4, r7_23_5, r7_23_6, r7_23_7, r7_23_8, r7_23_9, trivial⟩
set_option maxRecDepth 100000 in
theorem r7_27_0 : run .long (.row [4]) .nil = true := by kernel_rfl
set_option maxRecDepth 100000 in
theorem r7_27_1 : run .long (.row [4]) .zero = true := by kernel_rfl
set_option maxRecDepth 100000 in
theorem r7_27_2 : run .long (.row [4]) .no = true := by kernel_rfl
set_option maxRecDepth 100000 in
theorem r7_27_3 : run .long (.row [4]) .long = true := by kernel_rfl
set_option maxRecDepth 100000 in
theorem r7_27_4 : run .long (.row [4]) (.pt 0) = true := by kernel_rfl
set_option maxRecDepth 100000 in
theorem r7_27_5 : run .long (.row [4]) (.pt 1) = true := by kernel_rfl
set_option maxRecDepth 100000 in
theorem r7_27_6 : run .long (.row [4]) (.pt 2) = true := by kernel_rfl
set_option maxRecDepth 100000 in
theorem r7_27_7 : run .long (.row [4]) (.pt 3) = true := by kernel_rfl
set_option maxRecDepth 100000 in
theorem r7_27_8 : run .long (.row [4]) (.pt 4) = true := by kernel_rfl
set_option maxRecDepth 100000 in
theorem r7_27_9 : run .long (.row [4]) (.pt 5) = true := by kernel_rfl
theorem r7_27 : AllL (fun c => run .long (.row [4]) c = true) pclasses := ⟨r7_27_0, r7_27_1, r7_27_2, r7_27_3, r7_27_4, r7_27_5, r7_27_6, r7_27_7, r7_27_8, r7_27_9, trivial⟩
set_option maxRecDepth 100000 in
theorem r7_31_0 : run .long (.row [5]) .nil = true := by kernel_rfl
set_option maxRecDepth 100000 in
theorem r7_31_1 : run .long (.row [5]) .zero = true := by kernel_rfl
set_option maxRecDepth 100000 in
theorem r7_31_2 : run .long (.row [5]) .no = true := by kernel_rfl
set_option maxRecDepth 100000 in
theorem r7_31_3 : run .long (.row [5]) .long = true := by kernel_rfl
set_option maxRecDepth 100000 in
theorem r7_31_4 : run .long (.row [5]) (.pt 0) = true := by kernel_rfl
set_option maxRecDepth 100000 in
theorem r7_31_5 : run .long (.row [5]) (.pt 1) = true := by kernel_rfl
set_option maxRecDepth 100000 in
theorem r7_31_6 : run .long (.row [5]) (.pt 2) = true := by kernel_rfl
set_option maxRecDepth 100000 in
theorem r7_31_7 : run .long (.row [5]) (.pt 3) = true := by kernel_rfl
set_option maxRecDepth 100000 in
theorem r7_31_8 : run .long (.row [5]) (.pt 4) = true := by kernel_rfl
set_option maxRecDepth 100000 in
theorem r7_31_9 : run .long (.row [5]) (.pt 5) = true := by kernel_rfl
theorem r7_31 : AllL (fun c => run .long (.row [5]) c = true) pclasses := ⟨r7_31_0, r7_31_1, r7_31_2, r7_31_3, r7_31_4, r7_31_5, r7_31_6, r7_31_7, r7_31_8, r7_31_9, trivial⟩
end Go.Proofs.Ythcdiaahpodkoae.fnExactAtShareRuns
