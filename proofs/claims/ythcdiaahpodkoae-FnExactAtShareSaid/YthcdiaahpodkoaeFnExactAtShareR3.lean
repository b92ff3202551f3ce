/- The runs of FnExactAtShare. -/
import Derived.Test.YthcdiaahpodkoaeFnExactAtShareP
namespace Go.Proofs.Ythcdiaahpodkoae.fnExactAtShareRuns
open Go.Eng
set_option linter.unusedVariables false
set_option linter.unusedSectionVars false
set_option linter.unusedSimpArgs false
set_option maxRecDepth 100000 in
theorem r0_3_0 : run (.known 0) .long .nil = true := by kernel_rfl
set_option maxRecDepth 100000 in
theorem r0_3_1 : run (.known 0) .long .zero = true := by kernel_rfl
set_option maxRecDepth 100000 in
theorem r0_3_2 : run (.known 0) .long .no = true := by kernel_rfl
set_option maxRecDepth 100000 in
theorem r0_3_3 : run (.known 0) .long .long = true := by kernel_rfl
set_option maxRecDepth 100000 in
theorem r0_3_4 : run (.known 0) .long (.pt 0) = true := by kernel_rfl
set_option maxRecDepth 100000 in
theorem r0_3_5 : run (.known 0) .long (.pt 1) = true := by kernel_rfl
set_option maxRecDepth 100000 in
theorem r0_3_6 : run (.known 0) .long (.pt 2) = true := by kernel_rfl
set_option maxRecDepth 100000 in
theorem r0_3_7 : run (.known 0) .long (.pt 3) = true := by kernel_rfl
set_option maxRecDepth 100000 in
theorem r0_3_8 : run (.known 0) .long (.pt 4) = true := by kernel_rfl
set_option maxRecDepth 100000 in
theorem r0_3_9 : run (.known 0) .long (.pt 5) = true := by kernel_rfl
theorem r0_3 : AllL (fun c => run (.known 0) .long c = true) pclasses := ⟨r0_3_0, r0_3_1, r0_3_2, r0_3_3, r0_3_4, r0_3_5, r0_3_6, r0_3_7, r0_3_8, r0_3_9, trivial⟩
set_option maxRecDepth 100000 in
theorem r0_7_0 : run (.known 0) (.row [1, 1, 1]) .nil = true := by kernel_rfl
set_option maxRecDepth 100000 in
theorem r0_7_1 : run (.known 0) (.row [1, 1, 1]) .zero = true := by kernel_rfl
set_option maxRecDepth 100000 in
theorem r0_7_2 : run (.known 0) (.row [1, 1, 1]) .no = true := by kernel_rfl
set_option maxRecDepth 100000 in
theorem r0_7_3 : run (.known 0) (.row [1, 1, 1]) .long = true := by kernel_rfl
set_option maxRecDepth 100000 in
theorem r0_7_4 : run (.known 0) (.row [1, 1, 1]) (.pt 0) = true := by kernel_rfl
set_option maxRecDepth 100000 in
theorem r0_7_5 : run (.known 0) (.row [1, 1, 1]) (.pt 1) = true := by kernel_rfl
set_option maxRecDepth 100000 in
theorem r0_7_6 : run (.known 0) (.row [1, 1, 1]) (.pt 2) = true := by kernel_rfl
set_option maxRecDepth 100000 in
theorem r0_7_7 : run (.known 0) (.row [1, 1, 1]) (.pt 3) = true := by kernel_rfl
set_option maxRecDepth 100000 in
theorem r0_7_8 : run (.known 0) (.row [1, 1, 1]) (.pt 4) = true := by kernel_rfl
set_option maxRecDepth 100000 in
theorem r0_7_9 : run (.known 0) (.row [1, 1, 1]) (.pt 5) = true := by kernel_rfl
theorem r0_7 : AllL (fun c => run (.known 0) (.row [1, 1, 1]) c = true) pclasses := ⟨r0_7_0, r0_7_1, r0_7_2, r0_7_3, r0_7_4, r0_7_5, r0_7_6, r0_7_7, r0_7_8, r0_7_9, trivial⟩
set_option maxRecDepth 100000 in
theorem r0_11_0 : run (.known 0) (.row [2]) .nil = true := by kernel_rfl
set_option maxRecDepth 100000 in
theorem r0_11_1 : run (.known 0) (.row [2]) .zero = true := by kernel_rfl
set_option maxRecDepth 100000 in
theorem r0_11_2 : run (.known 0) (.row [2]) .no = true := by kernel_rfl
set_option maxRecDepth 100000 in
theorem r0_11_3 : run (.known 0) (.row [2]) .long = true := by kernel_rfl
set_option maxRecDepth 100000 in
theorem r0_11_4 : run (.known 0) (.row [2]) (.pt 0) = true := by kernel_rfl
set_option maxRecDepth 100000 in
theorem r0_11_5 : run (.known 0) (.row [2]) (.pt 1) = true := by kernel_rfl
set_option maxRecDepth 100000 in
theorem r0_11_6 : run (.known 0) (.row [2]) (.pt 2) = true := by kernel_rfl
set_option maxRecDepth 100000 in
theorem r0_11_7 : run (.known 0) (.row [2]) (.pt 3) = true := by kernel_rfl
set_option maxRecDepth 100000 in
theorem r0_11_8 : run (.known 0) (.row [2]) (.pt 4) = true := by kernel_rfl
set_option maxRecDepth 100000 in
theorem r0_11_9 : run (.known 0) (.row [2]) (.pt 5) = true := by kernel_rfl
theorem r0_11 : AllL (fun c => run (.known 0) (.row [2]) c = true) pclasses := ⟨r0_11_0, r0_11_1, r0_11_2, r0_11_3, r0_11_4, r0_11_5, r0_11_6, r0_11_7, r0_11_8, r0_11_9, trivial⟩
set_option maxRecDepth 100000 in
theorem r0_15_0 : run (.known 0) (.row [2, 1, 1, 1, 1]) .nil = true := by kernel_rfl
set_option maxRecDepth 100000 in
theorem r0_15_1 : run (.known 0) (.row [2, 1, 1, 1, 1]) .zero = true := by kernel_rfl
set_option maxRecDepth 100000 in
theorem r0_15_2 : run (.known 0) (.row [2, 1, 1, 1, 1]) .no = true := by kernel_rfl
set_option maxRecDepth 100000 in
theorem r0_15_3 : run (.known 0) (.row [2, 1, 1, 1, 1]) .long = true := by kernel_rfl
set_option maxRecDepth 100000 in
theorem r0_15_4 : run (.known 0) (.row [2, 1, 1, 1, 1]) (.pt 0) = true := by kernel_rfl
set_option maxRecDepth 100000 in
theorem r0_15_5 : run (.known 0) (.row [2, 1, 1, 1, 1]) (.pt 1) = true := by kernel_rfl
set_option maxRecDepth 100000 in
theorem r0_15_6 : run (.known 0) (.row [2, 1, 1, 1, 1]) (.pt 2) = true := by kernel_rfl
set_option maxRecDepth 100000 in
theorem r0_15_7 : run (.known 0) (.row [2, 1, 1, 1, 1]) (.pt 3) = true := by kernel_rfl
set_option maxRecDepth 100000 in
theorem r0_15_8 : run (.known 0) (.row [2, 1, 1, 1, 1]) (.pt 4) = true := by kernel_rfl
set_option maxRecDepth 100000 in
theorem r0_15_9 : run (.known 0) (.row [2, 1, 1, 1, 1]) (.pt 5) = true := by kernel_rfl
theorem r0_15 : AllL (fun c => run (.known 0) (.row [2, 1, 1, 1, 1]) c = true) pclasses := ⟨r0_15_0, r0_15_1, r0_15_2, r0_15_3, r0_15_4, r0_15_5, r0_15_6, r0_15_7, r0_15_8, r0_15_9, trivial⟩
set_option maxRecDepth 100000 in
theorem r0_19_0 : run (.known 0) (.row [2, 2, 2]) .nil = true := by kernel_rfl
set_option maxRecDepth 100000 in
theorem r0_19_1 : run (.known 0) (.row [2, 2, 2]) .zero = true := by kernel_rfl
set_option maxRecDepth 100000 in
theorem r0_19_2 : run (.known 0) (.row [2, 2, 2]) .no = true := by kernel_rfl
set_option maxRecDepth 100000 in
theorem r0_19_3 : run (.known 0) (.row [2, 2, 2]) .long = true := by kernel_rfl
set_option maxRecDepth 100000 in
theorem r0_19_4 : run (.known 0) (.row [2, 2, 2]) (.pt 0) = true := by kernel_rfl
set_option maxRecDepth 100000 in
theorem r0_19_5 : run (.known 0) (.row [2, 2, 2]) (.pt 1) = true := by kernel_rfl
set_option maxRecDepth 100000 in
theorem r0_19_6 : run (.known 0) (.row [2, 2, 2]) (.pt 2) = true := by kernel_rfl
set_option maxRecDepth 100000 in
theorem r0_19_7 : run (.known 0) (.row [2, 2, 2]) (.pt 3) = true := by kernel_rfl
set_option maxRecDepth 100000 in
theorem r0_19_8 : run (.known 0) (.row [2, 2, 2]) (.pt 4) = true := by kernel_rfl
set_option maxRecDepth 100000 in
theorem r0_19_9 : run (.known 0) (.row [2, 2, 2]) (.pt 5) = true := by kernel_rfl
theorem r0_19 : AllL (fun c => run (.known 0) (.row [2, 2, 2]) c = true) pclasses := ⟨r0_19_0, r0_19_1, r0_19_2, r0_19_3, r0_19_4, r0_19_5, r0_19_6, r0_19_7, r0_19_8, r0_19_9, trivial⟩
set_option maxRecDepth 100000 in
theorem r0_23_0 : run (.known 0) (.row [3, 1, 1, 1]) .nil = true := by kernel_rfl
set_option maxRecDepth 100000 in
theorem r0_23_1 : run (.known 0) (.row [3, 1, 1, 1]) .zero = true := by kernel_rfl
set_option maxRecDepth 100000 in
theorem r0_23_2 : run (.known 0) (.row [3, 1, 1, 1]) .no = true := by kernel_rfl
set_option maxRecDepth 100000 in
theorem r0_23_3 : run (.known 0) (.row [3, 1, 1, 1]) .long = true := by kernel_rfl
set_option maxRecDepth 100000 in
theorem r0_23_4 : run (.known 0) (.row [3, 1, 1, 1]) (.pt 0) = true := by kernel_rfl
set_option maxRecDepth 100000 in
theorem r0_23_5 : run (.known 0) (.row [3, 1, 1, 1]) (.pt 1) = true := by kernel_rfl
set_option maxRecDepth 100000 in
theorem r0_23_6 : run (.known 0) (.row [3, 1, 1, 1]) (.pt 2) = true := by kernel_rfl
set_option maxRecDepth 100000 in
theorem r0_23_7 : run (.known 0) (.row [3, 1, 1, 1]) (.pt 3) = true := by kernel_rfl
set_option maxRecDepth 100000 in
theorem r0_23_8 : run (.known 0) (.row [3, 1, 1, 1]) (.pt 4) = true := by kernel_rfl
set_option maxRecDepth 100000 in
theorem r0_23_9 : run (.known 0) (.row [3, 1, 1, 1]) (.pt 5) = true := by kernel_rfl
theorem r0_23 : AllL (fun c => run (.known 0) (.row [3, 1, 1, 1]) c = true) pclasses := ⟨r0_23_0, r0_23_1, r0_23_2, r0_23_3, r0_23_4, r0_23_5, r0_23_6, r0_23_7, r0_23_8, r0_23_9, trivial⟩
set_option maxRecDepth 100000 in
theorem r0_27_0 : run (.known 0) (.row [4]) .nil = true := by kernel_rfl
set_option maxRecDepth 100000 in
theorem r0_27_1 : run (.known 0) (.row [4]) .zero = true := by kernel_rfl
set_option maxRecDepth 100000 in
theorem r0_27_2 : run (.known 0) (.row [4]) .no = true := by kernel_rfl
set_option maxRecDepth 100000 in
theorem r0_27_3 : run (.known 0) (.row [4]) .long = true := by kernel_rfl
set_option maxRecDepth 100000 in
theorem r0_27_4 : run (.known 0) (.row [4]) (.pt 0) = true := by kernel_rfl
set_option maxRecDepth 100000 in
theorem r0_27_5 : run (.known 0) (.row [4]) (.pt 1) = true := by kernel_rfl
set_option maxRecDepth 100000 in
theorem r0_27_6 : run (.known 0) (.row [4]) (.pt 2) = true := by kernel_rfl
set_option maxRecDepth 100000 in
theorem r0_27_7 : run (.known 0) (.row [4]) (.pt 3) = true := by kernel_rfl
set_option maxRecDepth 100000 in
theorem r0_27_8 : run (.known 0) (.row [4]) (.pt 4) = true := by kernel_rfl
set_option maxRecDepth 100000 in
theorem r0_27_9 : run (.known 0) (.row [4]) (.pt 5) = true := by kernel_rfl
theorem r0_27 : AllL (fun c => run (.known 0) (.row [4]) c = true) pclasses := ⟨r0_27_0, r0_27_1, r0_27_2, r0_27_3, r0_27_4, r0_27_5, r0_27_6, r0_27_7, r0_27_8, r0_27_9, trivial⟩
set_option maxRecDepth 100000 in
theorem r0_31_0 : run (.known 0) (.row [5]) .nil = true := by kernel_rfl
set_option maxRecDepth 100000 in
theorem r0_31_1 : run (.known 0) (.row [5]) .zero = true := by kernel_rfl
set_option maxRecDepth 100000 in
theorem r0_31_2 : run (.known 0) (.row [5]) .no = true := by kernel_rfl
set_option maxRecDepth 100000 in
theorem r0_31_3 : run (.known 0) (.row [5]) .long = true := by kernel_rfl
set_option maxRecDepth 100000 in
theorem r0_31_4 : run (.known 0) (.row [5]) (.pt 0) = true := by kernel_rfl
set_option maxRecDepth 100000 in
theorem r0_31_5 : run (.known 0) (.row [5]) (.pt 1) = true := by kernel_rfl
set_option maxRecDepth 100000 in
theorem r0_31_6 : run (.known 0) (.row [5]) (.pt 2) = true := by kernel_rfl
set_option maxRecDepth 100000 in
theorem r0_31_7 : run (.known 0) (.row [5]) (.pt 3) = true := by kernel_rfl
set_option maxRecDepth 100000 in
theorem r0_31_8 : run (.known 0) (.row [5]) (.pt 4) = true := by kernel_rfl
set_option maxRecDepth 100000 in
theorem r0_31_9 : run (.known 0) (.row [5]) (.pt 5) = true := by kernel_rfl
theorem r0_31 : AllL (fun c => run (.known 0) (.row [5]) c = true) pclasses := ⟨r0_31_0, r0_31_1, r0_31_2, r0_31_3, r0_31_4, r0_31_5, r0_31_6, r0_31_7, r0_31_8, r0_31_9, trivial⟩
set_option maxRecDepth 100000 in
theorem r1_1_0 : run (.known 1) .zero .nil = true := by kernel_rfl
set_option maxRecDepth 100000 in
theorem r1_1_1 : run (.known 1) .zero .zero = true := by kernel_rfl
set_option maxRecDepth 100000 in
theorem r1_1_2 : run (.known 1) .zero .no = true := by kernel_rfl
set_option maxRecDepth 100000 in
theorem r1_1_3 : run (.known 1) .zero .long = true := by kernel_rfl
set_option maxRecDepth 100000 in
theorem r1_1_4 : run (.known 1) .zero (.pt 0) = true := by kernel_rfl
set_option maxRecDepth 100000 in
theorem r1_1_5 : run (.known 1) .zero (.pt 1) = true := by kernel_rfl
set_option maxRecDepth 100000 in
theorem r1_1_6 : run (.known 1) .zero (.pt 2) = true := by kernel_rfl
set_option maxRecDepth 100000 in
theorem r1_1_7 : run (.known 1) .zero (.pt 3) = true := by kernel_rfl
set_option maxRecDepth 100000 in
theorem r1_1_8 : run (.known 1) .zero (.pt 4) = true := by kernel_rfl
set_option maxRecDepth 100000 in
theorem r1_1_9 : run (.known 1) .zero (.pt 5) = true := by kernel_rfl
theorem r1_1 : AllL (fun c => run (.known 1) .zero c = true) pclasses := ⟨r1_1_0, r1_1_1, r1_1_2, r1_1_3, r1_1_4, r1_1_5, r1_1_6, r1_1_7, r1_1_8, r1_1_9, trivial⟩
set_option maxRecDepth 100000 in
theorem r1_5_0 : run (.known 1) (.row [1]) .nil = true := by kernel_rfl
set_option maxRecDepth 100000 in
theorem r1_5_1 : run (.known 1) (.row [1]) .zero = true := by kernel_rfl
set_option maxRecDepth 100000 in
theorem r1_5_2 : run (.known 1) (.row [1]) .no = true := by kernel_rfl
set_option maxRecDepth 100000 in
theorem r1_5_3 : run (.known 1) (.row [1]) .long = true := by kernel_rfl
set_option maxRecDepth 100000 in
theorem r1_5_4 : run (.known 1) (.row [1]) (.pt 0) = true := by kernel_rfl
set_option maxRecDepth 100000 in
theorem r1_5_5 : run (.known 1) (.row [1]) (.pt 1) = true := by kernel_rfl
set_option maxRecDepth 100000 in
theorem r1_5_6 : run (.known 1) (.row [1]) (.pt 2) = true := by kernel_rfl
set_option maxRecDepth 100000 in
theorem r1_5_7 : run (.known 1) (.row [1]) (.pt 3) = true := by kernel_rfl
set_option maxRecDepth 100000 in
theorem r1_5_8 : run (.known 1) (.row [1]) (.pt 4) = true := by kernel_rfl
set_option maxRecDepth 100000 in
theorem r1_5_9 : run (.known 1) (.row [1]) (.pt 5) = true := by kernel_rfl
theorem r1_5 : AllL (fun c => run (.known 1) (.row [1]) c = true) pclasses := ⟨r1_5_0, r1_5_1, r1_5_2, r1_5_3, r1_5_4, r1_5_5, r1_5_6, r1_5_7, r1_5_8, r1_5_9, trivial⟩
set_option maxRecDepth 100000 in
theorem r1_9_0 : run (.known 1) (.row [1, 1, 1, 1, 1]) .nil = true := by kernel_rfl
set_option maxRecDepth 100000 in
theorem r1_9_1 : run (.known 1) (.row [1, 1, 1, 1, 1]) .zero = true := by kernel_rfl
set_option maxRecDepth 100000 in
theorem r1_9_2 : run (.known 1) (.row [1, 1, 1, 1, 1]) .no = true := by kernel_rfl
set_option maxRecDepth 100000 in
theorem r1_9_3 : run (.known 1) (.row [1, 1, 1, 1, 1]) .long = true := by kernel_rfl
set_option maxRecDepth 100000 in
theorem r1_9_4 : run (.known 1) (.row [1, 1, 1, 1, 1]) (.pt 0) = true := by kernel_rfl
set_option maxRecDepth 100000 in
theorem r1_9_5 : run (.known 1) (.row [1, 1, 1, 1, 1]) (.pt 1) = true := by kernel_rfl
set_option maxRecDepth 100000 in
theorem r1_9_6 : run (.known 1) (.row [1, 1, 1, 1, 1]) (.pt 2) = true := by kernel_rfl
set_option maxRecDepth 100000 in
theorem r1_9_7 : run (.known 1) (.row [1, 1, 1, 1, 1]) (.pt 3) = true := by kernel_rfl
set_option maxRecDepth 100000 in
theorem r1_9_8 : run (.known 1) (.row [1, 1, 1, 1, 1]) (.pt 4) = true := by kernel_rfl
set_option maxRecDepth 100000 in
theorem r1_9_9 : run (.known 1) (.row [1, 1, 1, 1, 1]) (.pt 5) = true := by kernel_rfl
theorem r1_9 : AllL (fun c => run (.known 1) (.row [1, 1, 1, 1, 1]) c = true) pclasses := ⟨r1_9_0, r1_9_1, r1_9_2, r1_9_3, r1_9_4, r1_9_5, r1_9_6, r1_9_7, r1_9_8, r1_9_9, trivial⟩
set_option maxRecDepth 100000 in
theorem r1_13_0 : run (.known 1) (.row [2, 1, 1]) .nil = true := by kernel_rfl
set_option maxRecDepth 100000 in
theorem r1_13_1 : run (.known 1) (.row [2, 1, 1]) .zero = true := by kernel_rfl
set_option maxRecDepth 100000 in
theorem r1_13_2 : run (.known 1) (.row [2, 1, 1]) .no = true := by kernel_rfl
set_option maxRecDepth 100000 in
theorem r1_13_3 : run (.known 1) (.row [2, 1, 1]) .long = true := by kernel_rfl
set_option maxRecDepth 100000 in
theorem r1_13_4 : run (.known 1) (.row [2, 1, 1]) (.pt 0) = true := by kernel_rfl
set_option maxRecDepth 100000 in
theorem r1_13_5 : run (.known 1) (.row [2, 1, 1]) (.pt 1) = true := by kernel_rfl
set_option maxRecDepth 100000 in
theorem r1_13_6 : run (.known 1) (.row [2, 1, 1]) (.pt 2) = true := by kernel_rfl
set_option maxRecDepth 100000 in
theorem r1_13_7 : run (.known 1) (.row [2, 1, 1]) (.pt 3) = true := by kernel_rfl
set_option maxRecDepth 100000 in
theorem r1_13_8 : run (.known 1) (.row [2, 1, 1]) (.pt 4) = true := by kernel_rfl
set_option maxRecDepth 100000 in
theorem r1_13_9 : run (.known 1) (.row [2, 1, 1]) (.pt 5) = true := by kernel_rfl
theorem r1_13 : AllL (fun c => run (.known 1) (.row [2, 1, 1]) c = true) pclasses := ⟨r1_13_0, r1_13_1, r1_13_2, r1_13_3, r1_13_4, r1_13_5, r1_13_6, r1_13_7, r1_13_8, r1_13_9, trivial⟩
set_option maxRecDepth 100000 in
theorem r1_17_0 : run (.known 1) (.row [2, 2, 1]) .nil = true := by kernel_rfl
set_option maxRecDepth 100000 in
theorem r1_17_1 : run (.known 1) (.row [2, 2, 1]) .zero = true := by kernel_rfl
set_option maxRecDepth 100000 in
theorem r1_17_2 : run (.known 1) (.row [2, 2, 1]) .no = true := by kernel_rfl
set_option maxRecDepth 100000 in
theorem r1_17_3 : run (.known 1) (.row [2, 2, 1]) .long = true := by kernel_rfl
set_option maxRecDepth 100000 in
theorem r1_17_4 : run (.known 1) (.row [2, 2, 1]) (.pt 0) = true := by kernel_rfl
set_option maxRecDepth 100000 in
theorem r1_17_5 : run (.known 1) (.row [2, 2, 1]) (.pt 1) = true := by kernel_rfl
set_option maxRecDepth 100000 in
theorem r1_17_6 : run (.known 1) (.row [2, 2, 1]) (.pt 2) = true := by kernel_rfl
set_option maxRecDepth 100000 in
theorem r1_17_7 : run (.known 1) (.row [2, 2, 1]) (.pt 3) = true := by kernel_rfl
set_option maxRecDepth 100000 in
theorem r1_17_8 : run (.known 1) (.row [2, 2, 1]) (.pt 4) = true := by kernel_rfl
set_option maxRecDepth 100000 in
theorem r1_17_9 : run (.known 1) (.row [2, 2, 1]) (.pt 5) = true := by kernel_rfl
theorem r1_17 : AllL (fun c => run (.known 1) (.row [2, 2, 1]) c = true) pclasses := ⟨r1_17_0, r1_17_1, r1_17_2, r1_17_3, r1_17_4, r1_17_5, r1_17_6, r1_17_7, r1_17_8, r1_17_9, trivial⟩
set_option maxRecDepth 100000 in
theorem r1_21_0 : run (.known 1) (.row [3, 1]) .nil = true := by kernel_rfl
set_option maxRecDepth 100000 in
theorem r1_21_1 : run (.known 1) (.row [3, 1]) .zero = true := by kernel_rfl
set_option maxRecDepth 100000 in
theorem r1_21_2 : run (.known 1) (.row [3, 1]) .no = true := by kernel_rfl
set_option maxRecDepth 100000 in
theorem r1_21_3 : run (.known 1) (.row [3, 1]) .long = true := by kernel_rfl
set_option maxRecDepth 100000 in
theorem r1_21_4 : run (.known 1) (.row [3, 1]) (.pt 0) = true := by kernel_rfl
set_option maxRecDepth 100000 in
theorem r1_21_5 : run (.known 1) (.row [3, 1]) (.pt 1) = true := by kernel_rfl
set_option maxRecDepth 100000 in
theorem r1_21_6 : run (.known 1) (.row [3, 1]) (.pt 2) = true := by kernel_rfl
set_option maxRecDepth 100000 in
theorem r1_21_7 : run (.known 1) (.row [3, 1]) (.pt 3) = true := by kernel_rfl
set_option maxRecDepth 100000 in
theorem r1_21_8 : run (.known 1) (.row [3, 1]) (.pt 4) = true := by kernel_rfl
set_option maxRecDepth 100000 in
theorem r1_21_9 : run (.known 1) (.row [3, 1]) (.pt 5) = true := by kernel_rfl
theorem r1_21 : AllL (fun c => run (.known 1) (.row [3, 1]) c = true) pclasses := ⟨r1_21_0, r1_21_1, r1_21_2, r1_21_3, r1_21_4, r1_21_5, r1_21_6, r1_21_7, r1_21_8, r1_21_9, trivial⟩
set_option maxRecDepth 100000 in
theorem r1_25_0 : run (.known 1) (.row [3, 2, 1]) .nil = true := by kernel_rfl
set_option maxRecDepth 100000 in
theorem r1_25_1 : run (.known 1) (.row [3, 2, 1]) .zero = true := by kernel_rfl
set_option maxRecDepth 100000 in
theorem r1_25_2 : run (.known 1) (.row [3, 2, 1]) .no = true := by kernel_rfl
set_option maxRecDepth 100000 in
theorem r1_25_3 : run (.known 1) (.row [3, 2, 1]) .long = true := by kernel_rfl
set_option maxRecDepth 100000 in
theorem r1_25_4 : run (.known 1) (.row [3, 2, 1]) (.pt 0) = true := by kernel_rfl
set_option maxRecDepth 100000 in
theorem r1_25_5 : run (.known 1) (.row [3, 2, 1]) (.pt 1) = true := by kernel_rfl
set_option maxRecDepth 100000 in
theorem r1_25_6 : run (.known 1) (.row [3, 2, 1]) (.pt 2) = true := by kernel_rfl
set_option maxRecDepth 100000 in
theorem r1_25_7 : run (.known 1) (.row [3, 2, 1]) (.pt 3) = true := by kernel_rfl
set_option maxRecDepth 100000 in
theorem r1_25_8 : run (.known 1) (.row [3, 2, 1]) (.pt 4) = true := by kernel_rfl
set_option maxRecDepth 100000 in
theorem r1_25_9 : run (.known 1) (.row [3, 2, 1]) (.pt 5) = true := by kernel_rfl
theorem r1_25 : AllL (fun c => run (.known 1) (.row [3, 2, 1]) c = true) pclasses := ⟨r1_25_0, r1_25_1, r1_25_2, r1_25_3, r1_25_4, r1_25_5, r1_25_6, r1_25_7, r1_25_8, r1_25_9, trivial⟩
set_option maxRecDepth 100000 in
theorem r1_29_0 : run (.known 1) (.row [4, 1, 1]) .nil = true := by kernel_rfl
set_option maxRecDepth 100000 in
theorem r1_29_1 : run (.known 1) (.row [4, 1, 1]) .zero = true := by kernel_rfl
set_option maxRecDepth 100000 in
theorem r1_29_2 : run (.known 1) (.row [4, 1, 1]) .no = true := by kernel_rfl
set_option maxRecDepth 100000 in
theorem r1_29_3 : run (.known 1) (.row [4, 1, 1]) .long = true := by kernel_rfl
set_option maxRecDepth 100000 in
theorem r1_29_4 : run (.known 1) (.row [4, 1, 1]) (.pt 0) = true := by kernel_rfl
set_option maxRecDepth 100000 in
theorem r1_29_5 : run (.known 1) (.row [4, 1, 1]) (.pt 1) = true := by kernel_rfl
set_option maxRecDepth 100000 in
theorem r1_29_6 : run (.known 1) (.row [4, 1, 1]) (.pt 2) = true := by kernel_rfl
set_option maxRecDepth 100000 in
theorem r1_29_7 : run (.known 1) (.row [4, 1, 1]) (.pt 3) = true := by kernel_rfl
set_option maxRecDepth 100000 in
theorem r1_29_8 : run (.known 1) (.row [4, 1, 1]) (.pt 4) = true := by kernel_rfl
set_option maxRecDepth 100000 in
theorem r1_29_9 : run (.known 1) (.row [4, 1, 1]) (.pt 5) = true := by kernel_rfl
theorem r1_29 : AllL (fun c => run (.known 1) (.row [4, 1, 1]) c = true) pclasses := ⟨r1_29_0, r1_29_1, r1_29_2, r1_29_3, r1_29_4, r1_29_5, r1_29_6, r1_29_7, r1_29_8, r1_29_9, trivial⟩
set_option maxRecDepth 100000 in
theorem r1_33_0 : run (.known 1) (.row [6]) .nil = true := by kernel_rfl
set_option maxRecDepth 100000 in
theorem r1_33_1 : run (.known 1) (.row [6]) .zero = true := by kernel_rfl
set_option maxRecDepth 100000 in
theorem r1_33_2 : run (.known 1) (.row [6]) .no = true := by kernel_rfl
set_option maxRecDepth 100000 in
theorem r1_33_3 : run (.known 1) (.row [6]) .long = true := by kernel_rfl
set_option maxRecDepth 100000 in
theorem r1_33_4 : run (.known 1) (.row [6]) (.pt 0) = true := by kernel_rfl
set_option maxRecDepth 100000 in
theorem r1_33_5 : run (.known 1) (.row [6]) (.pt 1) = true := by kernel_rfl
set_option maxRecDepth 100000 in
theorem r1_33_6 : run (.known 1) (.row [6]) (.pt 2) = true := by kernel_rfl
set_option maxRecDepth 100000 in
theorem r1_33_7 : run (.known 1) (.row [6]) (.pt 3) = true := by kernel_rfl
set_option maxRecDepth 100000 in
theorem r1_33_8 : run (.known 1) (.row [6]) (.pt 4) = true := by kernel_rfl
set_option maxRecDepth 100000 in
theorem r1_33_9 : run (.known 1) (.row [6]) (.pt 5) = true := by kernel_rfl
theorem r1_33 : AllL (fun c => run (.known 1) (.row [6]) c = true) pclasses := ⟨r1_33_0, r1_33_1, r1_33_2, r1_33_3, r1_33_4, r1_33_5, r1_33_6, r1_33_7, r1_33_8, r1_33_9, trivial⟩
set_option maxRecDepth 100000 in
theorem r2_3_0 : run (.known 2) .long .nil = true := by kernel_rfl
set_option maxRecDepth 100000 in
theorem r2_3_1 : run (.known 2) .long .zero = true := by kernel_rfl
set_option maxRecDepth 100000 in
theorem r2_3_2 : run (.known 2) .long .no = true := by kernel_rfl
set_option maxRecDepth 100000 in
theorem r2_3_3 : run (.known 2) .long .long = true := by kernel_rfl
set_option maxRecDepth 100000 in
theorem r2_3_4 : run (.known 2) .long (.pt 0) = true := by kernel_rfl
set_option maxRecDepth 100000 in
theorem r2_3_5 : run (.known 2) .long (.pt 1) = true := by kernel_rfl
set_option maxRecDepth 100000 in
theorem r2_3_6 : run (.known 2) .long (.pt 2) = true := by kernel_rfl
set_option maxRecDepth 100000 in
theorem r2_3_7 : run (.known 2) .long (.pt 3) = true := by kernel_rfl
set_option maxRecDepth 100000 in
theorem r2_3_8 : run (.known 2) .long (.pt 4) = true := by kernel_rfl
set_option maxRecDepth 100000 in
theorem r2_3_9 : run (.known 2) .long (.pt 5) = true := by kernel_rfl
theorem r2_3 : AllL (fun c => run (.known 2) .long c = true) pclasses := ⟨r2_3_0, r2_3_1, r2_3_2, r2_3_3, r2_3_4, r2_3_5, r2_3_6, r2_3_7, r2_3_8, r2_3_9, trivial⟩
set_option maxRecDepth 100000 in
theorem r2_7_0 : run (.known 2) (.row [1, 1, 1]) .nil = true := by kernel_rfl
set_option maxRecDepth 100000 in
theorem r2_7_1 : run (.known 2) (.row [1, 1, 1]) .zero = true := by kernel_rfl
set_option maxRecDepth 100000 in
theorem r2_7_2 : run (.known 2) (.row [1, 1, 1]) .no = true := by kernel_rfl
set_option maxRecDepth 100000 in
theorem r2_7_3 : run (.known 2) (.row [1, 1, 1]) .long = true := by kernel_rfl
set_option maxRecDepth 100000 in
theorem r2_7_4 : run (.known 2) (.row [1, 1, 1]) (.pt 0) = true := by kernel_rfl
set_option maxRecDepth 100000 in
theorem r2_7_5 : run (.known 2) (.row [1, 1, 1]) (.pt 1) = true := by kernel_rfl
set_option maxRecDepth 100000 in
theorem r2_7_6 : run (.known 2) (.row [1, 1, 1]) (.pt 2) = true := by kernel_rfl
set_option maxRecDepth 100000 in
theorem r2_7_7 : run (.known 2) (.row [1, 1, 1]) (.pt 3) = true := by kernel_rfl
set_option maxRecDepth 100000 in
theorem r2_7_8 : run (.known 2) (.row [1, 1, 1]) (.pt 4) = true := by kernel_rfl
set_option maxRecDepth 100000 in
theorem r2_7_9 : run (.known 2) (.row [1, 1, 1]) (.pt 5) = true := by kernel_rfl
theorem r2_7 : AllL (fun c => run (.known 2) (.row [1, 1, 1]) c = true) pclasses := ⟨r2_7_0, r2_7_1, r2_7_2, r2_7_3, r2_7_4, r2_7_5, r2_7_6, r2_7_7, r2_7_8, r2_7_9, trivial⟩
set_option maxRecDepth 100000 in
theorem r2_11_0 : run (.known 2) (.row [2]) .nil = true := by kernel_rfl
set_option maxRecDepth 100000 in
theorem r2_11_1 : run (.known 2) (.row [2]) .zero = true := by kernel_rfl
set_option maxRecDepth 100000 in
theorem r2_11_2 : run (.known 2) (.row [2]) .no = true := by kernel_rfl
set_option maxRecDepth 100000 in
theorem r2_11_3 : run (.known 2) (.row [2]) .long = true := by kernel_rfl
set_option maxRecDepth 100000 in
theorem r2_11_4 : run (.known 2) (.row [2]) (.pt 0) = true := by kernel_rfl
set_option maxRecDepth 100000 in
theorem r2_11_5 : run (.known 2) (.row [2]) (.pt 1) = true := by kernel_rfl
set_option maxRecDepth 100000 in
theorem r2_11_6 : run (.known 2) (.row [2]) (.pt 2) = true := by kernel_rfl
set_option maxRecDepth 100000 in
theorem r2_11_7 : run (.known 2) (.row [2]) (.pt 3) = true := by kernel_rfl
set_option maxRecDepth 100000 in
theorem r2_11_8 : run (.known 2) (.row [2]) (.pt 4) = true := by kernel_rfl
set_option maxRecDepth 100000 in
theorem r2_11_9 : run (.known 2) (.row [2]) (.pt 5) = true := by kernel_rfl
theorem r2_11 : AllL (fun c => run (.known 2) (.row [2]) c = true) pclasses := ⟨r2_11_0, r2_11_1, r2_11_2, r2_11_3, r2_11_4, r2_11_5, r2_11_6, r2_11_7, r2_11_8, r2_11_9, trivial⟩
set_option maxRecDepth 100000 in
theorem r2_15_0 : run (.known 2) (.row [2, 1, 1, 1, 1]) .nil = true := by kernel_rfl
set_option maxRecDepth 100000 in
theorem r2_15_1 : run (.known 2) (.row [2, 1, 1, 1, 1]) .zero = true := by kernel_rfl
set_option maxRecDepth 100000 in
theorem r2_15_2 : run (.known 2) (.row [2, 1, 1, 1, 1]) .no = true := by kernel_rfl
set_option maxRecDepth 100000 in
theorem r2_15_3 : run (.known 2) (.row [2, 1, 1, 1, 1]) .long = true := by kernel_rfl
set_option maxRecDepth 100000 in
theorem r2_15_4 : run (.known 2) (.row [2, 1, 1, 1, 1]) (.pt 0) = true := by kernel_rfl
set_option maxRecDepth 100000 in
theorem r2_15_5 : run (.known 2) (.row [2, 1, 1, 1, 1]) (.pt 1) = true := by kernel_rfl
set_option maxRecDepth 100000 in
theorem r2_15_6 : run (.known 2) (.row [2, 1, 1, 1, 1]) (.pt 2) = true := by kernel_rfl
set_option maxRecDepth 100000 in
theorem r2_15_7 : run (.known 2) (.row [2, 1, 1, 1, 1]) (.pt 3) = true := by kernel_rfl
set_option maxRecDepth 100000 in
theorem r2_15_8 : run (.known 2) (.row [2, 1, 1, 1, 1]) (.pt 4) = true := by kernel_rfl
set_option maxRecDepth 100000 in
theorem r2_15_9 : run (.known 2) (.row [2, 1, 1, 1, 1]) (.pt 5) = true := by kernel_rfl
theorem r2_15 : AllL (fun c => run (.known 2) (.row [2, 1, 1, 1, 1]) c = true) pclasses := ⟨r2_15_0, r2_15_1, r2_15_2, r2_15_3, r2_15_4, r2_15_5, r2_15_6, r2_15_7, r2_15_8, r2_15_9, trivial⟩
set_option maxRecDepth 100000 in
theorem r2_19_0 : run (.known 2) (.row [2, 2, 2]) .nil = true := by kernel_rfl
set_option maxRecDepth 100000 in
theorem r2_19_1 : run (.known 2) (.row [2, 2, 2]) .zero = true := by kernel_rfl
set_option maxRecDepth 100000 in
theorem r2_19_2 : run (.known 2) (.row [2, 2, 2]) .no = true := by kernel_rfl
set_option maxRecDepth 100000 in
theorem r2_19_3 : run (.known 2) (.row [2, 2, 2]) .long = true := by kernel_rfl
set_option maxRecDepth 100000 in
theorem r2_19_4 : run (.known 2) (.row [2, 2, 2]) (.pt 0) = true := by kernel_rfl
set_option maxRecDepth 100000 in
theorem r2_19_5 : run (.known 2) (.row [2, 2, 2]) (.pt 1) = true := by kernel_rfl
set_option maxRecDepth 100000 in
theorem r2_19_6 : run (.known 2) (.row [2, 2, 2]) (.pt 2) = true := by kernel_rfl
set_option maxRecDepth 100000 in
theorem r2_19_7 : run (.known 2) (.row [2, 2, 2]) (.pt 3) = true := by kernel_rfl
set_option maxRecDepth 100000 in
theorem r2_19_8 : run (.known 2) (.row [2, 2, 2]) (.pt 4) = true := by kernel_rfl
set_option maxRecDepth 100000 in
theorem r2_19_9 : run (.known 2) (.row [2, 2, 2]) (.pt 5) = true := by kernel_rfl
theorem r2_19 : AllL (fun c => run (.known 2) (.row [2, 2, 2]) c = true) pclasses := ⟨r2_19_0, r2_19_1, r2_19_2, r2_19_3, r2_19_4, r2_19_5, r2_19_6, r2_19_7, r2_19_8, r2_19_9, trivial⟩
set_option maxRecDepth 100000 in
theorem r2_23_0 : run (.known 2) (.row [3, 1, 1, 1]) .nil = true := by kernel_rfl
set_option maxRecDepth 100000 in
theorem r2_23_1 : run (.known 2) (.row [3, 1, 1, 1]) .zero = true := by kernel_rfl
set_option maxRecDepth 100000 in
theorem r2_23_2 : run (.known 2) (.row [3, 1, 1, 1]) .no = true := by kernel_rfl
set_option maxRecDepth 100000 in
theorem r2_23_3 : run (.known 2) (.row [3, 1, 1, 1]) .long = true := by kernel_rfl
set_option maxRecDepth 100000 in
theorem r2_23_4 : run (.known 2) (.row [3, 1, 1, 1]) (.pt 0) = true := by kernel_rfl
set_option maxRecDepth 100000 in
theorem r2_23_5 : run (.known 2) (.row [3, 1, 1, 1]) (.pt 1) = true := by kernel_rfl
set_option maxRecDepth 100000 in
theorem r2_23_6 : run (.known 2) (.row [3, 1, 1, 1]) (.pt 2) = true := by kernel_rfl
set_option maxRecDepth 100000 in
theorem r2_23_7 : run (.known 2) (.row [3, 1, 1, 1]) (.pt 3) = true := by kernel_rfl
set_option maxRecDepth 100000 in
theorem r2_23_8 : run (.known 2) (.row [3, 1, 1, 1]) (.pt 4) = true := by kernel_rfl
set_option maxRecDepth 100000 in
theorem r2_23_9 : run (.known 2) (.row [3, 1, 1, 1]) (.pt 5) = true := by kernel_rfl
theorem r2_23 : AllL (fun c => run (.known 2) (.row [3, 1, 1, 1]) c = true) pclasses := ⟨r2_23_0, r2_23_1, r2_23_2, r2_23_3, r2_23_4, r2_23_5, r2_23_6, r2_23_7, r2_23_8, r2_23_9, trivial⟩
set_option maxRecDepth 100000 in
theorem r2_27_0 : run (.known 2) (.row [4]) .nil = true := by kernel_rfl
set_option maxRecDepth 100000 in
theorem r2_27_1 : run (.known 2) (.row [4]) .zero = true := by kernel_rfl
set_option maxRecDepth 100000 in
theorem r2_27_2 : run (.known 2) (.row [4]) .no = true := by kernel_rfl
set_option maxRecDepth 100000 in
theorem r2_27_3 : run (.known 2) (.row [4]) .long = true := by kernel_rfl
set_option maxRecDepth 100000 in
theorem r2_27_4 : run (.known 2) (.row [4]) (.pt 0) = true := by kernel_rfl
set_option maxRecDepth 100000 in
theorem r2_27_5 : run (.known 2) (.row [4]) (.pt 1) = true := by kernel_rfl
set_option maxRecDepth 100000 in
theorem r2_27_6 : run (.known 2) (.row [4]) (.pt 2) = true := by kernel_rfl
set_option maxRecDepth 100000 in
theorem r2_27_7 : run (.known 2) (.row [4]) (.pt 3) = true := by kernel_rfl
set_option maxRecDepth 100000 in
theorem r2_27_8 : run (.known 2) (.row [4]) (.pt 4) = true := by kernel_rfl
set_option maxRecDepth 100000 in
theorem r2_27_9 : run (.known 2) (.row [4]) (.pt 5) = true := by kernel_rfl
theorem r2_27 : AllL (fun c => run (.known 2) (.row [4]) c = true) pclasses := ⟨r2_27_0, r2_27_1, r2_27_2, r2_27_3, r2_27_4, r2_27_5, r2_27_6, r2_27_7, r2_27_8, r2_27_9, trivial⟩
set_option maxRecDepth 100000 in
theorem r2_31_0 : run (.known 2) (.row [5]) .nil = true := by kernel_rfl
set_option maxRecDepth 100000 in
theorem r2_31_1 : run (.known 2) (.row [5]) .zero = true := by kernel_rfl
set_option maxRecDepth 100000 in
theorem r2_31_2 : run (.known 2) (.row [5]) .no = true := by kernel_rfl
set_option maxRecDepth 100000 in
theorem r2_31_3 : run (.known 2) (.row [5]) .long = true := by kernel_rfl
set_option maxRecDepth 100000 in
theorem r2_31_4 : run (.known 2) (.row [5]) (.pt 0) = true := by kernel_rfl
set_option maxRecDepth 100000 in
theorem r2_31_5 : run (.known 2) (.row [5]) (.pt 1) = true := by kernel_rfl
set_option maxRecDepth 100000 in
theorem r2_31_6 : run (.known 2) (.row [5]) (.pt 2) = true := by kernel_rfl
set_option maxRecDepth 100000 in
theorem r2_31_7 : run (.known 2) (.row [5]) (.pt 3) = true := by kernel_rfl
set_option maxRecDepth 100000 in
theorem r2_31_8 : run (.known 2) (.row [5]) (.pt 4) = true := by kernel_rfl
set_option maxRecDepth 100000 in
theorem r2_31_9 : run (.known 2) (.row [5]) (.pt 5) = true := by kernel_rfl
theorem r2_31 : AllL (fun c => run (.known 2) (.row [5]) c = true) pclasses := ⟨r2_31_0, r2_31_1, r2_31_2, r2_31_3, r2_31_4, r2_31_5, r2_31_6, r2_31_7, r2_31_8, r2_31_9, trivial⟩
set_option maxRecDepth 100000 in
theorem r3_1_0 : run (.known 3) .zero .nil = true := by kernel_rfl
set_option maxRecDepth 100000 in
theorem r3_1_1 : run (.known 3) .zero .zero = true := by kernel_rfl
set_option maxRecDepth 100000 in
theorem r3_1_2 : run (.known 3) .zero .no = true := by kernel_rfl
set_option maxRecDepth 100000 in
theorem r3_1_3 : run (.known 3) .zero .long = true := by kernel_rfl
set_option maxRecDepth 100000 in
theorem r3_1_4 : run (.known 3) .zero (.pt 0) = true := by kernel_rfl
set_option maxRecDepth 100000 in
theorem r3_1_5 : run (.known 3) .zero (.pt 1) = true := by kernel_rfl
set_option maxRecDepth 100000 in
theorem r3_1_6 : run (.known 3) .zero (.pt 2) = true := by kernel_rfl
set_option maxRecDepth 100000 in
theorem r3_1_7 : run (.known 3) .zero (.pt 3) = true := by kernel_rfl
set_option maxRecDepth 100000 in
theorem r3_1_8 : run (.known 3) .zero (.pt 4) = true := by kernel_rfl
set_option maxRecDepth 100000 in
theorem r3_1_9 : run (.known 3) .zero (.pt 5) = true := by kernel_rfl
theorem r3_1 : AllL (fun c => run (.known 3) .zero c = true) pclasses := ⟨r3_1_0, r3_1_1, r3_1_2, r3_1_3, r3_1_4, r3_1_5, r3_1_6, r3_1_7, r3_1_8, r3_1_9, trivial⟩
set_option maxRecDepth 100000 in
theorem r3_5_0 : run (.known 3) (.row [1]) .nil = true := by kernel_rfl
set_option maxRecDepth 100000 in
theorem r3_5_1 : run (.known 3) (.row [1]) .zero = true := by kernel_rfl
set_option maxRecDepth 100000 in
theorem r3_5_2 : run (.known 3) (.row [1]) .no = true := by kernel_rfl
set_option maxRecDepth 100000 in
theorem r3_5_3 : run (.known 3) (.row [1]) .long = true := by kernel_rfl
set_option maxRecDepth 100000 in
theorem r3_5_4 : run (.known 3) (.row [1]) (.pt 0) = true := by kernel_rfl
set_option maxRecDepth 100000 in
theorem r3_5_5 : run (.known 3) (.row [1]) (.pt 1) = true := by kernel_rfl
set_option maxRecDepth 100000 in
theorem r3_5_6 : run (.known 3) (.row [1]) (.pt 2) = true := by kernel_rfl
set_option maxRecDepth 100000 in
theorem r3_5_7 : run (.known 3) (.row [1]) (.pt 3) = true := by kernel_rfl
set_option maxRecDepth 100000 in
theorem r3_5_8 : run (.known 3) (.row [1]) (.pt 4) = true := by kernel_rfl
set_option maxRecDepth 100000 in
theorem r3_5_9 : run (.known 3) (.row [1]) (.pt 5) = true := by kernel_rfl
theorem r3_5 : AllL (fun c => run (.known 3) (.row [1]) c = true) pclasses := ⟨r3_5_0, r3_5_1, r3_5_2, r3_5_3, r3_5_4, r3_5_5, r3_5_6, r3_5_7, r3_5_8, r3_5_9, trivial⟩
set_option maxRecDepth 100000 in
theorem r3_9_0 : run (.known 3) (.row [1, 1, 1, 1, 1]) .nil = true := by kernel_rfl
set_option maxRecDepth 100000 in
theorem r3_9_1 : run (.known 3) (.row [1, 1, 1, 1, 1]) .zero = true := by kernel_rfl
set_option maxRecDepth 100000 in
theorem r3_9_2 : run (.known 3) (.row [1, 1, 1, 1, 1]) .no = true := by kernel_rfl
set_option maxRecDepth 100000 in
theorem r3_9_3 : run (.known 3) (.row [1, 1, 1, 1, 1]) .long = true := by kernel_rfl
set_option maxRecDepth 100000 in
theorem r3_9_4 : run (.known 3) (.row [1, 1, 1, 1, 1]) (.pt 0) = true := by kernel_rfl
set_option maxRecDepth 100000 in
theorem r3_9_5 : run (.known 3) (.row [1, 1, 1, 1, 1]) (.pt 1) = true := by kernel_rfl
set_option maxRecDepth 100000 in
theorem r3_9_6 : run (.known 3) (.row [1, 1, 1, 1, 1]) (.pt 2) = true := by kernel_rfl
set_option maxRecDepth 100000 in
theorem r3_9_7 : run (.known 3) (.row [1, 1, 1, 1, 1]) (.pt 3) = true := by kernel_rfl
set_option maxRecDepth 100000 in
theorem r3_9_8 : run (.known 3) (.row [1, 1, 1, 1, 1]) (.pt 4) = true := by kernel_rfl
set_option maxRecDepth 100000 in
theorem r3_9_9 : run (.known 3) (.row [1, 1, 1, 1, 1]) (.pt 5) = true := by kernel_rfl
theorem r3_9 : AllL (fun c => run (.known 3) (.row [1, 1, 1, 1, 1]) c = true) pclasses := ⟨r3_9_0, r3_9_1, r3_9_2, r3_9_3, r3_9_4, r3_9_5, r3_9_6, r3_9_7, r3_9_8, r3_9_9, trivial⟩
set_option maxRecDepth 100000 in
theorem r3_13_0 : run (.known 3) (.row [2, 1, 1]) .nil = true := by kernel_rfl
set_option maxRecDepth 100000 in
theorem r3_13_1 : run (.known 3) (.row [2, 1, 1]) .zero = true := by kernel_rfl
set_option maxRecDepth 100000 in
theorem r3_13_2 : run (.known 3) (.row [2, 1, 1]) .no = true := by kernel_rfl
set_option maxRecDepth 100000 in
theorem r3_13_3 : run (.known 3) (.row [2, 1, 1]) .long = true := by kernel_rfl
set_option maxRecDepth 100000 in
theorem r3_13_4 : run (.known 3) (.row [2, 1, 1]) (.pt 0) = true := by kernel_rfl
set_option maxRecDepth 100000 in
theorem r3_13_5 : run (.known 3) (.row [2, 1, 1]) (.pt 1) = true := by kernel_rfl
set_option maxRecDepth 100000 in
theorem r3_13_6 : run (.known 3) (.row [2, 1, 1]) (.pt 2) = true := by kernel_rfl
set_option maxRecDepth 100000 in
theorem r3_13_7 : run (.known 3) (.row [2, 1, 1]) (.pt 3) = true := by kernel_rfl
set_option maxRecDepth 100000 in
theorem r3_13_8 : run (.known 3) (.row [2, 1, 1]) (.pt 4) = true := by kernel_rfl
set_option maxRecDepth 100000 in
theorem r3_13_9 : run (.known 3) (.row [2, 1, 1]) (.pt 5) = true := by kernel_rfl
theorem r3_13 : AllL (fun c => run (.known 3) (.row [2, 1, 1]) c = true) pclasses := ⟨r3_13_0, r3_13_1, r3_13_2, r3_13_3, r3_13_4, r3_13_5, r3_13_6, r3_13_7, r3_13_8, r3_13_9, trivial⟩
set_option maxRecDepth 100000 in
theorem r3_17_0 : run (.known 3) (.row [2, 2, 1]) .nil = true := by kernel_rfl
set_option maxRecDepth 100000 in
theorem r3_17_1 : run (.known 3) (.row [2, 2, 1]) .zero = true := by kernel_rfl
set_option maxRecDepth 100000 in
theorem r3_17_2 : run (.known 3) (.row [2, 2, 1]) .no = true := by kernel_rfl
set_option maxRecDepth 100000 in
theorem r3_17_3 : run (.known 3) (.row [2, 2, 1]) .long = true := by kernel_rfl
set_option maxRecDepth 100000 in
theorem r3_17_4 : run (.known 3) (.row [2, 2, 1]) (.pt 0) = true := by kernel_rfl
set_option maxRecDepth 100000 in
theorem r3_17_5 : run (.known 3) (.row [2, 2, 1]) (.pt 1) = true := by kernel_rfl
set_option maxRecDepth 100000 in
theorem r3_17_6 : run (.known 3) (.row [2, 2, 1]) (.pt 2) = true := by kernel_rfl
set_option maxRecDepth 100000 in
theorem r3_17_7 : run (.known 3) (.row [2, 2, 1]) (.pt 3) = true := by kernel_rfl
set_option maxRecDepth 100000 in
theorem r3_17_8 : run (.known 3) (.row [2, 2, 1]) (.pt 4) = true := by kernel_rfl
set_option maxRecDepth 100000 in
theorem r3_17_9 : run (.known 3) (.row [2, 2, 1]) (.pt 5) = true := by kernel_rfl
theorem r3_17 : AllL (fun c => run (.known 3) (.row [2, 2, 1]) c = true) pclasses := ⟨r3_17_0, r3_17_1, r3_17_2, r3_17_3, r3_17_4, r3_17_5, r3_17_6, r3_17_7, r3_17_8, r3_17_9, trivial⟩
set_option maxRecDepth 100000 in
theorem r3_21_0 : run (.known 3) (.row [3, 1]) .nil = true := by kernel_rfl
set_option maxRecDepth 100000 in
theorem r3_21_1 : run (.known 3) (.row [3, 1]) .zero = true := by kernel_rfl
set_option maxRecDepth 100000 in
theorem r3_21_2 : run (.known 3) (.row [3, 1]) .no = true := by kernel_rfl
set_option maxRecDepth 100000 in
theorem r3_21_3 : run (.known 3) (.row [3, 1]) .long = true := by kernel_rfl
set_option maxRecDepth 100000 in
theorem r3_21_4 : run (.known 3) (.row [3, 1]) (.pt 0) = true := by kernel_rfl
set_option maxRecDepth 100000 in
theorem r3_21_5 : run (.known 3) (.row [3, 1]) (.pt 1) = true := by kernel_rfl
set_option maxRecDepth 100000 in
theorem r3_21_6 : run (.known 3) (.row [3, 1]) (.pt 2) = true := by kernel_rfl
set_option maxRecDepth 100000 in
theorem r3_21_7 : run (.known 3) (.row [3, 1]) (.pt 3) = true := by kernel_rfl
set_option maxRecDepth 100000 in
theorem r3_21_8 : run (.known 3) (.row [3, 1]) (.pt 4) = true := by kernel_rfl
set_option maxRecDepth 100000 in
theorem r3_21_9 : run (.known 3) (.row [3, 1]) (.pt 5) = true := by kernel_rfl
theorem r3_21 : AllL (fun c => run (.known 3) (.row [3, 1]) c = true) pclasses := ⟨r3_21_0, r3_21_1, r3_21_2, r3_21_3, r3_21_4, r3_21_5, r3_21_6, r3_21_7, r3_21_8, r3_21_9, trivial⟩
set_option maxRecDepth 100000 in
theorem r3_25_0 : run (.known 3) (.row [3, 2, 1]) .nil = true := by kernel_rfl
set_option maxRecDepth 100000 in
theorem r3_25_1 : run (.known 3) (.row [3, 2, 1]) .zero = true := by kernel_rfl
set_option maxRecDepth 100000 in
theorem r3_25_2 : run (.known 3) (.row [3, 2, 1]) .no = true := by kernel_rfl
set_option maxRecDepth 100000 in
theorem r3_25_3 : run (.known 3) (.row [3, 2, 1]) .long = true := by kernel_rfl
set_option maxRecDepth 100000 in
theorem r3_25_4 : run (.known 3) (.row [3, 2, 1]) (.pt 0) = true := by kernel_rfl
set_option maxRecDepth 100000 in
theorem r3_25_5 : run (.known 3) (.row [3, 2, 1]) (.pt 1) = true := by kernel_rfl
set_option maxRecDepth 100000 in
theorem r3_25_6 : run (.known 3) (.row [3, 2, 1]) (.pt 2) = true := by kernel_rfl
set_option maxRecDepth 100000 in
theorem r3_25_7 : run (.known 3) (.row [3, 2, 1]) (.pt 3) = true := by kernel_rfl
set_option maxRecDepth 100000 in
theorem r3_25_8 : run (.known 3) (.row [3, 2, 1]) (.pt 4) = true := by kernel_rfl
set_option maxRecDepth 100000 in
theorem r3_25_9 : run (.known 3) (.row [3, 2, 1]) (.pt 5) = true := by kernel_rfl
theorem r3_25 : AllL (fun c => run (.known 3) (.row [3, 2, 1]) c = true) pclasses := ⟨r3_25_0, r3_25_1, r3_25_2, r3_25_3, r3_25_4, r3_25_5, r3_25_6, r3_25_7, r3_25_8, r3_25_9, trivial⟩
set_option maxRecDepth 100000 in
theorem r3_29_0 : run (.known 3) (.row [4, 1, 1]) .nil = true := by kernel_rfl
set_option maxRecDepth 100000 in
theorem r3_29_1 : run (.known 3) (.row [4, 1, 1]) .zero = true := by kernel_rfl
set_option maxRecDepth 100000 in
theorem r3_29_2 : run (.known 3) (.row [4, 1, 1]) .no = true := by kernel_rfl
set_option maxRecDepth 100000 in
theorem r3_29_3 : run (.known 3) (.row [4, 1, 1]) .long = true := by kernel_rfl
set_option maxRecDepth 100000 in
theorem r3_29_4 : run (.known 3) (.row [4, 1, 1]) (.pt 0) = true := by kernel_rfl
set_option maxRecDepth 100000 in
theorem r3_29_5 : run (.known 3) (.row [4, 1, 1]) (.pt 1) = true := by kernel_rfl
set_option maxRecDepth 100000 in
theorem r3_29_6 : run (.known 3) (.row [4, 1, 1]) (.pt 2) = true := by kernel_rfl
set_option maxRecDepth 100000 in
theorem r3_29_7 : run (.known 3) (.row [4, 1, 1]) (.pt 3) = true := by kernel_rfl
set_option maxRecDepth 100000 in
theorem r3_29_8 : run (.known 3) (.row [4, 1, 1]) (.pt 4) = true := by kernel_rfl
set_option maxRecDepth 100000 in
theorem r3_29_9 : run (.known 3) (.row [4, 1, 1]) (.pt 5) = true := by kernel_rfl
theorem r3_29 : AllL (fun c => run (.known 3) (.row [4, 1, 1]) c = true) pclasses := ⟨r3_29_0, r3_29_1, r3_29_2, r3_29_3, r3_29_4, r3_29_5, r3_29_6, r3_29_7, r3_29_8, r3_29_9, trivial⟩
set_option maxRecDepth 100000 in
theorem r3_33_0 : run (.known 3) (.row [6]) .nil = true := by kernel_rfl
set_option maxRecDepth 100000 in
theorem r3_33_1 : run (.known 3) (.row [6]) .zero = true := by kernel_rfl
set_option maxRecDepth 100000 in
theorem r3_33_2 : run (.known 3) (.row [6]) .no = true := by kernel_rfl
set_option maxRecDepth 100000 in
theorem r3_33_3 : run (.known 3) (.row [6]) .long = true := by kernel_rfl
set_option maxRecDepth 100000 in
theorem r3_33_4 : run (.known 3) (.row [6]) (.pt 0) = true := by kernel_rfl
set_option maxRecDepth 100000 in
theorem r3_33_5 : run (.known 3) (.row [6]) (.pt 1) = true := by kernel_rfl
set_option maxRecDepth 100000 in
theorem r3_33_6 : run (.known 3) (.row [6]) (.pt 2) = true := by kernel_rfl
set_option maxRecDepth 100000 in
theorem r3_33_7 : run (.known 3) (.row [6]) (.pt 3) = true := by kernel_rfl
set_option maxRecDepth 100000 in
theorem r3_33_8 : run (.known 3) (.row [6]) (.pt 4) = true := by kernel_rfl
set_option maxRecDepth 100000 in
theorem r3_33_9 : run (.known 3) (.row [6]) (.pt 5) = true := by kernel_rfl
theorem r3_33 : AllL (fun c => run (.known 3) (.row [6]) c = true) pclasses := ⟨r3_33_0, r3_33_1, r3_33_2, r3_33_3, r3_33_4, r3_33_5, r3_33_6, r3_33_7, r3_33_8, r3_33_9, trivial⟩
set_option maxRecDepth 100000 in
theorem r4_3_0 : run (.known 4) .long .nil = true := by kernel_rfl
set_option maxRecDepth 100000 in
theorem r4_3_1 : run (.known 4) .long .zero = true := by kernel_rfl
set_option maxRecDepth 100000 in
theorem r4_3_2 : run (.known 4) .long .no = true := by kernel_rfl
set_option maxRecDepth 100000 in
theorem r4_3_3 : run (.known 4) .long .long = true := by kernel_rfl
set_option maxRecDepth 100000 in
theorem r4_3_4 : run (.known 4) .long (.pt 0) = true := by kernel_rfl
set_option maxRecDepth 100000 in
theorem r4_3_5 : run (.known 4) .long (.pt 1) = true := by kernel_rfl
set_option maxRecDepth 100000 in
theorem r4_3_6 : run (.known 4) .long (.pt 2) = true := by kernel_rfl
set_option maxRecDepth 100000 in
theorem r4_3_7 : run (.known 4) .long (.pt 3) = true := by kernel_rfl
set_option maxRecDepth 100000 in
theorem r4_3_8 : run (.known 4) .long (.pt 4) = true := by kernel_rfl
set_option maxRecDepth 100000 in
theorem r4_3_9 : run (.known 4) .long (.pt 5) = true := by kernel_rfl
theorem r4_3 : AllL (fun c => run (.known 4) .long c = true) pclasses := ⟨r4_3_0, r4_3_1, r4_3_2, r4_3_3, r4_3_4, r4_3_5, r4_3_6, r4_3_7, r4_3_8, r4_3_9, trivial⟩
set_option maxRecDepth 100000 in
theorem r4_7_0 : run (.known 4) (.row [1, 1, 1]) .nil = true := by kernel_rfl
set_option maxRecDepth 100000 in
theorem r4_7_1 : run (.known 4) (.row [1, 1, 1]) .zero = true := by kernel_rfl
set_option maxRecDepth 100000 in
theorem r4_7_2 : run (.known 4) (.row [1, 1, 1]) .no = true := by kernel_rfl
set_option maxRecDepth 100000 in
theorem r4_7_3 : run (.known 4) (.row [1, 1, 1]) .long = true := by kernel_rfl
set_option maxRecDepth 100000 in
theorem r4_7_4 : run (.known 4) (.row [1, 1, 1]) (.pt 0) = true := by kernel_rfl
set_option maxRecDepth 100000 in
theorem r4_7_5 : run (.known 4) (.row [1, 1, 1]) (.pt 1) = true := by kernel_rfl
set_option maxRecDepth 100000 in
theorem r4_7_6 : run (.known 4) (.row [1, 1, 1]) (.pt 2) = true := by kernel_rfl
set_option maxRecDepth 100000 in
theorem r4_7_7 : run (.known 4) (.row [1, 1, 1]) (.pt 3) = true := by kernel_rfl
set_option maxRecDepth 100000 in
theorem r4_7_8 : run (.known 4) (.row [1, 1, 1]) (.pt 4) = true := by kernel_rfl
set_option maxRecDepth 100000 in
theorem r4_7_9 : run (.known 4) (.row [1, 1, 1]) (.pt 5) = true := by kernel_rfl
theorem r4_7 : AllL (fun c => run (.known 4) (.row [1, 1, 1]) c = true) pclasses := ⟨r4_7_0, r4_7_1, r4_7_2, r4_7_3, r4_7_4, r4_7_5, r4_7_6, r4_7_7, r4_7_8, r4_7_9, trivial⟩
set_option maxRecDepth 100000 in
theorem r4_11_0 : run (.known 4) (.row [2]) .nil = true := by kernel_rfl
set_option maxRecDepth 100000 in
theorem r4_11_1 : run (.known 4) (.row [2]) .zero = true := by kernel_rfl
set_option maxRecDepth 100000 in
theorem r4_11_2 : run (.known 4) (.row [2]) .no = true := by kernel_rfl
set_option maxRecDepth 100000 in
theorem r4_11_3 : run (.known 4) (.row [2]) .long = true := by kernel_rfl
set_option maxRecDepth 100000 in
theorem r4_11_4 : run (.known 4) (.row [2]) (.pt 0) = true := by kernel_rfl
set_option maxRecDepth 100000 in
theorem r4_11_5 : run (.known 4) (.row [2]) (.pt 1) = true := by kernel_rfl
set_option maxRecDepth 100000 in
theorem r4_11_6 : run (.known 4) (.row [2]) (.pt 2) = true := by kernel_rfl
set_option maxRecDepth 100000 in
theorem r4_11_7 : run (.known 4) (.row [2]) (.pt 3) = true := by kernel_rfl
set_option maxRecDepth 100000 in
theorem r4_11_8 : run (.known 4) (.row [2]) (.pt 4) = true := by kernel_rfl
set_option maxRecDepth 100000 in
theorem r4_11_9 : run (.known 4) (.row [2]) (.pt 5) = true := by kernel_rfl
theorem r4_11 : AllL (fun c => run (.known 4) (.row [2]) c = true) pclasses := ⟨r4_11_0, r4_11_1, r4_11_2, r4_11_3, r4_11_4, r4_11_5, r4_11_6, r4_11_7, r4_11_8, r4_11_9, trivial⟩
set_option maxRecDepth 100000 in
theorem r4_15_0 : run (.known 4) (.row [2, 1, 1, 1, 1]) .nil = true := by kernel_rfl
set_option maxRecDepth 100000 in
theorem r4_15_1 : run (.known 4) (.row [2, 1, 1, 1, 1]) .zero = true := by kernel_rfl
set_option maxRecDepth 100000 in
theorem r4_15_2 : run (.known 4) (.row [2, 1, 1, 1, 1]) .no = true := by kernel_rfl
set_option maxRecDepth 100000 in
theorem r4_15_3 : run (.known 4) (.row [2, 1, 1, 1, 1]) .long = true := by kernel_rfl
set_option maxRecDepth 100000 in
theorem r4_15_4 : run (.known 4) (.row [2, 1, 1, 1, 1]) (.pt 0) = true := by kernel_rfl
set_option maxRecDepth 100000 in
theorem r4_15_5 : run (.known 4) (.row [2, 1, 1, 1, 1]) (.pt 1) = true := by kernel_rfl
set_option maxRecDepth 100000 in
theorem r4_15_6 : run (.known 4) (.row [2, 1, 1, 1, 1]) (.pt 2) = true := by kernel_rfl
set_option maxRecDepth 100000 in
theorem r4_15_7 : run (.known 4) (.row [2, 1, 1, 1, 1]) (.pt 3) = true := by kernel_rfl
set_option maxRecDepth 100000 in
theorem r4_15_8 : run (.known 4) (.row [2, 1, 1, 1, 1]) (.pt 4) = true := by kernel_rfl
set_option maxRecDepth 100000 in
theorem r4_15_9 : run (.known 4) (.row [2, 1, 1, 1, 1]) (.pt 5) = true := by kernel_rfl
theorem r4_15 : AllL (fun c => run (.known 4) (.row [2, 1, 1, 1, 1]) c = true) pclasses := ⟨r4_15_0, r4_15_1, r4_15_2, r4_15_3, r4_15_4, r4_15_5, r4_15_6, r4_15_7, r4_15_8, r4_15_9, trivial⟩
set_option maxRecDepth 100000 in
theorem r4_19_0 : run (.known 4) (.row [2, 2, 2]) .nil = true := by kernel_rfl
set_option maxRecDepth 100000 in
theorem r4_19_1 : run (.known 4) (.row [2, 2, 2]) .zero = true := by kernel_rfl
set_option maxRecDepth 100000 in
theorem r4_19_2 : run (.known 4) (.row [2, 2, 2]) .no = true := by kernel_rfl
set_option maxRecDepth 100000 in
theorem r4_19_3 : run (.known 4) (.row [2, 2, 2]) .long = true := by kernel_rfl
set_option maxRecDepth 100000 in
theorem r4_19_4 : run (.known 4) (.row [2, 2, 2]) (.pt 0) = true := by kernel_rfl
set_option maxRecDepth 100000 in
theorem r4_19_5 : run (.known 4) (.row [2, 2, 2]) (.pt 1) = true := by kernel_rfl
set_option maxRecDepth 100000 in
theorem r4_19_6 : run (.known 4) (.row [2, 2, 2]) (.pt 2) = true := by kernel_rfl
set_option maxRecDepth 100000 in
theorem r4_19_7 : run (.known 4) (.row [2, 2, 2]) (.pt 3) = true := by kernel_rfl
set_option maxRecDepth 100000 in
theorem r4_19_8 : run (.known 4) (.row [2, 2, 2]) (.pt 4) = true := by kernel_rfl
set_option maxRecDepth 100000 in
theorem r4_19_9 : run (.known 4) (.row [2, 2, 2]) (.pt 5) = true := by kernel_rfl
theorem r4_19 : AllL (fun c => run (.known 4) (.row [2, 2, 2]) c = true) pclasses := ⟨r4_19_0, r4_19_1, r4_19_2, r4_19_3, r4_19_4, r4_19_5, r4_19_6, r4_19_7, r4_19_8, r4_19_9, trivial⟩
set_option maxRecDepth 100000 in
theorem r4_23_0 : run (.known 4) (.row [3, 1, 1, 1]) .nil = true := by kernel_rfl
set_option maxRecDepth 100000 in
theorem r4_23_1 : run (.known 4) (.row [3, 1, 1, 1]) .zero = true := by kernel_rfl
set_option maxRecDepth 100000 in
theorem r4_23_2 : run (.known 4) (.row [3, 1, 1, 1]) .no = true := by kernel_rfl
set_option maxRecDepth 100000 in
theorem r4_23_3 : run (.known 4) (.row [3, 1, 1, 1]) .long = true := by kernel_rfl
set_option maxRecDepth 100000 in
theorem r4_23_4 : run (.known 4) (.row [3, 1, 1, 1]) (.pt 0) = true := by kernel_rfl
set_option maxRecDepth 100000 in
theorem r4_23_5 : run (.known 4) (.row [3, 1, 1, 1]) (.pt 1) = true := by kernel_rfl
set_option maxRecDepth 100000 in
theorem r4_23_6 : run (.known 4) (.row [3, 1, 1, 1]) (.pt 2) = true := by kernel_rfl
set_option maxRecDepth 100000 in
theorem r4_23_7 : run (.known 4) (.row [3, 1, 1, 1]) (.pt 3) = true := by kernel_rfl
set_option maxRecDepth 100000 in
theorem r4_23_8 : run (.known 4) (.row [3, 1, 1, 1]) (.pt 4) = true := by kernel_rfl
set_option maxRecDepth 100000 in
theorem r4_23_9 : run (.known 4) (.row [3, 1, 1, 1]) (.pt 5) = true := by kernel_rfl
theorem r4_23 : AllL (fun c => run (.known 4) (.row [3, 1, 1, 1]) c = true) pclasses := ⟨r4_23_0, r4_23_1, r4_23_2, r4_23_3, r4_23_4, r4_23_5, r4_23_6, r4_23_7, r4_23_8, r4_23_9, trivial⟩
set_option maxRecDepth 100000 in
theorem r4_27_0 : run (.known 4) (.row [4]) .nil = true := by kernel_rfl
set_option maxRecDepth 100000 in
theorem r4_27_1 : run (.known 4) (.row [4]) .zero = true := by kernel_rfl
set_option maxRecDepth 100000 in
theorem r4_27_2 : run (.known 4) (.row [4]) .no = true := by kernel_rfl
set_option maxRecDepth 100000 in
theorem r4_27_3 : run (.known 4) (.row [4]) .long = true := by kernel_rfl
set_option maxRecDepth 100000 in
theorem r4_27_4 : run (.known 4) (.row [4]) (.pt 0) = true := by kernel_rfl
set_option maxRecDepth 100000 in
theorem r4_27_5 : run (.known 4) (.row [4]) (.pt 1) = true := by kernel_rfl
set_option maxRecDepth 100000 in
theorem r4_27_6 : run (.known 4) (.row [4]) (.pt 2) = true := by kernel_rfl
set_option maxRecDepth 100000 in
theorem r4_27_7 : run (.known 4) (.row [4]) (.pt 3) = true := by kernel_rfl
set_option maxRecDepth 100000 in
theorem r4_27_8 : run (.known 4) (.row [4]) (.pt 4) = true := by kernel_rfl
set_option maxRecDepth 100000 in
theorem r4_27_9 : run (.known 4) (.row [4]) (.pt 5) = true := by kernel_rfl
theorem r4_27 : AllL (fun c => run (.known 4) (.row [4]) c = true) pclasses := ⟨r4_27_0, r4_27_1, r4_27_2, r4_27_3, r4_27_4, r4_27_5, r4_27_6, r4_27_7, r4_27_8, r4_27_9, trivial⟩
set_option maxRecDepth 100000 in
theorem r4_31_0 : run (.known 4) (.row [5]) .nil = true := by kernel_rfl
set_option maxRecDepth 100000 in
theorem r4_31_1 : run (.known 4) (.row [5]) .zero = true := by kernel_rfl
set_option maxRecDepth 100000 in
theorem r4_31_2 : run (.known 4) (.row [5]) .no = true := by kernel_rfl
set_option maxRecDepth 100000 in
theorem r4_31_3 : run (.known 4) (.row [5]) .long = true := by kernel_rfl
set_option maxRecDepth 100000 in
theorem r4_31_4 : run (.known 4) (.row [5]) (.pt 0) = true := by kernel_rfl
set_option maxRecDepth 100000 in
theorem r4_31_5 : run (.known 4) (.row [5]) (.pt 1) = true := by kernel_rfl
set_option maxRecDepth 100000 in
theorem r4_31_6 : run (.known 4) (.row [5]) (.pt 2) = true := by kernel_rfl
set_option maxRecDepth 100000 in
theorem r4_31_7 : run (.known 4) (.row [5]) (.pt 3) = true := by kernel_rfl
set_option maxRecDepth 100000 in
theorem r4_31_8 : run (.known 4) (.row [5]) (.pt 4) = true := by kernel_rfl
set_option maxRecDepth 100000 in
theorem r4_31_9 : run (.known 4) (.row [5]) (.pt 5) = true := by kernel_rfl
theorem r4_31 : AllL (fun c => run (.known 4) (.row [5]) c = true) pclasses := ⟨r4_31_0, r4_31_1, r4_31_2, r4_31_3, r4_31_4, r4_31_5, r4_31_6, r4_31_7, r4_31_8, r4_31_9, trivial⟩
set_option maxRecDepth 100000 in
theorem r5_1_0 : run (.known 5) .zero .nil = true := by kernel_rfl
set_option maxRecDepth 100000 in
theorem r5_1_1 : run (.known 5) .zero .zero = true := by kernel_rfl
set_option maxRecDepth 100000 in
theorem r5_1_2 : run (.known 5) .zero .no = true := by kernel_rfl
set_option maxRecDepth 100000 in
theorem r5_1_3 : run (.known 5) .zero .long = true := by kernel_rfl
set_option maxRecDepth 100000 in
theorem r5_1_4 : run (.known 5) .zero (.pt 0) = true := by kernel_rfl
set_option maxRecDepth 100000 in
theorem r5_1_5 : run (.known 5) .zero (.pt 1) = true := by kernel_rfl
set_option maxRecDepth 100000 in
theorem r5_1_6 : run (.known 5) .zero (.pt 2) = true := by kernel_rfl
set_option maxRecDepth 100000 in
theorem r5_1_7 : run (.known 5) .zero (.pt 3) = true := by kernel_rfl
set_option maxRecDepth 100000 in
theorem r5_1_8 : run (.known 5) .zero (.pt 4) = true := by kernel_rfl
set_option maxRecDepth 100000 in
theorem r5_1_9 : run (.known 5) .zero (.pt 5) = true := by kernel_rfl
theorem r5_1 : AllL (fun c => run (.known 5) .zero c = true) pclasses := ⟨r5_1_0, r5_1_1, r5_1_2, r5_1_3, r5_1_4, r5_1_5, r5_1_6, r5_1_7, r5_1_8, r5_1_9, trivial⟩
set_option maxRecDepth 100000 in
theorem r5_5_0 : run (.known 5) (.row [1]) .nil = true := by kernel_rfl
set_option maxRecDepth 100000 in
theorem r5_5_1 : run (.known 5) (.row [1]) .zero = true := by kernel_rfl
set_option maxRecDepth 100000 in
theorem r5_5_2 : run (.known 5) (.row [1]) .no = true := by kernel_rfl
set_option maxRecDepth 100000 in
theorem r5_5_3 : run (.known 5) (.row [1]) .long = true := by kernel_rfl
set_option maxRecDepth 100000 in
theorem r5_5_4 : run (.known 5) (.row [1]) (.pt 0) = true := by kernel_rfl
set_option maxRecDepth 100000 in
theorem r5_5_5 : run (.known 5) (.row [1]) (.pt 1) = true := by kernel_rfl
set_option maxRecDepth 100000 in
theorem r5_5_6 : run (.known 5) (.row [1]) (.pt 2) = true := by kernel_rfl
set_option maxRecDepth 100000 in
theorem r5_5_7 : run (.known 5) (.row [1]) (.pt 3) = true := by kernel_rfl
set_option maxRecDepth 100000 in
theorem r5_5_8 : run (.known 5) (.row [1]) (.pt 4) = true := by kernel_rfl
set_option maxRecDepth 100000 in
theorem r5_5_9 : run (.known 5) (.row [1]) (.pt 5) = true := by kernel_rfl
theorem r5_5 : AllL (fun c => run (.known 5) (.row [1]) c = true) pclasses := ⟨r5_5_0, r5_5_1, r5_5_2, r5_5_3, r5_5_4, r5_5_5, r5_5_6, r5_5_7, r5_5_8, r5_5_9, trivial⟩
set_option maxRecDepth 100000 in
theorem r5_9_0 : run (.known 5) (.row [1, 1, 1, 1, 1]) .nil = true := by kernel_rfl
set_option maxRecDepth 100000 in
theorem r5_9_1 : run (.known 5) (.row [1, 1, 1, 1, 1]) .zero = true := by kernel_rfl
set_option maxRecDepth 100000 in
theorem r5_9_2 : run (.known 5) (.row [1, 1, 1, 1, 1]) .no = true := by kernel_rfl
set_option maxRecDepth 100000 in
theorem r5_9_3 : run (.known 5) (.row [1, 1, 1, 1, 1]) .long = true := by kernel_rfl
set_option maxRecDepth 100000 in
theorem r5_9_4 : run (.known 5) (.row [1, 1, 1, 1, 1]) (.pt 0) = true := by kernel_rfl
set_option maxRecDepth 100000 in
theorem r5_9_5 : run (.known 5) (.row [1, 1, 1, 1, 1]) (.pt 1) = true := by kernel_rfl
set_option maxRecDepth 100000 in
theorem r5_9_6 : run (.known 5) (.row [1, 1, 1, 1, 1]) (.pt 2) = true := by kernel_rfl
set_option maxRecDepth 100000 in
theorem r5_9_7 : run (.known 5) (.row [1, 1, 1, 1, 1]) (.pt 3) = true := by kernel_rfl
set_option maxRecDepth 100000 in
theorem r5_9_8 : run (.known 5) (.row [1, 1, 1, 1, 1]) (.pt 4) = true := by kernel_rfl
set_option maxRecDepth 100000 in
theorem r5_9_9 : run (.known 5) (.row [1, 1, 1, 1, 1]) (.pt 5) = true := by kernel_rfl
theorem r5_9 : AllL (fun c => run (.known 5) (.row [1, 1, 1, 1, 1]) c = true) pclasses := ⟨r5_9_0, r5_9_1, r5_9_2, r5_9_3, r5_9_4, r5_9_5, r5_9_6, r5_9_7, r5_9_8, r5_9_9, trivial⟩
set_option maxRecDepth 100000 in
theorem r5_13_0 : run (.known 5) (.row [2, 1, 1]) .nil = true := by kernel_rfl
set_option maxRecDepth 100000 in
theorem r5_13_1 : run (.known 5) (.row [2, 1, 1]) .zero = true := by kernel_rfl
set_option maxRecDepth 100000 in
theorem r5_13_2 : run (.known 5) (.row [2, 1, 1]) .no = true := by kernel_rfl
set_option maxRecDepth 100000 in
theorem r5_13_3 : run (.known 5) (.row [2, 1, 1]) .long = true := by kernel_rfl
set_option maxRecDepth 100000 in
theorem r5_13_4 : run (.known 5) (.row [2, 1, 1]) (.pt 0) = true := by kernel_rfl
set_option maxRecDepth 100000 in
theorem r5_13_5 : run (.known 5) (.row [2, 1, 1]) (.pt 1) = true := by kernel_rfl
set_option maxRecDepth 100000 in
theorem r5_13_6 : run (.known 5) (.row [2, 1, 1]) (.pt 2) = true := by kernel_rfl
set_option maxRecDepth 100000 in
theorem r5_13_7 : run (.known 5) (.row [2, 1, 1]) (.pt 3) = true := by kernel_rfl
set_option maxRecDepth 100000 in
theorem r5_13_8 : run (.known 5) (.row [2, 1, 1]) (.pt 4) = true := by kernel_rfl
set_option maxRecDepth 100000 in
theorem r5_13_9 : run (.known 5) (.row [2, 1, 1]) (.pt 5) = true := by kernel_rfl
theorem r5_13 : AllL (fun c => run (.known 5) (.row [2, 1, 1]) c = true) pclasses := ⟨r5_13_0, r5_13_1, r5_13_2, r5_13_3, r5_13_4, r5_13_5, r5_13_6, r5_13_7, r5_13_8, r5_13_9, trivial⟩
set_option maxRecDepth 100000 in
theorem r5_17_0 : run (.known 5) (.row [2, 2, 1]) .nil = true := by kernel_rfl
set_option maxRecDepth 100000 in
theorem r5_17_1 : run (.known 5) (.row [2, 2, 1]) .zero = true := by kernel_rfl
set_option maxRecDepth 100000 in
theorem r5_17_2 : run (.known 5) (.row [2, 2, 1]) .no = true := by kernel_rfl
set_option maxRecDepth 100000 in
theorem r5_17_3 : run (.known 5) (.row [2, 2, 1]) .long = true := by kernel_rfl
set_option maxRecDepth 100000 in
theorem r5_17_4 : run (.known 5) (.row [2, 2, 1]) (.pt 0) = true := by kernel_rfl
set_option maxRecDepth 100000 in
theorem r5_17_5 : run (.known 5) (.row [2, 2, 1]) (.pt 1) = true := by kernel_rfl
set_option maxRecDepth 100000 in
theorem r5_17_6 : run (.known 5) (.row [2, 2, 1]) (.pt 2) = true := by kernel_rfl
set_option maxRecDepth 100000 in
theorem r5_17_7 : run (.known 5) (.row [2, 2, 1]) (.pt 3) = true := by kernel_rfl
set_option maxRecDepth 100000 in
theorem r5_17_8 : run (.known 5) (.row [2, 2, 1]) (.pt 4) = true := by kernel_rfl
set_option maxRecDepth 100000 in
theorem r5_17_9 : run (.known 5) (.row [2, 2, 1]) (.pt 5) = true := by kernel_rfl
theorem r5_17 : AllL (fun c => run (.known 5) (.row [2, 2, 1]) c = true) pclasses := ⟨r5_17_0, r5_17_1, r5_17_2, r5_17_3, r5_17_4, r5_17_5, r5_17_6, r5_17_7, r5_17_8, r5_17_9, trivial⟩
set_option maxRecDepth 100000 in
theorem r5_21_0 : run (.known 5) (.row [3, 1]) .nil = true := by kernel_rfl
set_option maxRecDepth 100000 in
theorem r5_21_1 : run (.known 5) (.row [3, 1]) .zero = true := by kernel_rfl
set_option maxRecDepth 100000 in
theorem r5_21_2 : run (.known 5) (.row [3, 1]) .no = true := by kernel_rfl
set_option maxRecDepth 100000 in
theorem r5_21_3 : run (.known 5) (.row [3, 1]) .long = true := by kernel_rfl
set_option maxRecDepth 100000 in
theorem r5_21_4 : run (.known 5) (.row [3, 1]) (.pt 0) = true := by kernel_rfl
set_option maxRecDepth 100000 in
theorem r5_21_5 : run (.known 5) (.row [3, 1]) (.pt 1) = true := by kernel_rfl
set_option maxRecDepth 100000 in
theorem r5_21_6 : run (.known 5) (.row [3, 1]) (.pt 2) = true := by kernel_rfl
set_option maxRecDepth 100000 in
theorem r5_21_7 : run (.known 5) (.row [3, 1]) (.pt 3) = true := by kernel_rfl
set_option maxRecDepth 100000 in
theorem r5_21_8 : run (.known 5) (.row [3, 1]) (.pt 4) = true := by kernel_rfl
set_option maxRecDepth 100000 in
theorem r5_21_9 : run (.known 5) (.row [3, 1]) (.pt 5) = true := by kernel_rfl
theorem r5_21 : AllL (fun c => run (.known 5) (.row [3, 1]) c = true) pclasses := ⟨r5_21_0, r5_21_1, r5_21_2, r5_21_3, r5_21_4, r5_21_5, r5_21_6, r5_21_7, r5_21_8, r5_21_9, trivial⟩
set_option maxRecDepth 100000 in
theorem r5_25_0 : run (.known 5) (.row [3, 2, 1]) .nil = true := by kernel_rfl
set_option maxRecDepth 100000 in
theorem r5_25_1 : run (.known 5) (.row [3, 2, 1]) .zero = true := by kernel_rfl
set_option maxRecDepth 100000 in
theorem r5_25_2 : run (.known 5) (.row [3, 2, 1]) .no = true := by kernel_rfl
set_option maxRecDepth 100000 in
theorem r5_25_3 : run (.known 5) (.row [3, 2, 1]) .long = true := by kernel_rfl
set_option maxRecDepth 100000 in
theorem r5_25_4 : run (.known 5) (.row [3, 2, 1]) (.pt 0) = true := by kernel_rfl
set_option maxRecDepth 100000 in
theorem r5_25_5 : run (.known 5) (.row [3, 2, 1]) (.pt 1) = true := by kernel_rfl
set_option maxRecDepth 100000 in
theorem r5_25_6 : run (.known 5) (.row [3, 2, 1]) (.pt 2) = true := by kernel_rfl
set_option maxRecDepth 100000 in
theorem r5_25_7 : run (.known 5) (.row [3, 2, 1]) (.pt 3) = true := by kernel_rfl
set_option maxRecDepth 100000 in
theorem r5_25_8 : run (.known 5) (.row [3, 2, 1]) (.pt 4) = true := by kernel_rfl
set_option maxRecDepth 100000 in
theorem r5_25_9 : run (.known 5) (.row [3, 2, 1]) (.pt 5) = true := by kernel_rfl
theorem r5_25 : AllL (fun c => run (.known 5) (.row [3, 2, 1]) c = true) pclasses := ⟨r5_25_0, r5_25_1, r5_25_2, r5_25_3, r5_25_4, r5_25_5, r5_25_6, r5_25_7, r5_25_8, r5_25_9, trivial⟩
set_option maxRecDepth 100000 in
theorem r5_29_0 : run (.known 5) (.row [4, 1, 1]) .nil = true := by kernel_rfl
set_option maxRecDepth 100000 in
theorem r5_29_1 : run (.known 5) (.row [4, 1, 1]) .zero = true := by kernel_rfl
set_option maxRecDepth 100000 in
theorem r5_29_2 : run (.known 5) (.row [4, 1, 1]) .no = true := by kernel_rfl
set_option maxRecDepth 100000 in
theorem r5_29_3 : run (.known 5) (.row [4, 1, 1]) .long = true := by kernel_rfl
set_option maxRecDepth 100000 in
theorem r5_29_4 : run (.known 5) (.row [4, 1, 1]) (.pt 0) = true := by kernel_rfl
set_option maxRecDepth 100000 in
theorem r5_29_5 : run (.known 5) (.row [4, 1, 1]) (.pt 1) = true := by kernel_rfl
set_option maxRecDepth 100000 in
theorem r5_29_6 : run (.known 5) (.row [4, 1, 1]) (.pt 2) = true := by kernel_rfl
set_option maxRecDepth 100000 in
theorem r5_29_7 : run (.known 5) (.row [4, 1, 1]) (.pt 3) = true := by kernel_rfl
set_option maxRecDepth 100000 in
theorem r5_29_8 : run (.known 5) (.row [4, 1, 1]) (.pt 4) = true := by kernel_rfl
set_option maxRecDepth 100000 in
theorem r5_29_9 : run (.known 5) (.row [4, 1, 1]) (.pt 5) = true := by kernel_rfl
theorem r5_29 : AllL (fun c => run (.known 5) (.row [4, 1, 1]) c = true) pclasses := ⟨r5_29_0, r5_29_1, r5_29_2, r5_29_3, r5_29_4, r5_29_5, r5_29_6, r5_29_7, r5_29_8, r5_29_9, trivial⟩
set_option maxRecDepth 100000 in
theorem r5_33_0 : run (.known 5) (.row [6]) .nil = true := by kernel_rfl
set_option maxRecDepth 100000 in
theorem r5_33_1 : run (.known 5) (.row [6]) .zero = true := by kernel_rfl
set_option maxRecDepth 100000 in
theorem r5_33_2 : run (.known 5) (.row [6]) .no = true := by kernel_rfl
set_option maxRecDepth 100000 in
theorem r5_33_3 : run (.known 5) (.row [6]) .long = true := by kernel_rfl
set_option maxRecDepth 100000 in
theorem r5_33_4 : run (.known 5) (.row [6]) (.pt 0) = true := by kernel_rfl
set_option maxRecDepth 100000 in
theorem r5_33_5 : run (.known 5) (.row [6]) (.pt 1) = true := by kernel_rfl
set_option maxRecDepth 100000 in
theorem r5_33_6 : run (.known 5) (.row [6]) (.pt 2) = true := by kernel_rfl
set_option maxRecDepth 100000 in
theorem r5_33_7 : run (.known 5) (.row [6]) (.pt 3) = true := by kernel_rfl
set_option maxRecDepth 100000 in
theorem r5_33_8 : run (.known 5) (.row [6]) (.pt 4) = true := by kernel_rfl
set_option maxRecDepth 100000 in
theorem r5_33_9 : run (.known 5) (.row [6]) (.pt 5) = true := by kernel_rfl
theorem r5_33 : AllL (fun c => run (.known 5) (.row [6]) c = true) pclasses := ⟨r5_33_0, r5_33_1, r5_33_2, r5_33_3, r5_33_4, r5_33_5, r5_33_6, r5_33_7, r5_33_8, r5_33_9, trivial⟩
set_option maxRecDepth 100000 in
theorem r6_3_0 : run .other .long .nil = true := by kernel_rfl
set_option maxRecDepth 100000 in
theorem r6_3_1 : run .other .long .zero = true := by kernel_rfl
set_option maxRecDepth 100000 in
theorem r6_3_2 : run .other .long .no = true := by kernel_rfl
set_option maxRecDepth 100000 in
theorem r6_3_3 : run .other .long .long = true := by kernel_rfl
set_option maxRecDepth 100000 in
theorem r6_3_4 : run .other .long (.pt 0) = true := by kernel_rfl
set_option maxRecDepth 100000 in
theorem r6_3_5 : run .other .long (.pt 1) = true := by kernel_rfl
set_option maxRecDepth 100000 in
theorem r6_3_6 : run .other .long (.pt 2) = true := by kernel_rfl
set_option maxRecDepth 100000 in
theorem r6_3_7 : run .other .long (.pt 3) = true := by kernel_rfl
set_option maxRecDepth 100000 in
theorem r6_3_8 : run .other .long (.pt 4) = true := by kernel_rfl
set_option maxRecDepth 100000 in
theorem r6_3_9 : run .other .long (.pt 5) = true := by kernel_rfl
theorem r6_3 : AllL (fun c => run .other .long c = true) pclasses := ⟨r6_3_0, r6_3_1, r6_3_2, r6_3_3, r6_3_4, r6_3_5, r6_3_6, r6_3_7, r6_3_8, r6_3_9, trivial⟩
set_option maxRecDepth 100000 in
theorem r6_7_0 : run .other (.row [1, 1, 1]) .nil = true := by kernel_rfl
set_option maxRecDepth 100000 in
theorem r6_7_1 : run .other (.row [1, 1, 1]) .zero = true := by kernel_rfl
set_option maxRecDepth 100000 in
theorem r6_7_2 : run .other (.row [1, 1, 1]) .no = true := by kernel_rfl
set_option maxRecDepth 100000 in
theorem r6_7_3 : run .other (.row [1, 1, 1]) .long = true := by kernel_rfl
set_option maxRecDepth 100000 in
theorem r6_7_4 : run .other (.row [1, 1, 1]) (.pt 0) = true := by kernel_rfl
set_option maxRecDepth 100000 in
theorem r6_7_5 : run .other (.row [1, 1, 1]) (.pt 1) = true := by kernel_rfl
set_option maxRecDepth 100000 in
theorem r6_7_6 : run .other (.row [1, 1, 1]) (.pt 2) = true := by kernel_rfl
set_option maxRecDepth 100000 in
theorem r6_7_7 : run .other (.row [1, 1, 1]) (.pt 3) = true := by kernel_rfl
set_option maxRecDepth 100000 in
theorem r6_7_8 : run .other (.row [1, 1, 1]) (.pt 4) = true := by kernel_rfl
set_option maxRecDepth 100000 in
theorem r6_7_9 : run .other (.row [1, 1, 1]) (.pt 5) = true := by kernel_rfl
theorem r6_7 : AllL (fun c => run .other (.row [1, 1, 1]) c = true) pclasses := ⟨r6_7_0, r6_7_1, r6_7_2, r6_7_3, r6_7_4, r6_7_5, r6_7_6, r6_7_7, r6_7_8, r6_7_9, trivial⟩
set_option maxRecDepth 100000 in
theorem r6_11_0 : run .other (.row [2]) .nil = true := by kernel_rfl
set_option maxRecDepth 100000 in
theorem r6_11_1 : run .other (.row [2]) .zero = true := by kernel_rfl
set_option maxRecDepth 100000 in
theorem r6_11_2 : run .other (.row [2]) .no = true := by kernel_rfl
set_option maxRecDepth 100000 in
theorem r6_11_3 : run .other (.row [2]) .long = true := by kernel_rfl
set_option maxRecDepth 100000 in
theorem r6_11_4 : run .other (.row [2]) (.pt 0) = true := by kernel_rfl
set_option maxRecDepth 100000 in
theorem r6_11_5 : run .other (.row [2]) (.pt 1) = true := by kernel_rfl
set_option maxRecDepth 100000 in
theorem r6_11_6 : run .other (.row [2]) (.pt 2) = true := by kernel_rfl
set_option maxRecDepth 100000 in
theorem r6_11_7 : run .other (.row [2]) (.pt 3) = true := by kernel_rfl
set_option maxRecDepth 100000 in
theorem r6_11_8 : run .other (.row [2]) (.pt 4) = true := by kernel_rfl
set_option maxRecDepth 100000 in
theorem r6_11_9 : run .other (.row [2]) (.pt 5) = true := by kernel_rfl
theorem r6_11 : AllL (fun c => run .other (.row [2]) c = true) pclasses := ⟨r6_11_0, r6_11_1, r6_11_2, r6_11_3, r6_11_4, r6_11_5, r6_11_6, r6_11_7, r6_11_8, r6_11_9, trivial⟩
set_option maxRecDepth 100000 in
theorem r6_15_0 : run .other (.row [2, 1, 1, 1, 1]) .nil = true := by kernel_rfl
set_option maxRecDepth 100000 in
theorem r6_15_1 : run .other (.row [2, 1, 1, 1, 1]) .zero = true := by kernel_rfl
set_option maxRecDepth 100000 in
theorem r6_15_2 : run .other (.row [2, 1, 1, 1, 1]) .no = true := by kernel_rfl
set_option maxRecDepth 100000 in
theorem r6_15_3 : run .other (.row [2, 1, 1, 1, 1]) .long = true := by kernel_rfl
set_option maxRecDepth 100000 in
theorem r6_15_4 : run .other (.row [2, 1, 1, 1, 1]) (.pt 0) = true := by kernel_rfl
set_option maxRecDepth 100000 in
theorem r6_15_5 : run .other (.row [2, 1, 1, 1, 1]) (.pt 1) = true := by kernel_rfl
set_option maxRecDepth 100000 in
theorem r6_15_6 : run .other (.row [2, 1, 1, 1, 1]) (.pt 2) = true := by kernel_rfl
set_option maxRecDepth 100000 in
theorem r6_15_7 : run .other (.row [2, 1, 1, 1, 1]) (.pt 3) = true := by kernel_rfl
set_option maxRecDepth 100000 in
theorem r6_15_8 : run .other (.row [2, 1, 1, 1, 1]) (.pt 4) = true := by kernel_rfl
set_option maxRecDepth 100000 in
theorem r6_15_9 : run .other (.row [2, 1, 1, 1, 1]) (.pt 5) = true := by kernel_rfl
theorem r6_15 : AllL (fun c => run .other (.row [2, 1, 1, 1, 1]) c = true) pclasses := ⟨r6_15_0, r6_15_1, r6_15_2, r6_15_3, r6_15_4, r6_15_5, r6_15_6, r6_15_7, r6_15_8, r6_15_9, trivial⟩
set_option maxRecDepth 100000 in
theorem r6_19_0 : run .other (.row [2, 2, 2]) .nil = true := by kernel_rfl
set_option maxRecDepth 100000 in
theorem r6_19_1 : run .other (.row [2, 2, 2]) .zero = true := by kernel_rfl
set_option maxRecDepth 100000 in
theorem r6_19_2 : run .other (.row [2, 2, 2]) .no = true := by kernel_rfl
set_option maxRecDepth 100000 in
theorem r6_19_3 : run .other (.row [2, 2, 2]) .long = true := by kernel_rfl
set_option maxRecDepth 100000 in
theorem r6_19_4 : run .other (.row [2, 2, 2]) (.pt 0) = true := by kernel_rfl
set_option maxRecDepth 100000 in
theorem r6_19_5 : run .other (.row [2, 2, 2]) (.pt 1) = true := by kernel_rfl
set_option maxRecDepth 100000 in
theorem r6_19_6 : run .other (.row [2, 2, 2]) (.pt 2) = true := by kernel_rfl
set_option maxRecDepth 100000 in
theorem r6_19_7 : run .other (.row [2, 2, 2]) (.pt 3) = true := by kernel_rfl
set_option maxRecDepth 100000 in
theorem r6_19_8 : run .other (.row [2, 2, 2]) (.pt 4) = true := by kernel_rfl
set_option maxRecDepth 100000 in
theorem r6_19_9 : run .other (.row [2, 2, 2]) (.pt 5) = true := by kernel_rfl
theorem r6_19 : AllL (fun c => run .other (.row [2, 2, 2]) c = true) pclasses := ⟨r6_19_0, r6_19_1, r6_19_2, r6_19_3, r6_19_4, r6_19_5, r6_19_6, r6_19_7, r6_19_8, r6_19_9, trivial⟩
set_option maxRecDepth 100000 in
theorem r6_23_0 : run .other (.row [3, 1, 1, 1]) .nil = true := by kernel_rfl
set_option maxRecDepth 100000 in
theorem r6_23_1 : run .other (.row [3, 1, 1, 1]) .zero = true := by kernel_rfl
set_option maxRecDepth 100000 in
theorem r6_23_2 : run .other (.row [3, 1, 1, 1]) .no = true := by kernel_rfl
set_option maxRecDepth 100000 in
theorem r6_23_3 : run .other (.row [3, 1, 1, 1]) .long = true := by kernel_rfl
set_option maxRecDepth 100000 in
theorem r6_23_4 : run .other (.row [3, 1, 1, 1]) (.pt 0) = true := by kernel_rfl
set_option maxRecDepth 100000 in
theorem r6_23_5 : run .other (.row [3, 1, 1, 1]) (.pt 1) = true := by kernel_rfl
set_option maxRecDepth 100000 in
theorem r6_23_6 : run .other (.row [3, 1, 1, 1]) (.pt 2) = true := by kernel_rfl
set_option maxRecDepth 100000 in
theorem r6_23_7 : run .other (.row [3, 1, 1, 1]) (.pt 3) = true := by kernel_rfl
set_option maxRecDepth 100000 in
theorem r6_23_8 : run .other (.row [3, 1, 1, 1]) (.pt 4) = true := by kernel_rfl
set_option maxRecDepth 100000 in
theorem r6_23_9 : run .other (.row [3, 1, 1, 1]) (.pt 5) = true := by kernel_rfl
theorem r6_23 : AllL (fun c => run .other (.row [3, 1, 1, 1]) c = true) pclasses := ⟨r6_23_0, r6_23_1, r6_23_2, r6_23_3, r6_23_4, r6_23_5, r6_23_6, r6_23_7, r6_23_8, r6_23_9, trivial⟩
set_option maxRecDepth 100000 in
theorem r6_27_0 : run .other (.row [4]) .nil = true := by kernel_rfl
set_option maxRecDepth 100000 in
theorem r6_27_1 : run .other (.row [4]) .zero = true := by kernel_rfl
set_option maxRecDepth 100000 in
theorem r6_27_2 : run .other (.row [4]) .no = true := by kernel_rfl
set_option maxRecDepth 100000 in
theorem r6_27_3 : run .other (.row [4]) .long = true := by kernel_rfl
set_option maxRecDepth 100000 in
theorem r6_27_4 : run .other (.row [4]) (.pt 0) = true := by kernel_rfl
set_option maxRecDepth 100000 in
theorem r6_27_5 : run .other (.row [4]) (.pt 1) = true := by kernel_rfl
set_option maxRecDepth 100000 in
theorem r6_27_6 : run .other (.row [4]) (.pt 2) = true := by kernel_rfl
set_option maxRecDepth 100000 in
theorem r6_27_7 : run .other (.row [4]) (.pt 3) = true := by kernel_rfl
set_option maxRecDepth 100000 in
theorem r6_27_8 : run .other (.row [4]) (.pt 4) = true := by kernel_rfl
set_option maxRecDepth 100000 in
theorem r6_27_9 : run .other (.row [4]) (.pt 5) = true := by kernel_rfl
theorem r6_27 : AllL (fun c => run .other (.row [4]) c = true) pclasses := ⟨r6_27_0, r6_27_1, r6_27_2, r6_27_3, r6_27_4, r6_27_5, r6_27_6, r6_27_7, r6_27_8, r6_27_9, trivial⟩
set_option maxRecDepth 100000 in
theorem r6_31_0 : run .other (.row [5]) .nil = true := by kernel_rfl
set_option maxRecDepth 100000 in
theorem r6_31_1 : run .other (.row [5]) .zero = true := by kernel_rfl
set_option maxRecDepth 100000 in
theorem r6_31_2 : run .other (.row [5]) .no = true := by kernel_rfl
set_option maxRecDepth 100000 in
theorem r6_31_3 : run .other (.row [5]) .long = true := by kernel_rfl
set_option maxRecDepth 100000 in
theorem r6_31_4 : run .other (.row [5]) (.pt 0) = true := by kernel_rfl
set_option maxRecDepth 100000 in
theorem r6_31_5 : run .other (.row [5]) (.pt 1) = true := by kernel_rfl
set_option maxRecDepth 100000 in
theorem r6_31_6 : run .other (.row [5]) (.pt 2) = true := by kernel_rfl
set_option maxRecDepth 100000 in
theorem r6_31_7 : run .other (.row [5]) (.pt 3) = true := by kernel_rfl
set_option maxRecDepth 100000 in
theorem r6_31_8 : run .other (.row [5]) (.pt 4) = true := by kernel_rfl
set_option maxRecDepth 100000 in
theorem r6_31_9 : run .other (.row [5]) (.pt 5) = true := by kernel_rfl
theorem r6_31 : AllL (fun c => run .other (.row [5]) c = true) pclasses := ⟨r6_31_0, r6_31_1, r6_31_2, r6_31_3, r6_31_4, r6_31_5, r6_31_6, r6_31_7, r6_31_8, r6_31_9, trivial⟩
set_option maxRecDepth 100000 in
theorem r7_1_0 : run .long .zero .nil = true := by kernel_rfl
set_option maxRecDepth 100000 in
theorem r7_1_1 : run .long .zero .zero = true := by kernel_rfl
set_option maxRecDepth 100000 in
theorem r7_1_2 : run .long .zero .no = true := by kernel_rfl
set_option maxRecDepth 100000 in
theorem r7_1_3 : run .long .zero .long = true := by kernel_rfl
set_option maxRecDepth 100000 in
theorem r7_1_4 : run .long .zero (.pt 0) = true := by kernel_rfl
set_option maxRecDepth 100000 in
theorem r7_1_5 : run .long .zero (.pt 1) = true := by kernel_rfl
set_option maxRecDepth 100000 in
theorem r7_1_6 : run .long .zero (.pt 2) = true := by kernel_rfl
set_option maxRecDepth 100000 in
theorem r7_1_7 : run .long .zero (.pt 3) = true := by kernel_rfl
set_option maxRecDepth 100000 in
theorem r7_1_8 : run .long .zero (.pt 4) = true := by kernel_rfl
set_option maxRecDepth 100000 in
theorem r7_1_9 : run .long .zero (.pt 5) = true := by kernel_rfl
theorem r7_1 : AllL (fun c => run .long .zero c = true) pclasses := ⟨r7_1_0, r7_1_1, r7_1_2, r7_1_3, r7_1_4, r7_1_5, r7_1_6, r7_1_7, r7_1_8, r7_1_9, trivial⟩
set_option maxRecDepth 100000 in
theorem r7_5_0 : run .long (.row [1]) .nil = true := by kernel_rfl
set_option maxRecDepth 100000 in
theorem r7_5_1 : run .long (.row [1]) .zero = true := by kernel_rfl
set_option maxRecDepth 100000 in
theorem r7_5_2 : run .long (.row [1]) .no = true := by kernel_rfl
set_option maxRecDepth 100000 in
theorem r7_5_3 : run .long (.row [1]) .long = true := by kernel_rfl
set_option maxRecDepth 100000 in
theorem r7_5_4 : run .long (.row [1]) (.pt 0) = true := by kernel_rfl
set_option maxRecDepth 100000 in
theorem r7_5_5 : run .long (.row [1]) (.pt 1) = true := by kernel_rfl
set_option maxRecDepth 100000 in
theorem r7_5_6 : run .long (.row [1]) (.pt 2) = true := by kernel_rfl
set_option maxRecDepth 100000 in
theorem r7_5_7 : run .long (.row [1]) (.pt 3) = true := by kernel_rfl
set_option maxRecDepth 100000 in
theorem r7_5_8 : run .long (.row [1]) (.pt 4) = true := by kernel_rfl
set_option maxRecDepth 100000 in
theorem r7_5_9 : run .long (.row [1]) (.pt 5) = true := by kernel_rfl
theorem r7_5 : AllL (fun c => run .long (.row [1]) c = true) pclasses := ⟨r7_5_0, r7_5_1, r7_5_2, r7_5_3, r7_5_4, r7_5_5, r7_5_6, r7_5_7, r7_5_8, r7_5_9, trivial⟩
set_option maxRecDepth 100000 in
theorem r7_9_0 : run .long (.row [1, 1, 1, 1, 1]) .nil = true := by kernel_rfl
set_option maxRecDepth 100000 in
theorem r7_9_1 : run .long (.row [1, 1, 1, 1, 1]) .zero = true := by kernel_rfl
set_option maxRecDepth 100000 in
theorem r7_9_2 : run .long (.row [1, 1, 1, 1, 1]) .no = true := by kernel_rfl
set_option maxRecDepth 100000 in
theorem r7_9_3 : run .long (.row [1, 1, 1, 1, 1]) .long = true := by kernel_rfl
set_option maxRecDepth 100000 in
theorem r7_9_4 : run .long (.row [1, 1, 1, 1, 1]) (.pt 0) = true := by kernel_rfl
set_option maxRecDepth 100000 in
theorem r7_9_5 : run .long (.row [1, 1, 1, 1, 1]) (.pt 1) = true := by kernel_rfl
set_option maxRecDepth 100000 in
theorem r7_9_6 : run .long (.row [1, 1, 1, 1, 1]) (.pt 2) = true := by kernel_rfl
set_option maxRecDepth 100000 in
theorem r7_9_7 : run .long (.row [1, 1, 1, 1, 1]) (.pt 3) = true := by kernel_rfl
set_option maxRecDepth 100000 in
theorem r7_9_8 : run .long (.row [1, 1, 1, 1, 1]) (.pt 4) = true := by kernel_rfl
set_option maxRecDepth 100000 in
theorem r7_9_9 : run .long (.row [1, 1, 1, 1, 1]) (.pt 5) = true := by kernel_rfl
theorem r7_9 : AllL (fun c => run .long (.row [1, 1, 1, 1, 1]) c = true) pclasses := ⟨r7_9_0, r7_9_1, r7_9_2, r7_9_3, r7_9_4, r7_9_5, r7_9_6, r7_9_7, r7_9_8, r7_9_9, trivial⟩
set_option maxRecDepth 100000 in
theorem r7_13_0 : run .long (.row [2, 1, 1]) .nil = true := by kernel_rfl
set_option maxRecDepth 100000 in
theorem r7_13_1 : run .long (.row [2, 1, 1]) .zero = true := by kernel_rfl
set_option maxRecDepth 100000 in
theorem r7_13_2 : run .long (.row [2, 1, 1]) .no = true := by kernel_rfl
set_option maxRecDepth 100000 in
theorem r7_13_3 : run .long (.row [2, 1, 1]) .long = true := by kernel_rfl
set_option maxRecDepth 100000 in
theorem r7_13_4 : run .long (.row [2, 1, 1]) (.pt 0) = true := by kernel_rfl
set_option maxRecDepth 100000 in
theorem r7_13_5 : run .long (.row [2, 1, 1]) (.pt 1) = true := by kernel_rfl
set_option maxRecDepth 100000 in
theorem r7_13_6 : run .long (.row [2, 1, 1]) (.pt 2) = true := by kernel_rfl
set_option maxRecDepth 100000 in
theorem r7_13_7 : run .long (.row [2, 1, 1]) (.pt 3) = true := by kernel_rfl
set_option maxRecDepth 100000 in
theorem r7_13_8 : run .long (.row [2, 1, 1]) (.pt 4) = true := by kernel_rfl
set_option maxRecDepth 100000 in
theorem r7_13_9 : run .long (.row [2, 1, 1]) (.pt 5) = true := by kernel_rfl
theorem r7_13 : AllL (fun c => run .long (.row [2, 1, 1]) c = true) pclasses := ⟨r7_13_0, r7_13_1, r7_13_2, r7_13_3, r7_13_4, r7_13_5, r7_13_6, r7_13_7, r7_13_8, r7_13_9, trivial⟩
set_option maxRecDepth 100000 in
theorem r7_17_0 : run .long (.row [2, 2, 1]) .nil = true := by kernel_rfl
set_option maxRecDepth 100000 in
theorem r7_17_1 : run .long (.row [2, 2, 1]) .zero = true := by kernel_rfl
set_option maxRecDepth 100000 in
theorem r7_17_2 : run .long (.row [2, 2, 1]) .no = true := by kernel_rfl
set_option maxRecDepth 100000 in
theorem r7_17_3 : run .long (.row [2, 2, 1]) .long = true := by kernel_rfl
set_option maxRecDepth 100000 in
theorem r7_17_4 : run .long (.row [2, 2, 1]) (.pt 0) = true := by kernel_rfl
set_option maxRecDepth 100000 in
theorem r7_17_5 : run .long (.row [2, 2, 1]) (.pt 1) = true := by kernel_rfl
set_option maxRecDepth 100000 in
theorem r7_17_6 : run .long (.row [2, 2, 1]) (.pt 2) = true := by kernel_rfl
set_option maxRecDepth 100000 in
theorem r7_17_7 : run .long (.row [2, 2, 1]) (.pt 3) = true := by kernel_rfl
set_option maxRecDepth 100000 in
theorem r7_17_8 : run .long (.row [2, 2, 1]) (.pt 4) = true := by kernel_rfl
set_option maxRecDepth 100000 in
theorem r7_17_9 : run .long (.row [2, 2, 1]) (.pt 5) = true := by kernel_rfl
theorem r7_17 : AllL (fun c => run .long (.row [2, 2, 1]) c = true) pclasses := ⟨r7_17_0, r7_17_1, r7_17_2, r7_17_3, r7_17_4, r7_17_5, r7_17_6, r7_17_7, r7_17_8, r7_17_9, trivial⟩
set_option maxRecDepth 100000 in
theorem r7_21_0 : run .long (.row [3, 1]) .nil = true := by kernel_rfl
set_option maxRecDepth 100000 in
theorem r7_21_1 : run .long (.row [3, 1]) .zero = true := by kernel_rfl
set_option maxRecDepth 100000 in
theorem r7_21_2 : run .long (.row [3, 1]) .no = true := by kernel_rfl
set_option maxRecDepth 100000 in
theorem r7_21_3 : run .long (.row [3, 1]) .long = true := by kernel_rfl
set_option maxRecDepth 100000 in
theorem r7_21_4 : run .long (.row [3, 1]) (.pt 0) = true := by kernel_rfl
set_option maxRecDepth 100000 in
theorem r7_21_5 : run .long (.row [3, 1]) (.pt 1) = true := by kernel_rfl
set_option maxRecDepth 100000 in
theorem r7_21_6 : run .long (.row [3, 1]) (.pt 2) = true := by kernel_rfl
set_option maxRecDepth 100000 in
theorem r7_21_7 : run .long (.row [3, 1]) (.pt 3) = true := by kernel_rfl
set_option maxRecDepth 100000 in
theorem r7_21_8 : run .long (.row [3, 1]) (.pt 4) = true := by kernel_rfl
set_option maxRecDepth 100000 in
theorem r7_21_9 : run .long (.row [3, 1]) (.pt 5) = true := by kernel_rfl
theorem r7_21 : AllL (fun c => run .long (.row [3, 1]) c = true) pclasses := ⟨r7_21_0, r7_21_1, r7_21_2, r7_21_3, r7_21_4, r7_21_5, r7_21_6, r7_21_7, r7_21_8, r7_21_9, trivial⟩
set_option maxRecDepth 100000 in
theorem r7_25_0 : run .long (.row [3, 2, 1]) .nil = true := by kernel_rfl
set_option maxRecDepth 100000 in
theorem r7_25_1 : run .long (.row [3, 2, 1]) .zero = true := by kernel_rfl
set_option maxRecDepth 100000 in
theorem r7_25_2 : run .long (.row [3, 2, 1]) .no = true := by kernel_rfl
set_option maxRecDepth 100000 in
theorem r7_25_3 : run .long (.row [3, 2, 1]) .long = true := by kernel_rfl
set_option maxRecDepth 100000 in
theorem r7_25_4 : run .long (.row [3, 2, 1]) (.pt 0) = true := by kernel_rfl
set_option maxRecDepth 100000 in
theorem r7_25_5 : run .long (.row [3, 2, 1]) (.pt 1) = true := by kernel_rfl
set_option maxRecDepth 100000 in
theorem r7_25_6 : run .long (.row [3, 2, 1]) (.pt 2) = true := by kernel_rfl
set_option maxRecDepth 100000 in
theorem r7_25_7 : run .long (.row [3, 2, 1]) (.pt 3) = true := by kernel_rfl
set_option maxRecDepth 100000 in
theorem r7_25_8 : run .long (.row [3, 2, 1]) (.pt 4) = true := by kernel_rfl
set_option maxRecDepth 100000 in
theorem r7_25_9 : run .long (.row [3, 2, 1]) (.pt 5) = true := by kernel_rfl
theorem r7_25 : AllL (fun c => run .long (.row [3, 2, 1]) c = true) pclasses := ⟨r7_25_0, r7_25_1, r7_25_2, r7_25_3, r7_25_4, r7_25_5, r7_25_6, r7_25_7, r7_25_8, r7_25_9, trivial⟩
set_option maxRecDepth 100000 in
theorem r7_29_0 : run .long (.row [4, 1, 1]) .nil = true := by kernel_rfl
set_option maxRecDepth 100000 in
theorem r7_29_1 : run .long (.row [4, 1, 1]) .zero = true := by kernel_rfl
set_option maxRecDepth 100000 in
theorem r7_29_2 : run .long (.row [4, 1, 1]) .no = true := by kernel_rfl
set_option maxRecDepth 100000 in
theorem r7_29_3 : run .long (.row [4, 1, 1]) .long = true := by kernel_rfl
set_option maxRecDepth 100000 in
theorem r7_29_4 : run .long (.row [4, 1, 1]) (.pt 0) = true := by kernel_rfl
set_option maxRecDepth 100000 in
theorem r7_29_5 : run .long (.row [4, 1, 1]) (.pt 1) = true := by kernel_rfl
set_option maxRecDepth 100000 in
theorem r7_29_6 : run .long (.row [4, 1, 1]) (.pt 2) = true := by kernel_rfl
set_option maxRecDepth 100000 in
theorem r7_29_7 : run .long (.row [4, 1, 1]) (.pt 3) = true := by kernel_rfl
set_option maxRecDepth 100000 in
theorem r7_29_8 : run .long (.row [4, 1, 1]) (.pt 4) = true := by kernel_rfl
set_option maxRecDepth 100000 in
theorem r7_29_9 : run .long (.row [4, 1, 1]) (.pt 5) = true := by kernel_rfl
theorem r7_29 : AllL (fun c => run .long (.row [4, 1, 1]) c = true) pclasses := ⟨r7_29_0, r7_29_1, r7_29_2, r7_29_3, r7_29_4, r7_29_5, r7_29_6, r7_29_7, r7_29_8, r7_29_9, trivial⟩
set_option maxRecDepth 100000 in
theorem r7_33_0 : run .long (.row [6]) .nil = true := by kernel_rfl
set_option maxRecDepth 100000 in
theorem r7_33_1 : run .long (.row [6]) .zero = true := by kernel_rfl
set_option maxRecDepth 100000 in
theorem r7_33_2 : run .long (.row [6]) .no = true := by kernel_rfl
set_option maxRecDepth 100000 in
theorem r7_33_3 : run .long (.row [6]) .long = true := by kernel_rfl
set_option maxRecDepth 100000 in
theorem r7_33_4 : run .long (.row [6]) (.pt 0) = true := by kernel_rfl
set_option maxRecDepth 100000 in
theorem r7_33_5 : run .long (.row [6]) (.pt 1) = true := by kernel_rfl
set_option maxRecDepth 100000 in
theorem r7_33_6 : run .long (.row [6]) (.pt 2) = true := by kernel_rfl
set_option maxRecDepth 100000 in
theorem r7_33_7 : run .long (.row [6]) (.pt 3) = true := by kernel_rfl
set_option maxRecDepth 100000 in
theorem r7_33_8 : run .long (.row [6]) (.pt 4) = true := by kernel_rfl
set_option maxRecDepth 100000 in
theorem r7_33_9 : run .long (.row [6]) (.pt 5) = true := by kernel_rfl
theorem r7_33 : AllL (fun c => run .long (.row [6]) c = true) pclasses := ⟨r7_33_0, r7_33_1, r7_33_2, r7_33_3, r7_33_4, r7_33_5, r7_33_6, r7_33_7, r7_33_8, r7_33_9, trivial⟩
end Go.Proofs.Ythcdiaahpodkoae.fnExactAtShareRuns
