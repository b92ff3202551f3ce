/- The runs of FnExactSumOf. -/
import Derived.Test.YthcdiaahpodkoafFnExactSumOfP
namespace Go.Proofs.Ythcdiaahpodkoaf.fnExactSumOfRuns
open Go.Eng
set_option linter.unusedVariables false
set_option linter.unusedSectionVars false
set_option linter.unusedSimpArgs false
set_option maxRecDepth 100000 in
theorem r0_2 : run (.known 0) .no = true := by kernel_rfl
set_option maxRecDepth 100000 in
theorem r0_5 : run (.known 0) (.row [1]) = true := by kernel_rfl
set_option maxRecDepth 100000 in
theorem r0_8 : run (.known 0) (.row [1, 1, 1, 1]) = true := by kernel_rfl
set_option maxRecDepth 100000 in
theorem r0_11 : run (.known 0) (.row [2]) = true := by kernel_rfl
set_option maxRecDepth 100000 in
theorem r0_14 : run (.known 0) (.row [2, 1, 1, 1]) = true := by kernel_rfl
set_option maxRecDepth 100000 in
theorem r0_17 : run (.known 0) (.row [2, 2, 1]) = true := by kernel_rfl
set_option maxRecDepth 100000 in
theorem r0_20 : run (.known 0) (.row [3]) = true := by kernel_rfl
set_option maxRecDepth 100000 in
theorem r0_23 : run (.known 0) (.row [3, 1, 1, 1]) = true := by kernel_rfl
set_option maxRecDepth 100000 in
theorem r0_26 : run (.known 0) (.row [3, 3]) = true := by kernel_rfl
set_option maxRecDepth 100000 in
theorem r0_29 : run (.known 0) (.row [4, 1, 1]) = true := by kernel_rfl
set_option maxRecDepth 100000 in
theorem r0_32 : run (.known 0) (.row [5, 1]) = true := by kernel_rfl
set_option maxRecDepth 100000 in
theorem r1_1 : run (.known 1) .zero = true := by kernel_rfl
set_option maxRecDepth 100000 in
theorem r1_4 : run (.known 1) (.row []) = true := by kernel_rfl
set_option maxRecDepth 100000 in
theorem r1_7 : run (.known 1) (.row [1, 1, 1]) = true := by kernel_rfl
set_option maxRecDepth 100000 in
theorem r1_10 : run (.known 1) (.row [1, 1, 1, 1, 1, 1]) = true := by kernel_rfl
set_option maxRecDepth 100000 in
theorem r1_13 : run (.known 1) (.row [2, 1, 1]) = true := by kernel_rfl
set_option maxRecDepth 100000 in
theorem r1_16 : run (.known 1) (.row [2, 2]) = true := by kernel_rfl
set_option maxRecDepth 100000 in
theorem r1_19 : run (.known 1) (.row [2, 2, 2]) = true := by kernel_rfl
set_option maxRecDepth 100000 in
theorem r1_22 : run (.known 1) (.row [3, 1, 1]) = true := by kernel_rfl
set_option maxRecDepth 100000 in
theorem r1_25 : run (.known 1) (.row [3, 2, 1]) = true := by kernel_rfl
set_option maxRecDepth 100000 in
theorem r1_28 : run (.known 1) (.row [4, 1]) = true := by kernel_rfl
set_option maxRecDepth 100000 in
theorem r1_31 : run (.known 1) (.row [5]) = true := by kernel_rfl
set_option maxRecDepth 100000 in
theorem r2_0 : run (.known 2) .nil = true := by kernel_rfl
set_option maxRecDepth 100000 in
theorem r2_3 : run (.known 2) .long = true := by kernel_rfl
set_option maxRecDepth 100000 in
theorem r2_6 : run (.known 2) (.row [1, 1]) = true := by kernel_rfl
set_option maxRecDepth 100000 in
theorem r2_9 : run (.known 2) (.row [1, 1, 1, 1, 1]) = true := by kernel_rfl
set_option maxRecDepth 100000 in
theorem r2_12 : run (.known 2) (.row [2, 1]) = true := by kernel_rfl
set_option maxRecDepth 100000 in
theorem r2_15 : run (.known 2) (.row [2, 1, 1, 1, 1]) = true := by kernel_rfl
set_option maxRecDepth 100000 in
theorem r2_18 : run (.known 2) (.row [2, 2, 1, 1]) = true := by kernel_rfl
set_option maxRecDepth 100000 in
theorem r2_21 : run (.known 2) (.row [3, 1]) = true := by kernel_rfl
set_option maxRecDepth 100000 in
theorem r2_24 : run (.known 2) (.row [3, 2]) = true := by kernel_rfl
set_option maxRecDepth 100000 in
theorem r2_27 : run (.known 2) (.row [4]) = true := by kernel_rfl
set_option maxRecDepth 100000 in
theorem r2_30 : run (.known 2) (.row [4, 2]) = true := by kernel_rfl
set_option maxRecDepth 100000 in
theorem r2_33 : run (.known 2) (.row [6]) = true := by kernel_rfl
set_option maxRecDepth 100000 in
theorem r3_2 : run (.known 3) .no = true := by kernel_rfl
set_option maxRecDepth 100000 in
theorem r3_5 : run (.known 3) (.row [1]) = true := by kernel_rfl
set_option maxRecDepth 100000 in
theorem r3_8 : run (.known 3) (.row [1, 1, 1, 1]) = true := by kernel_rfl
set_option maxRecDepth 100000 in
theorem r3_11 : run (.known 3) (.row [2]) = true := by kernel_rfl
set_option maxRecDepth 100000 in
theorem r3_14 : run (.known 3) (.row [2, 1, 1, 1]) = true := by kernel_rfl
set_option maxRecDepth 100000 in
theorem r3_17 : run (.known 3) (.row [2, 2, 1]) = true := by kernel_rfl
set_option maxRecDepth 100000 in
theorem r3_20 : run (.known 3) (.row [3]) = true := by kernel_rfl
set_option maxRecDepth 100000 in
theorem r3_23 : run (.known 3) (.row [3, 1, 1, 1]) = true := by kernel_rfl
set_option maxRecDepth 100000 in
theorem r3_26 : run (.known 3) (.row [3, 3]) = true := by kernel_rfl
set_option maxRecDepth 100000 in
theorem r3_29 : run (.known 3) (.row [4, 1, 1]) = true := by kernel_rfl
set_option maxRecDepth 100000 in
theorem r3_32 : run (.known 3) (.row [5, 1]) = true := by kernel_rfl
set_option maxRecDepth 100000 in
theorem r4_1 : run (.known 4) .zero = true := by kernel_rfl
set_option maxRecDepth 100000 in
theorem r4_4 : run (.known 4) (.row []) = true := by kernel_rfl
set_option maxRecDepth 100000 in
theorem r4_7 : run (.known 4) (.row [1, 1, 1]) = true := by kernel_rfl
set_option maxRecDepth 100000 in
theorem r4_10 : run (.known 4) (.row [1, 1, 1, 1, 1, 1]) = true := by kernel_rfl
set_option maxRecDepth 100000 in
theorem r4_13 : run (.known 4) (.row [2, 1, 1]) = true := by kernel_rfl
set_option maxRecDepth 100000 in
theorem r4_16 : run (.known 4) (.row [2, 2]) = true := by kernel_rfl
set_option maxRecDepth 100000 in
theorem r4_19 : run (.known 4) (.row [2, 2, 2]) = true := by kernel_rfl
set_option maxRecDepth 100000 in
theorem r4_22 : run (.known 4) (.row [3, 1, 1]) = true := by kernel_rfl
set_option maxRecDepth 100000 in
theorem r4_25 : run (.known 4) (.row [3, 2, 1]) = true := by kernel_rfl
set_option maxRecDepth 100000 in
theorem r4_28 : run (.known 4) (.row [4, 1]) = true := by kernel_rfl
set_option maxRecDepth 100000 in
theorem r4_31 : run (.known 4) (.row [5]) = true := by kernel_rfl
set_option maxRecDepth 100000 in
theorem r5_0 : run (.known 5) .nil = true := by kernel_rfl
set_option maxRecDepth 100000 in
theorem r5_3 : run (.known 5) .long = true := by kernel_rfl
set_option maxRecDepth 100000 in
theorem r5_6 : run (.known 5) (.row [1, 1]) = true := by kernel_rfl
set_option maxRecDepth 100000 in
theorem r5_9 : run (.known 5) (.row [1, 1, 1, 1, 1]) = true := by kernel_rfl
set_option maxRecDepth 100000 in
theorem r5_12 : run (.known 5) (.row [2, 1]) = true := by kernel_rfl
set_option maxRecDepth 100000 in
theorem r5_15 : run (.known 5) (.row [2, 1, 1, 1, 1]) = true := by kernel_rfl
set_option maxRecDepth 100000 in
theorem r5_18 : run (.known 5) (.row [2, 2, 1, 1]) = true := by kernel_rfl
set_option maxRecDepth 100000 in
theorem r5_21 : run (.known 5) (.row [3, 1]) = true := by kernel_rfl
set_option maxRecDepth 100000 in
theorem r5_24 : run (.known 5) (.row [3, 2]) = true := by kernel_rfl
set_option maxRecDepth 100000 in
theorem r5_27 : run (.known 5) (.row [4]) = true := by kernel_rfl
set_option maxRecDepth 100000 in
theorem r5_30 : run (.known 5) (.row [4, 2]) = true := by kernel_rfl
set_option maxRecDepth 100000 in
theorem r5_33 : run (.known 5) (.row [6]) = true := by kernel_rfl
set_option maxRecDepth 100000 in
theorem r6_2 : run .other .no = true := by kernel_rfl
set_option maxRecDepth 100000 in
theorem r6_5 : run .other (.row [1]) = true := by kernel_rfl
set_option maxRecDepth 100000 in
theorem r6_8 : run .other (.row [1, 1, 1, 1]) = true := by kernel_rfl
set_option maxRecDepth 100000 in
theorem r6_11 : run .other (.row [2]) = true := by kernel_rfl
set_option maxRecDepth 100000 in
theorem r6_14 : run .other (.row [2, 1, 1, 1]) = true := by kernel_rfl
set_option maxRecDepth 100000 in
theorem r6_17 : run .other (.row [2, 2, 1]) = true := by kernel_rfl
set_option maxRecDepth 100000 in
theorem r6_20 : run .other (.row [3]) = true := by kernel_rfl
set_option maxRecDepth 100000 in
theorem r6_23 : run .other (.row [3, 1, 1, 1]) = true := by kernel_rfl
set_option maxRecDepth 100000 in
theorem r6_26 : run .other (.row [3, 3]) = true := by kernel_rfl
set_option maxRecDepth 100000 in
theorem r6_29 : run .other (.row [4, 1, 1]) = true := by kernel_rfl
set_option maxRecDepth 100000 in
theorem r6_32 : run .other (.row [5, 1]) = true := by kernel_rfl
set_option maxRecDepth 100000 in
theorem r7_1 : run .long .zero = true := by kernel_rfl
set_option maxRecDepth 100000 in
theorem r7_4 : run .long (.row []) = true := by kernel_rfl
set_option maxRecDepth 100000 in
theorem r7_7 : run .long (.row [1, 1, 1]) = true := by kernel_rfl
set_option maxRecDepth 100000 in
theorem r7_10 : run .long (.row [1, 1, 1, 1, 1, 1]) = true := by kernel_rfl
set_option maxRecDepth 100000 in
theorem r7_13 : run .long (.row [2, 1, 1]) = true := by kernel_rfl
set_option maxRecDepth 100000 in
theorem r7_16 : run .long (.row [2, 2]) = true := by kernel_rfl
set_option maxRecDepth 100000 in
theorem r7_19 : run .long (.row [2, 2, 2]) = true := by kernel_rfl
set_option maxRecDepth 100000 in
theorem r7_22 : run .long (.row [3, 1, 1]) = true := by kernel_rfl
set_option maxRecDepth 100000 in
theorem r7_25 : run .long (.row [3, 2, 1]) = true := by kernel_rfl
set_option maxRecDepth 100000 in
theorem r7_28 : run .long (.row [4, 1]) = true := by kernel_rfl
set_option maxRecDepth 100000 in
theorem r7_31 : run .long (.row [5]) = true := by kernel_rfl
end Go.Proofs.Ythcdiaahpodkoaf.fnExactSumOfRuns
