/- The runs of FnExactSumOf. -/
import Derived.Test.YthcdiaahpodkoafFnExactSumOfP
namespace Go.Proofs.Ythcdiaahpodkoaf.fnExactSumOfRuns
open Go.Eng
set_option linter.unusedVariables false
set_option linter.unusedSectionVars false
set_option linter.unusedSimpArgs false
set_option maxRecDepth 100000 in
theorem r0_1 : run (.known 0) .zero = true := by kernel_rfl
set_option maxRecDepth 100000 in
theorem r0_4 : run (.known 0) (.row []) = true := by kernel_rfl
set_option maxRecDepth 100000 in
theorem r0_7 : run (.known 0) (.row [1, 1, 1]) = true := by kernel_rfl
set_option maxRecDepth 100000 in
theorem r0_10 : run (.known 0) (.row [1, 1, 1, 1, 1, 1]) = true := by kernel_rfl
set_option maxRecDepth 100000 in
theorem r0_13 : run (.known 0) (.row [2, 1, 1]) = true := by kernel_rfl
set_option maxRecDepth 100000 in
theorem r0_16 : run (.known 0) (.row [2, 2]) = true := by kernel_rfl
set_option maxRecDepth 100000 in
theorem r0_19 : run (.known 0) (.row [2, 2, 2]) = true := by kernel_rfl
set_option maxRecDepth 100000 in
theorem r0_22 : run (.known 0) (.row [3, 1, 1]) = true := by kernel_rfl
set_option maxRecDepth 100000 in
theorem r0_25 : run (.known 0) (.row [3, 2, 1]) = true := by kernel_rfl
set_option maxRecDepth 100000 in
theorem r0_28 : run (.known 0) (.row [4, 1]) = true := by kernel_rfl
set_option maxRecDepth 100000 in
theorem r0_31 : run (.known 0) (.row [5]) = true := by kernel_rfl
set_option maxRecDepth 100000 in
theorem r1_0 : run (.known 1) .nil = true := by kernel_rfl
set_option maxRecDepth 100000 in
theorem r1_3 : run (.known 1) .long = true := by kernel_rfl
set_option maxRecDepth 100000 in
theorem r1_6 : run (.known 1) (.row [1, 1]) = true := by kernel_rfl
set_option maxRecDepth 100000 in
theorem r1_9 : run (.known 1) (.row [1, 1, 1, 1, 1]) = true := by kernel_rfl
set_option maxRecDepth 100000 in
theorem r1_12 : run (.known 1) (.row [2, 1]) = true := by kernel_rfl
set_option maxRecDepth 100000 in
theorem r1_15 : run (.known 1) (.row [2, 1, 1, 1, 1]) = true := by kernel_rfl
set_option maxRecDepth 100000 in
theorem r1_18 : run (.known 1) (.row [2, 2, 1, 1]) = true := by kernel_rfl
set_option maxRecDepth 100000 in
theorem r1_21 : run (.known 1) (.row [3, 1]) = true := by kernel_rfl
set_option maxRecDepth 100000 in
theorem r1_24 : run (.known 1) (.row [3, 2]) = true := by kernel_rfl
set_option maxRecDepth 100000 in
theorem r1_27 : run (.known 1) (.row [4]) = true := by kernel_rfl
set_option maxRecDepth 100000 in
theorem r1_30 : run (.known 1) (.row [4, 2]) = true := by kernel_rfl
set_option maxRecDepth 100000 in
theorem r1_33 : run (.known 1) (.row [6]) = true := by kernel_rfl
set_option maxRecDepth 100000 in
theorem r2_2 : run (.known 2) .no = true := by kernel_rfl
set_option maxRecDepth 100000 in
theorem r2_5 : run (.known 2) (.row [1]) = true := by kernel_rfl
set_option maxRecDepth 100000 in
theorem r2_8 : run (.known 2) (.row [1, 1, 1, 1]) = true := by kernel_rfl
set_option maxRecDepth 100000 in
theorem r2_11 : run (.known 2) (.row [2]) = true := by kernel_rfl
set_option maxRecDepth 100000 in
theorem r2_14 : run (.known 2) (.row [2, 1, 1, 1]) = true := by kernel_rfl
set_option maxRecDepth 100000 in
theorem r2_17 : run (.known 2) (.row [2, 2, 1]) = true := by kernel_rfl
set_option maxRecDepth 100000 in
theorem r2_20 : run (.known 2) (.row [3]) = true := by kernel_rfl
set_option maxRecDepth 100000 in
theorem r2_23 : run (.known 2) (.row [3, 1, 1, 1]) = true := by kernel_rfl
set_option maxRecDepth 100000 in
theorem r2_26 : run (.known 2) (.row [3, 3]) = true := by kernel_rfl
set_option maxRecDepth 100000 in
theorem r2_29 : run (.known 2) (.row [4, 1, 1]) = true := by kernel_rfl
set_option maxRecDepth 100000 in
theorem r2_32 : run (.known 2) (.row [5, 1]) = true := by kernel_rfl
set_option maxRecDepth 100000 in
theorem r3_1 : run (.known 3) .zero = true := by kernel_rfl
set_option maxRecDepth 100000 in
theorem r3_4 : run (.known 3) (.row []) = true := by kernel_rfl
set_option maxRecDepth 100000 in
theorem r3_7 : run (.known 3) (.row [1, 1, 1]) = true := by kernel_rfl
set_option maxRecDepth 100000 in
theorem r3_10 : run (.known 3) (.row [1, 1, 1, 1, 1, 1]) = true := by kernel_rfl
set_option maxRecDepth 100000 in
theorem r3_13 : run (.known 3) (.row [2, 1, 1]) = true := by kernel_rfl
set_option maxRecDepth 100000 in
theorem r3_16 : run (.known 3) (.row [2, 2]) = true := by kernel_rfl
set_option maxRecDepth 100000 in
theorem r3_19 : run (.known 3) (.row [2, 2, 2]) = true := by kernel_rfl
set_option maxRecDepth 100000 in
theorem r3_22 : run (.known 3) (.row [3, 1, 1]) = true := by kernel_rfl
set_option maxRecDepth 100000 in
theorem r3_25 : run (.known 3) (.row [3, 2, 1]) = true := by kernel_rfl
set_option maxRecDepth 100000 in
theorem r3_28 : run (.known 3) (.row [4, 1]) = true := by kernel_rfl
set_option maxRecDepth 100000 in
theorem r3_31 : run (.known 3) (.row [5]) = true := by kernel_rfl
set_option maxRecDepth 100000 in
theorem r4_0 : run (.known 4) .nil = true := by kernel_rfl
set_option maxRecDepth 100000 in
theorem r4_3 : run (.known 4) .long = true := by kernel_rfl
set_option maxRecDepth 100000 in
theorem r4_6 : run (.known 4) (.row [1, 1]) = true := by kernel_rfl
set_option maxRecDepth 100000 in
theorem r4_9 : run (.known 4) (.row [1, 1, 1, 1, 1]) = true := by kernel_rfl
set_option maxRecDepth 100000 in
theorem r4_12 : run (.known 4) (.row [2, 1]) = true := by kernel_rfl
set_option maxRecDepth 100000 in
theorem r4_15 : run (.known 4) (.row [2, 1, 1, 1, 1]) = true := by kernel_rfl
set_option maxRecDepth 100000 in
theorem r4_18 : run (.known 4) (.row [2, 2, 1, 1]) = true := by kernel_rfl
set_option maxRecDepth 100000 in
theorem r4_21 : run (.known 4) (.row [3, 1]) = true := by kernel_rfl
set_option maxRecDepth 100000 in
theorem r4_24 : run (.known 4) (.row [3, 2]) = true := by kernel_rfl
set_option maxRecDepth 100000 in
theorem r4_27 : run (.known 4) (.row [4]) = true := by kernel_rfl
set_option maxRecDepth 100000 in
theorem r4_30 : run (.known 4) (.row [4, 2]) = true := by kernel_rfl
set_option maxRecDepth 100000 in
theorem r4_33 : run (.known 4) (.row [6]) = true := by kernel_rfl
set_option maxRecDepth 100000 in
theorem r5_2 : run (.known 5) .no = true := by kernel_rfl
set_option maxRecDepth 100000 in
theorem r5_5 : run (.known 5) (.row [1]) = true := by kernel_rfl
set_option maxRecDepth 100000 in
theorem r5_8 : run (.known 5) (.row [1, 1, 1, 1]) = true := by kernel_rfl
set_option maxRecDepth 100000 in
theorem r5_11 : run (.known 5) (.row [2]) = true := by kernel_rfl
set_option maxRecDepth 100000 in
theorem r5_14 : run (.known 5) (.row [2, 1, 1, 1]) = true := by kernel_rfl
set_option maxRecDepth 100000 in
theorem r5_17 : run (.known 5) (.row [2, 2, 1]) = true := by kernel_rfl
set_option maxRecDepth 100000 in
theorem r5_20 : run (.known 5) (.row [3]) = true := by kernel_rfl
set_option maxRecDepth 100000 in
theorem r5_23 : run (.known 5) (.row [3, 1, 1, 1]) = true := by kernel_rfl
set_option maxRecDepth 100000 in
theorem r5_26 : run (.known 5) (.row [3, 3]) = true := by kernel_rfl
set_option maxRecDepth 100000 in
theorem r5_29 : run (.known 5) (.row [4, 1, 1]) = true := by kernel_rfl
set_option maxRecDepth 100000 in
theorem r5_32 : run (.known 5) (.row [5, 1]) = true := by kernel_rfl
set_option maxRecDepth 100000 in
theorem r6_1 : run .other .zero = true := by kernel_rfl
set_option maxRecDepth 100000 in
theorem r6_4 : run .other (.row []) = true := by kernel_rfl
set_option maxRecDepth 100000 in
theorem r6_7 : run .other (.row [1, 1, 1]) = true := by kernel_rfl
set_option maxRecDepth 100000 in
theorem r6_10 : run .other (.row [1, 1, 1, 1, 1, 1]) = true := by kernel_rfl
set_option maxRecDepth 100000 in
theorem r6_13 : run .other (.row [2, 1, 1]) = true := by kernel_rfl
set_option maxRecDepth 100000 in
theorem r6_16 : run .other (.row [2, 2]) = true := by kernel_rfl
set_option maxRecDepth 100000 in
theorem r6_19 : run .other (.row [2, 2, 2]) = true := by kernel_rfl
set_option maxRecDepth 100000 in
theorem r6_22 : run .other (.row [3, 1, 1]) = true := by kernel_rfl
set_option maxRecDepth 100000 in
theorem r6_25 : run .other (.row [3, 2, 1]) = true := by kernel_rfl
set_option maxRecDepth 100000 in
theorem r6_28 : run .other (.row [4, 1]) = true := by kernel_rfl
set_option maxRecDepth 100000 in
theorem r6_31 : run .other (.row [5]) = true := by kernel_rfl
set_option maxRecDepth 100000 in
theorem r7_0 : run .long .nil = true := by kernel_rfl
set_option maxRecDepth 100000 in
theorem r7_3 : run .long .long = true := by kernel_rfl
set_option maxRecDepth 100000 in
theorem r7_6 : run .long (.row [1, 1]) = true := by kernel_rfl
set_option maxRecDepth 100000 in
theorem r7_9 : run .long (.row [1, 1, 1, 1, 1]) = true := by kernel_rfl
set_option maxRecDepth 100000 in
theorem r7_12 : run .long (.row [2, 1]) = true := by kernel_rfl
set_option maxRecDepth 100000 in
theorem r7_15 : run .long (.row [2, 1, 1, 1, 1]) = true := by kernel_rfl
set_option maxRecDepth 100000 in
theorem r7_18 : run .long (.row [2, 2, 1, 1]) = true := by kernel_rfl
set_option maxRecDepth 100000 in
theorem r7_21 : run .long (.row [3, 1]) = true := by kernel_rfl
set_option maxRecDepth 100000 in
theorem r7_24 : run .long (.row [3, 2]) = true := by kernel_rfl
set_option maxRecDepth 100000 in
theorem r7_27 : run .long (.row [4]) = true := by kernel_rfl
set_option maxRecDepth 100000 in
theorem r7_30 : run .long (.row [4, 2]) = true := by kernel_rfl
set_option maxRecDepth 100000 in
theorem r7_33 : run .long (.row [6]) = true := by kernel_rfl
end Go.Proofs.Ythcdiaahpodkoaf.fnExactSumOfRuns
