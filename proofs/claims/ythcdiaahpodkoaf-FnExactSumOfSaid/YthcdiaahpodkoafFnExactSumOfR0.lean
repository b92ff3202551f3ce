/- The runs of FnExactSumOf. -/
import Derived.Test.YthcdiaahpodkoafFnExactSumOfP
namespace Go.Proofs.Ythcdiaahpodkoaf.fnExactSumOfRuns
open Go.Eng
set_option linter.unusedVariables false
set_option linter.unusedSectionVars false
set_option linter.unusedSimpArgs false
set_option maxRecDepth 100000 in
theorem r0_0 : run (.known 0) .nil = true := by kernel_rfl
set_option maxRecDepth 100000 in
theorem r0_3 : run (.known 0) .long = true := by kernel_rfl
set_option maxRecDepth 100000 in
theorem r0_6 : run (.known 0) (.row [1, 1]) = true := by kernel_rfl
set_option maxRecDepth 100000 in
theorem r0_9 : run (.known 0) (.row [1, 1, 1, 1, 1]) = true := by kernel_rfl
set_option maxRecDepth 100000 in
theorem r0_12 : run (.known 0) (.row [2, 1]) = true := by kernel_rfl
set_option maxRecDepth 100000 in
theorem r0_15 : run (.known 0) (.row [2, 1, 1, 1, 1]) = true := by kernel_rfl
set_option maxRecDepth 100000 in
theorem r0_18 : run (.known 0) (.row [2, 2, 1, 1]) = true := by kernel_rfl
set_option maxRecDepth 100000 in
theorem r0_21 : run (.known 0) (.row [3, 1]) = true := by kernel_rfl
set_option maxRecDepth 100000 in
theorem r0_24 : run (.known 0) (.row [3, 2]) = true := by kernel_rfl
set_option maxRecDepth 100000 in
theorem r0_27 : run (.known 0) (.row [4]) = true := by kernel_rfl
set_option maxRecDepth 100000 in
theorem r0_30 : run (.known 0) (.row [4, 2]) = true := by kernel_rfl
set_option maxRecDepth 100000 in
theorem r0_33 : run (.known 0) (.row [6]) = true := by kernel_rfl
set_option maxRecDepth 100000 in
theorem r1_2 : run (.known 1) .no = true := by kernel_rfl
set_option maxRecDepth 100000 in
theorem r1_5 : run (.known 1) (.row [1]) = true := by kernel_rfl
set_option maxRecDepth 100000 in
theorem r1_8 : run (.known 1) (.row [1, 1, 1, 1]) = true := by kernel_rfl
set_option maxRecDepth 100000 in
theorem r1_11 : run (.known 1) (.row [2]) = true := by kernel_rfl
set_option maxRecDepth 100000 in
theorem r1_14 : run (.known 1) (.row [2, 1, 1, 1]) = true := by kernel_rfl
set_option maxRecDepth 100000 in
theorem r1_17 : run (.known 1) (.row [2, 2, 1]) = true := by kernel_rfl
set_option maxRecDepth 100000 in
theorem r1_20 : run (.known 1) (.row [3]) = true := by kernel_rfl
set_option maxRecDepth 100000 in
theorem r1_23 : run (.known 1) (.row [3, 1, 1, 1]) = true := by kernel_rfl
set_option maxRecDepth 100000 in
theorem r1_26 : run (.known 1) (.row [3, 3]) = true := by kernel_rfl
set_option maxRecDepth 100000 in
theorem r1_29 : run (.known 1) (.row [4, 1, 1]) = true := by kernel_rfl
set_option maxRecDepth 100000 in
theorem r1_32 : run (.known 1) (.row [5, 1]) = true := by kernel_rfl
set_option maxRecDepth 100000 in
theorem r2_1 : run (.known 2) .zero = true := by kernel_rfl
set_option maxRecDepth 100000 in
theorem r2_4 : run (.known 2) (.row []) = true := by kernel_rfl
set_option maxRecDepth 100000 in
theorem r2_7 : run (.known 2) (.row [1, 1, 1]) = true := by kernel_rfl
set_option maxRecDepth 100000 in
theorem r2_10 : run (.known 2) (.row [1, 1, 1, 1, 1, 1]) = true := by kernel_rfl
set_option maxRecDepth 100000 in
theorem r2_13 : run (.known 2) (.row [2, 1, 1]) = true := by kernel_rfl
set_option maxRecDepth 100000 in
theorem r2_16 : run (.known 2) (.row [2, 2]) = true := by kernel_rfl
set_option maxRecDepth 100000 in
theorem r2_19 : run (.known 2) (.row [2, 2, 2]) = true := by kernel_rfl
set_option maxRecDepth 100000 in
theorem r2_22 : run (.known 2) (.row [3, 1, 1]) = true := by kernel_rfl
set_option maxRecDepth 100000 in
theorem r2_25 : run (.known 2) (.row [3, 2, 1]) = true := by kernel_rfl
set_option maxRecDepth 100000 in
theorem r2_28 : run (.known 2) (.row [4, 1]) = true := by kernel_rfl
set_option maxRecDepth 100000 in
theorem r2_31 : run (.known 2) (.row [5]) = true := by kernel_rfl
set_option maxRecDepth 100000 in
theorem r3_0 : run (.known 3) .nil = true := by kernel_rfl
set_option maxRecDepth 100000 in
theorem r3_3 : run (.known 3) .long = true := by kernel_rfl
set_option maxRecDepth 100000 in
theorem r3_6 : run (.known 3) (.row [1, 1]) = true := by kernel_rfl
set_option maxRecDepth 100000 in
theorem r3_9 : run (.known 3) (.row [1, 1, 1, 1, 1]) = true := by kernel_rfl
set_option maxRecDepth 100000 in
theorem r3_12 : run (.known 3) (.row [2, 1]) = true := by kernel_rfl
set_option maxRecDepth 100000 in
theorem r3_15 : run (.known 3) (.row [2, 1, 1, 1, 1]) = true := by kernel_rfl
set_option maxRecDepth 100000 in
theorem r3_18 : run (.known 3) (.row [2, 2, 1, 1]) = true := by kernel_rfl
set_option maxRecDepth 100000 in
theorem r3_21 : run (.known 3) (.row [3, 1]) = true := by kernel_rfl
set_option maxRecDepth 100000 in
theorem r3_24 : run (.known 3) (.row [3, 2]) = true := by kernel_rfl
set_option maxRecDepth 100000 in
theorem r3_27 : run (.known 3) (.row [4]) = true := by kernel_rfl
set_option maxRecDepth 100000 in
theorem r3_30 : run (.known 3) (.row [4, 2]) = true := by kernel_rfl
set_option maxRecDepth 100000 in
theorem r3_33 : run (.known 3) (.row [6]) = true := by kernel_rfl
set_option maxRecDepth 100000 in
theorem r4_2 : run (.known 4) .no = true := by kernel_rfl
set_option maxRecDepth 100000 in
theorem r4_5 : run (.known 4) (.row [1]) = true := by kernel_rfl
set_option maxRecDepth 100000 in
theorem r4_8 : run (.known 4) (.row [1, 1, 1, 1]) = true := by kernel_rfl
set_option maxRecDepth 100000 in
theorem r4_11 : run (.known 4) (.row [2]) = true := by kernel_rfl
set_option maxRecDepth 100000 in
theorem r4_14 : run (.known 4) (.row [2, 1, 1, 1]) = true := by kernel_rfl
set_option maxRecDepth 100000 in
theorem r4_17 : run (.known 4) (.row [2, 2, 1]) = true := by kernel_rfl
set_option maxRecDepth 100000 in
theorem r4_20 : run (.known 4) (.row [3]) = true := by kernel_rfl
set_option maxRecDepth 100000 in
theorem r4_23 : run (.known 4) (.row [3, 1, 1, 1]) = true := by kernel_rfl
set_option maxRecDepth 100000 in
theorem r4_26 : run (.known 4) (.row [3, 3]) = true := by kernel_rfl
set_option maxRecDepth 100000 in
theorem r4_29 : run (.known 4) (.row [4, 1, 1]) = true := by kernel_rfl
set_option maxRecDepth 100000 in
theorem r4_32 : run (.known 4) (.row [5, 1]) = true := by kernel_rfl
set_option maxRecDepth 100000 in
theorem r5_1 : run (.known 5) .zero = true := by kernel_rfl
set_option maxRecDepth 100000 in
theorem r5_4 : run (.known 5) (.row []) = true := by kernel_rfl
set_option maxRecDepth 100000 in
theorem r5_7 : run (.known 5) (.row [1, 1, 1]) = true := by kernel_rfl
set_option maxRecDepth 100000 in
theorem r5_10 : run (.known 5) (.row [1, 1, 1, 1, 1, 1]) = true := by kernel_rfl
set_option maxRecDepth 100000 in
theorem r5_13 : run (.known 5) (.row [2, 1, 1]) = true := by kernel_rfl
set_option maxRecDepth 100000 in
theorem r5_16 : run (.known 5) (.row [2, 2]) = true := by kernel_rfl
set_option maxRecDepth 100000 in
theorem r5_19 : run (.known 5) (.row [2, 2, 2]) = true := by kernel_rfl
set_option maxRecDepth 100000 in
theorem r5_22 : run (.known 5) (.row [3, 1, 1]) = true := by kernel_rfl
set_option maxRecDepth 100000 in
theorem r5_25 : run (.known 5) (.row [3, 2, 1]) = true := by kernel_rfl
set_option maxRecDepth 100000 in
theorem r5_28 : run (.known 5) (.row [4, 1]) = true := by kernel_rfl
set_option maxRecDepth 100000 in
theorem r5_31 : run (.known 5) (.row [5]) = true := by kernel_rfl
set_option maxRecDepth 100000 in
theorem r6_0 : run .other .nil = true := by kernel_rfl
set_option maxRecDepth 100000 in
theorem r6_3 : run .other .long = true := by kernel_rfl
set_option maxRecDepth 100000 in
theorem r6_6 : run .other (.row [1, 1]) = true := by kernel_rfl
set_option maxRecDepth 100000 in
theorem r6_9 : run .other (.row [1, 1, 1, 1, 1]) = true := by kernel_rfl
set_option maxRecDepth 100000 in
theorem r6_12 : run .other (.row [2, 1]) = true := by kernel_rfl
set_option maxRecDepth 100000 in
theorem r6_15 : run .other (.row [2, 1, 1, 1, 1]) = true := by kernel_rfl
set_option maxRecDepth 100000 in
theorem r6_18 : run .other (.row [2, 2, 1, 1]) = true := by kernel_rfl
set_option maxRecDepth 100000 in
theorem r6_21 : run .other (.row [3, 1]) = true := by kernel_rfl
set_option maxRecDepth 100000 in
theorem r6_24 : run .other (.row [3, 2]) = true := by kernel_rfl
set_option maxRecDepth 100000 in
theorem r6_27 : run .other (.row [4]) = true := by kernel_rfl
set_option maxRecDepth 100000 in
theorem r6_30 : run .other (.row [4, 2]) = true := by kernel_rfl
set_option maxRecDepth 100000 in
theorem r6_33 : run .other (.row [6]) = true := by kernel_rfl
set_option maxRecDepth 100000 in
theorem r7_2 : run .long .no = true := by kernel_rfl
set_option maxRecDepth 100000 in
theorem r7_5 : run .long (.row [1]) = true := by kernel_rfl
set_option maxRecDepth 100000 in
theorem r7_8 : run .long (.row [1, 1, 1, 1]) = true := by kernel_rfl
set_option maxRecDepth 100000 in
theorem r7_11 : run .long (.row [2]) = true := by kernel_rfl
set_option maxRecDepth 100000 in
theorem r7_14 : run .long (.row [2, 1, 1, 1]) = true := by kernel_rfl
set_option maxRecDepth 100000 in
theorem r7_17 : run .long (.row [2, 2, 1]) = true := by kernel_rfl
set_option maxRecDepth 100000 in
theorem r7_20 : run .long (.row [3]) = true := by kernel_rfl
set_option maxRecDepth 100000 in
theorem r7_23 : run .long (.row [3, 1, 1, 1]) = true := by kernel_rfl
set_option maxRecDepth 100000 in
theorem r7_26 : run .long (.row [3, 3]) = true := by kernel_rfl
set_option maxRecDepth 100000 in
theorem r7_29 : run .long (.row [4, 1, 1]) = true := by kernel_rfl
set_option maxRecDepth 100000 in
theorem r7_32 : run .long (.row [5, 1]) = true := by kernel_rfl
end Go.Proofs.Ythcdiaahpodkoaf.fnExactSumOfRuns
