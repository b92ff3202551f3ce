/- Runs of the program at a seat. -/
import Derived.Test.YtennigkljnfjmaaFnExactRootShiftR0
import Derived.Test.YtennigkljnfjmaaFnExactRootShiftR1
import Derived.Test.YtennigkljnfjmaaFnExactRootShiftR2
import Derived.Test.YtennigkljnfjmaaFnExactRootShiftR3
namespace Go.Proofs.Ytennigkljnfjmaa.fnExactRootShiftRuns
open Go Go.Eng
set_option linter.unusedVariables false
set_option linter.unusedSectionVars false
set_option linter.unusedSimpArgs false
set_option maxRecDepth 100000
theorem lcs_eq : lcs 5 = [.nil, .zero, .emp, .more, .long, (.ok 5), (.bad 5 4 false), (.bad 5 4 true), (.bad 5 3 false), (.bad 5 3 true), (.bad 5 2 false), (.bad 5 2 true), (.bad 5 1 false), (.bad 5 1 true), (.bad 5 0 false), (.bad 5 0 true), (.ok 4), (.bad 4 3 false), (.bad 4 3 true), (.bad 4 2 false), (.bad 4 2 true), (.bad 4 1 false), (.bad 4 1 true), (.bad 4 0 false), (.bad 4 0 true), (.ok 3), (.bad 3 2 false), (.bad 3 2 true), (.bad 3 1 false), (.bad 3 1 true), (.bad 3 0 false), (.bad 3 0 true), (.ok 2), (.bad 2 1 false), (.bad 2 1 true), (.bad 2 0 false), (.bad 2 0 true), (.ok 1), (.bad 1 0 false), (.bad 1 0 true)] := by kernel_rfl
theorem g0 : ∀ y ∈ zcs (-9) 18, FtOk (run .nil y) := fun y hy => ⟨.leaf, gB_mem c0 y hy⟩
theorem g1 : ∀ y ∈ zcs (-9) 18, FtOk (run .zero y) := fun y hy => ⟨.leaf, gB_mem c1 y hy⟩
theorem g2 : ∀ y ∈ zcs (-9) 18, FtOk (run .emp y) := fun y hy => ⟨.leaf, gB_mem c2 y hy⟩
theorem g3 : ∀ y ∈ zcs (-9) 18, FtOk (run .more y) := fun y hy => ⟨.leaf, gB_mem c3 y hy⟩
theorem g4 : ∀ y ∈ zcs (-9) 18, FtOk (run .long y) := fun y hy => ⟨.leaf, gB_mem c4 y hy⟩
theorem g5 : ∀ y ∈ zcs (-9) 18, FtOk (run (.ok 5) y) := by
  rw [zcs_eq]
  exact cm o5_0 (cm o5_1 (cm o5_2 (cm o5_3 (cm o5_4 (cm o5_5 (cm o5_6 (cm o5_7 (cm o5_8 (cm o5_9 (cm o5_10 (cm o5_11 (cm o5_12 (cm o5_13 (cm o5_14 (cm o5_15 (cm o5_16 (cm o5_17 (cm o5_18 (cm o5_19 (cm o5_20 (nm)))))))))))))))))))))
theorem g6 : ∀ y ∈ zcs (-9) 18, FtOk (run (.bad 5 4 false) y) := fun y hy => ⟨.leaf, gB_mem c6 y hy⟩
theorem g7 : ∀ y ∈ zcs (-9) 18, FtOk (run (.bad 5 4 true) y) := fun y hy => ⟨.leaf, gB_mem c7 y hy⟩
theorem g8 : ∀ y ∈ zcs (-9) 18, FtOk (run (.bad 5 3 false) y) := fun y hy => ⟨.leaf, gB_mem c8 y hy⟩
theorem g9 : ∀ y ∈ zcs (-9) 18, FtOk (run (.bad 5 3 true) y) := fun y hy => ⟨.leaf, gB_mem c9 y hy⟩
theorem g10 : ∀ y ∈ zcs (-9) 18, FtOk (run (.bad 5 2 false) y) := fun y hy => ⟨.leaf, gB_mem c10 y hy⟩
theorem g11 : ∀ y ∈ zcs (-9) 18, FtOk (run (.bad 5 2 true) y) := fun y hy => ⟨.leaf, gB_mem c11 y hy⟩
theorem g12 : ∀ y ∈ zcs (-9) 18, FtOk (run (.bad 5 1 false) y) := fun y hy => ⟨.leaf, gB_mem c12 y hy⟩
theorem g13 : ∀ y ∈ zcs (-9) 18, FtOk (run (.bad 5 1 true) y) := fun y hy => ⟨.leaf, gB_mem c13 y hy⟩
theorem g14 : ∀ y ∈ zcs (-9) 18, FtOk (run (.bad 5 0 false) y) := fun y hy => ⟨.leaf, gB_mem c14 y hy⟩
theorem g15 : ∀ y ∈ zcs (-9) 18, FtOk (run (.bad 5 0 true) y) := fun y hy => ⟨.leaf, gB_mem c15 y hy⟩
theorem g16 : ∀ y ∈ zcs (-9) 18, FtOk (run (.ok 4) y) := by
  rw [zcs_eq]
  exact cm o16_0 (cm o16_1 (cm o16_2 (cm o16_3 (cm o16_4 (cm o16_5 (cm o16_6 (cm o16_7 (cm o16_8 (cm o16_9 (cm o16_10 (cm o16_11 (cm o16_12 (cm o16_13 (cm o16_14 (cm o16_15 (cm o16_16 (cm o16_17 (cm o16_18 (cm o16_19 (cm o16_20 (nm)))))))))))))))))))))
theorem g17 : ∀ y ∈ zcs (-9) 18, FtOk (run (.bad 4 3 false) y) := fun y hy => ⟨.leaf, gB_mem c17 y hy⟩
theorem g18 : ∀ y ∈ zcs (-9) 18, FtOk (run (.bad 4 3 true) y) := fun y hy => ⟨.leaf, gB_mem c18 y hy⟩
theorem g19 : ∀ y ∈ zcs (-9) 18, FtOk (run (.bad 4 2 false) y) := fun y hy => ⟨.leaf, gB_mem c19 y hy⟩
theorem g20 : ∀ y ∈ zcs (-9) 18, FtOk (run (.bad 4 2 true) y) := fun y hy => ⟨.leaf, gB_mem c20 y hy⟩
theorem g21 : ∀ y ∈ zcs (-9) 18, FtOk (run (.bad 4 1 false) y) := fun y hy => ⟨.leaf, gB_mem c21 y hy⟩
theorem g22 : ∀ y ∈ zcs (-9) 18, FtOk (run (.bad 4 1 true) y) := fun y hy => ⟨.leaf, gB_mem c22 y hy⟩
theorem g23 : ∀ y ∈ zcs (-9) 18, FtOk (run (.bad 4 0 false) y) := fun y hy => ⟨.leaf, gB_mem c23 y hy⟩
theorem g24 : ∀ y ∈ zcs (-9) 18, FtOk (run (.bad 4 0 true) y) := fun y hy => ⟨.leaf, gB_mem c24 y hy⟩
theorem g25 : ∀ y ∈ zcs (-9) 18, FtOk (run (.ok 3) y) := by
  rw [zcs_eq]
  exact cm o25_0 (cm o25_1 (cm o25_2 (cm o25_3 (cm o25_4 (cm o25_5 (cm o25_6 (cm o25_7 (cm o25_8 (cm o25_9 (cm o25_10 (cm o25_11 (cm o25_12 (cm o25_13 (cm o25_14 (cm o25_15 (cm o25_16 (cm o25_17 (cm o25_18 (cm o25_19 (cm o25_20 (nm)))))))))))))))))))))
theorem g26 : ∀ y ∈ zcs (-9) 18, FtOk (run (.bad 3 2 false) y) := fun y hy => ⟨.leaf, gB_mem c26 y hy⟩
theorem g27 : ∀ y ∈ zcs (-9) 18, FtOk (run (.bad 3 2 true) y) := fun y hy => ⟨.leaf, gB_mem c27 y hy⟩
theorem g28 : ∀ y ∈ zcs (-9) 18, FtOk (run (.bad 3 1 false) y) := fun y hy => ⟨.leaf, gB_mem c28 y hy⟩
theorem g29 : ∀ y ∈ zcs (-9) 18, FtOk (run (.bad 3 1 true) y) := fun y hy => ⟨.leaf, gB_mem c29 y hy⟩
theorem g30 : ∀ y ∈ zcs (-9) 18, FtOk (run (.bad 3 0 false) y) := fun y hy => ⟨.leaf, gB_mem c30 y hy⟩
theorem g31 : ∀ y ∈ zcs (-9) 18, FtOk (run (.bad 3 0 true) y) := fun y hy => ⟨.leaf, gB_mem c31 y hy⟩
theorem g32 : ∀ y ∈ zcs (-9) 18, FtOk (run (.ok 2) y) := by
  rw [zcs_eq]
  exact cm o32_0 (cm o32_1 (cm o32_2 (cm o32_3 (cm o32_4 (cm o32_5 (cm o32_6 (cm o32_7 (cm o32_8 (cm o32_9 (cm o32_10 (cm o32_11 (cm o32_12 (cm o32_13 (cm o32_14 (cm o32_15 (cm o32_16 (cm o32_17 (cm o32_18 (cm o32_19 (cm o32_20 (nm)))))))))))))))))))))
theorem g33 : ∀ y ∈ zcs (-9) 18, FtOk (run (.bad 2 1 false) y) := fun y hy => ⟨.leaf, gB_mem c33 y hy⟩
theorem g34 : ∀ y ∈ zcs (-9) 18, FtOk (run (.bad 2 1 true) y) := fun y hy => ⟨.leaf, gB_mem c34 y hy⟩
theorem g35 : ∀ y ∈ zcs (-9) 18, FtOk (run (.bad 2 0 false) y) := fun y hy => ⟨.leaf, gB_mem c35 y hy⟩
theorem g36 : ∀ y ∈ zcs (-9) 18, FtOk (run (.bad 2 0 true) y) := fun y hy => ⟨.leaf, gB_mem c36 y hy⟩
theorem g37 : ∀ y ∈ zcs (-9) 18, FtOk (run (.ok 1) y) := by
  rw [zcs_eq]
  exact cm o37_0 (cm o37_1 (cm o37_2 (cm o37_3 (cm o37_4 (cm o37_5 (cm o37_6 (cm o37_7 (cm o37_8 (cm o37_9 (cm o37_10 (cm o37_11 (cm o37_12 (cm o37_13 (cm o37_14 (cm o37_15 (cm o37_16 (cm o37_17 (cm o37_18 (cm o37_19 (cm o37_20 (nm)))))))))))))))))))))
theorem g38 : ∀ y ∈ zcs (-9) 18, FtOk (run (.bad 1 0 false) y) := fun y hy => ⟨.leaf, gB_mem c38 y hy⟩
theorem g39 : ∀ y ∈ zcs (-9) 18, FtOk (run (.bad 1 0 true) y) := fun y hy => ⟨.leaf, gB_mem c39 y hy⟩
theorem rows : ∀ c ∈ lcs 5, ∀ y ∈ zcs (-9) 18, FtOk (run c y) := by
  rw [lcs_eq]
  exact cm g0 (cm g1 (cm g2 (cm g3 (cm g4 (cm g5 (cm g6 (cm g7 (cm g8 (cm g9 (cm g10 (cm g11 (cm g12 (cm g13 (cm g14 (cm g15 (cm g16 (cm g17 (cm g18 (cm g19 (cm g20 (cm g21 (cm g22 (cm g23 (cm g24 (cm g25 (cm g26 (cm g27 (cm g28 (cm g29 (cm g30 (cm g31 (cm g32 (cm g33 (cm g34 (cm g35 (cm g36 (cm g37 (cm g38 (cm g39 (nm))))))))))))))))))))))))))))))))))))))))
end Go.Proofs.Ytennigkljnfjmaa.fnExactRootShiftRuns
