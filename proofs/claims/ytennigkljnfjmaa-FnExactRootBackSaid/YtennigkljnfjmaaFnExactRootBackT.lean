/- Runs of the program at a seat. -/
import Derived.Test.YtennigkljnfjmaaFnExactRootBackR0
import Derived.Test.YtennigkljnfjmaaFnExactRootBackR1
namespace Go.Proofs.Ytennigkljnfjmaa.fnExactRootBackRuns
open Go Go.Eng
set_option linter.unusedVariables false
set_option linter.unusedSectionVars false
set_option linter.unusedSimpArgs false
set_option maxRecDepth 100000
theorem lcs_eq : lcs 5 = [.nil, .zero, .emp, .more, .long, (.ok 5), (.bad 5 4 false), (.bad 5 4 true), (.bad 5 3 false), (.bad 5 3 true), (.bad 5 2 false), (.bad 5 2 true), (.bad 5 1 false), (.bad 5 1 true), (.bad 5 0 false), (.bad 5 0 true), (.ok 4), (.bad 4 3 false), (.bad 4 3 true), (.bad 4 2 false), (.bad 4 2 true), (.bad 4 1 false), (.bad 4 1 true), (.bad 4 0 false), (.bad 4 0 true), (.ok 3), (.bad 3 2 false), (.bad 3 2 true), (.bad 3 1 false), (.bad 3 1 true), (.bad 3 0 false), (.bad 3 0 true), (.ok 2), (.bad 2 1 false), (.bad 2 1 true), (.bad 2 0 false), (.bad 2 0 true), (.ok 1), (.bad 1 0 false), (.bad 1 0 true)] := by kernel_rfl
theorem o0 : isOkC .nil = true ∨ FtOk (run .nil) := .inr p0
theorem o1 : isOkC .zero = true ∨ FtOk (run .zero) := .inr p1
theorem o2 : isOkC .emp = true ∨ FtOk (run .emp) := .inr p2
theorem o3 : isOkC .more = true ∨ FtOk (run .more) := .inr p3
theorem o4 : isOkC .long = true ∨ FtOk (run .long) := .inr p4
theorem o5 : isOkC (.ok 5) = true ∨ FtOk (run (.ok 5)) := .inl rfl
theorem o6 : isOkC (.bad 5 4 false) = true ∨ FtOk (run (.bad 5 4 false)) := .inr p6
theorem o7 : isOkC (.bad 5 4 true) = true ∨ FtOk (run (.bad 5 4 true)) := .inr p7
theorem o8 : isOkC (.bad 5 3 false) = true ∨ FtOk (run (.bad 5 3 false)) := .inr p8
theorem o9 : isOkC (.bad 5 3 true) = true ∨ FtOk (run (.bad 5 3 true)) := .inr p9
theorem o10 : isOkC (.bad 5 2 false) = true ∨ FtOk (run (.bad 5 2 false)) := .inr p10
theorem o11 : isOkC (.bad 5 2 true) = true ∨ FtOk (run (.bad 5 2 true)) := .inr p11
theorem o12 : isOkC (.bad 5 1 false) = true ∨ FtOk (run (.bad 5 1 false)) := .inr p12
theorem o13 : isOkC (.bad 5 1 true) = true ∨ FtOk (run (.bad 5 1 true)) := .inr p13
theorem o14 : isOkC (.bad 5 0 false) = true ∨ FtOk (run (.bad 5 0 false)) := .inr p14
theorem o15 : isOkC (.bad 5 0 true) = true ∨ FtOk (run (.bad 5 0 true)) := .inr p15
theorem o16 : isOkC (.ok 4) = true ∨ FtOk (run (.ok 4)) := .inl rfl
theorem o17 : isOkC (.bad 4 3 false) = true ∨ FtOk (run (.bad 4 3 false)) := .inr p17
theorem o18 : isOkC (.bad 4 3 true) = true ∨ FtOk (run (.bad 4 3 true)) := .inr p18
theorem o19 : isOkC (.bad 4 2 false) = true ∨ FtOk (run (.bad 4 2 false)) := .inr p19
theorem o20 : isOkC (.bad 4 2 true) = true ∨ FtOk (run (.bad 4 2 true)) := .inr p20
theorem o21 : isOkC (.bad 4 1 false) = true ∨ FtOk (run (.bad 4 1 false)) := .inr p21
theorem o22 : isOkC (.bad 4 1 true) = true ∨ FtOk (run (.bad 4 1 true)) := .inr p22
theorem o23 : isOkC (.bad 4 0 false) = true ∨ FtOk (run (.bad 4 0 false)) := .inr p23
theorem o24 : isOkC (.bad 4 0 true) = true ∨ FtOk (run (.bad 4 0 true)) := .inr p24
theorem o25 : isOkC (.ok 3) = true ∨ FtOk (run (.ok 3)) := .inl rfl
theorem o26 : isOkC (.bad 3 2 false) = true ∨ FtOk (run (.bad 3 2 false)) := .inr p26
theorem o27 : isOkC (.bad 3 2 true) = true ∨ FtOk (run (.bad 3 2 true)) := .inr p27
theorem o28 : isOkC (.bad 3 1 false) = true ∨ FtOk (run (.bad 3 1 false)) := .inr p28
theorem o29 : isOkC (.bad 3 1 true) = true ∨ FtOk (run (.bad 3 1 true)) := .inr p29
theorem o30 : isOkC (.bad 3 0 false) = true ∨ FtOk (run (.bad 3 0 false)) := .inr p30
theorem o31 : isOkC (.bad 3 0 true) = true ∨ FtOk (run (.bad 3 0 true)) := .inr p31
theorem o32 : isOkC (.ok 2) = true ∨ FtOk (run (.ok 2)) := .inl rfl
theorem o33 : isOkC (.bad 2 1 false) = true ∨ FtOk (run (.bad 2 1 false)) := .inr p33
theorem o34 : isOkC (.bad 2 1 true) = true ∨ FtOk (run (.bad 2 1 true)) := .inr p34
theorem o35 : isOkC (.bad 2 0 false) = true ∨ FtOk (run (.bad 2 0 false)) := .inr p35
theorem o36 : isOkC (.bad 2 0 true) = true ∨ FtOk (run (.bad 2 0 true)) := .inr p36
theorem o37 : isOkC (.ok 1) = true ∨ FtOk (run (.ok 1)) := .inl rfl
theorem o38 : isOkC (.bad 1 0 false) = true ∨ FtOk (run (.bad 1 0 false)) := .inr p38
theorem o39 : isOkC (.bad 1 0 true) = true ∨ FtOk (run (.bad 1 0 true)) := .inr p39
theorem rows : ∀ c ∈ lcs 5, isOkC c = true ∨ FtOk (run c) := by
  rw [lcs_eq]
  exact cm o0 (cm o1 (cm o2 (cm o3 (cm o4 (cm o5 (cm o6 (cm o7 (cm o8 (cm o9 (cm o10 (cm o11 (cm o12 (cm o13 (cm o14 (cm o15 (cm o16 (cm o17 (cm o18 (cm o19 (cm o20 (cm o21 (cm o22 (cm o23 (cm o24 (cm o25 (cm o26 (cm o27 (cm o28 (cm o29 (cm o30 (cm o31 (cm o32 (cm o33 (cm o34 (cm o35 (cm o36 (cm o37 (cm o38 (cm o39 (nm))))))))))))))))))))))))))))))))))))))))
theorem s1 : ∀ q ∈ pcs, FtOk (runB 1 q) := by
  unfold pcs
  exact cm q1_0 (cm q1_1 (cm q1_2 (cm q1_3 (cm q1_4 (nm)))))
theorem s2 : ∀ q ∈ pcs, FtOk (runB 2 q) := by
  unfold pcs
  exact cm q2_0 (cm q2_1 (cm q2_2 (cm q2_3 (cm q2_4 (nm)))))
theorem s3 : ∀ q ∈ pcs, FtOk (runB 3 q) := by
  unfold pcs
  exact cm q3_0 (cm q3_1 (cm q3_2 (cm q3_3 (cm q3_4 (nm)))))
theorem s4 : ∀ q ∈ pcs, FtOk (runB 4 q) := by
  unfold pcs
  exact cm q4_0 (cm q4_1 (cm q4_2 (cm q4_3 (cm q4_4 (nm)))))
theorem s5 : ∀ q ∈ pcs, FtOk (runB 5 q) := by
  unfold pcs
  exact cm q5_0 (cm q5_1 (cm q5_2 (cm q5_3 (cm q5_4 (nm)))))
theorem rowsB : ∀ n, 1 ≤ n → n ≤ 5 → ∀ q ∈ pcs, FtOk (runB n q) := fun n h1 h2 => by
  have h : n = 1 ∨ n = 2 ∨ n = 3 ∨ n = 4 ∨ n = 5 := by omega
  rcases h with rfl | rfl | rfl | rfl | rfl
  · exact s1
  · exact s2
  · exact s3
  · exact s4
  · exact s5
end Go.Proofs.Ytennigkljnfjmaa.fnExactRootBackRuns
