/- Runs of the program at a seat. -/
import Derived.Test.YtennigkljnfjmaaFnExactRootFromR0
import Derived.Test.YtennigkljnfjmaaFnExactRootFromR1
namespace Go.Proofs.Ytennigkljnfjmaa.fnExactRootFromRuns
open Go Go.Eng
set_option linter.unusedVariables false
set_option linter.unusedSectionVars false
set_option linter.unusedSimpArgs false
set_option maxRecDepth 100000
theorem lcs_eq : lcs 5 = [.nil, .zero, .emp, .more, .long, (.ok 5), (.bad 5 4 false), (.bad 5 4 true), (.bad 5 3 false), (.bad 5 3 true), (.bad 5 2 false), (.bad 5 2 true), (.bad 5 1 false), (.bad 5 1 true), (.bad 5 0 false), (.bad 5 0 true), (.ok 4), (.bad 4 3 false), (.bad 4 3 true), (.bad 4 2 false), (.bad 4 2 true), (.bad 4 1 false), (.bad 4 1 true), (.bad 4 0 false), (.bad 4 0 true), (.ok 3), (.bad 3 2 false), (.bad 3 2 true), (.bad 3 1 false), (.bad 3 1 true), (.bad 3 0 false), (.bad 3 0 true), (.ok 2), (.bad 2 1 false), (.bad 2 1 true), (.bad 2 0 false), (.bad 2 0 true), (.ok 1), (.bad 1 0 false), (.bad 1 0 true)] := by kernel_rfl
theorem o0 : isOkC .nil = true ∨ run .nil = true := .inr p0
theorem o1 : isOkC .zero = true ∨ run .zero = true := .inr p1
theorem o2 : isOkC .emp = true ∨ run .emp = true := .inr p2
theorem o3 : isOkC .more = true ∨ run .more = true := .inr p3
theorem o4 : isOkC .long = true ∨ run .long = true := .inr p4
theorem o5 : isOkC (.ok 5) = true ∨ run (.ok 5) = true := .inl rfl
theorem o6 : isOkC (.bad 5 4 false) = true ∨ run (.bad 5 4 false) = true := .inr p6
theorem o7 : isOkC (.bad 5 4 true) = true ∨ run (.bad 5 4 true) = true := .inr p7
theorem o8 : isOkC (.bad 5 3 false) = true ∨ run (.bad 5 3 false) = true := .inr p8
theorem o9 : isOkC (.bad 5 3 true) = true ∨ run (.bad 5 3 true) = true := .inr p9
theorem o10 : isOkC (.bad 5 2 false) = true ∨ run (.bad 5 2 false) = true := .inr p10
theorem o11 : isOkC (.bad 5 2 true) = true ∨ run (.bad 5 2 true) = true := .inr p11
theorem o12 : isOkC (.bad 5 1 false) = true ∨ run (.bad 5 1 false) = true := .inr p12
theorem o13 : isOkC (.bad 5 1 true) = true ∨ run (.bad 5 1 true) = true := .inr p13
theorem o14 : isOkC (.bad 5 0 false) = true ∨ run (.bad 5 0 false) = true := .inr p14
theorem o15 : isOkC (.bad 5 0 true) = true ∨ run (.bad 5 0 true) = true := .inr p15
theorem o16 : isOkC (.ok 4) = true ∨ run (.ok 4) = true := .inl rfl
theorem o17 : isOkC (.bad 4 3 false) = true ∨ run (.bad 4 3 false) = true := .inr p17
theorem o18 : isOkC (.bad 4 3 true) = true ∨ run (.bad 4 3 true) = true := .inr p18
theorem o19 : isOkC (.bad 4 2 false) = true ∨ run (.bad 4 2 false) = true := .inr p19
theorem o20 : isOkC (.bad 4 2 true) = true ∨ run (.bad 4 2 true) = true := .inr p20
theorem o21 : isOkC (.bad 4 1 false) = true ∨ run (.bad 4 1 false) = true := .inr p21
theorem o22 : isOkC (.bad 4 1 true) = true ∨ run (.bad 4 1 true) = true := .inr p22
theorem o23 : isOkC (.bad 4 0 false) = true ∨ run (.bad 4 0 false) = true := .inr p23
theorem o24 : isOkC (.bad 4 0 true) = true ∨ run (.bad 4 0 true) = true := .inr p24
theorem o25 : isOkC (.ok 3) = true ∨ run (.ok 3) = true := .inl rfl
theorem o26 : isOkC (.bad 3 2 false) = true ∨ run (.bad 3 2 false) = true := .inr p26
theorem o27 : isOkC (.bad 3 2 true) = true ∨ run (.bad 3 2 true) = true := .inr p27
theorem o28 : isOkC (.bad 3 1 false) = true ∨ run (.bad 3 1 false) = true := .inr p28
theorem o29 : isOkC (.bad 3 1 true) = true ∨ run (.bad 3 1 true) = true := .inr p29
theorem o30 : isOkC (.bad 3 0 false) = true ∨ run (.bad 3 0 false) = true := .inr p30
theorem o31 : isOkC (.bad 3 0 true) = true ∨ run (.bad 3 0 true) = true := .inr p31
theorem o32 : isOkC (.ok 2) = true ∨ run (.ok 2) = true := .inl rfl
theorem o33 : isOkC (.bad 2 1 false) = true ∨ run (.bad 2 1 false) = true := .inr p33
theorem o34 : isOkC (.bad 2 1 true) = true ∨ run (.bad 2 1 true) = true := .inr p34
theorem o35 : isOkC (.bad 2 0 false) = true ∨ run (.bad 2 0 false) = true := .inr p35
theorem o36 : isOkC (.bad 2 0 true) = true ∨ run (.bad 2 0 true) = true := .inr p36
theorem o37 : isOkC (.ok 1) = true ∨ run (.ok 1) = true := .inl rfl
theorem o38 : isOkC (.bad 1 0 false) = true ∨ run (.bad 1 0 false) = true := .inr p38
theorem o39 : isOkC (.bad 1 0 true) = true ∨ run (.bad 1 0 true) = true := .inr p39
theorem rows : ∀ c ∈ lcs 5, isOkC c = true ∨ run c = true := by
  rw [lcs_eq]
  exact cm o0 (cm o1 (cm o2 (cm o3 (cm o4 (cm o5 (cm o6 (cm o7 (cm o8 (cm o9 (cm o10 (cm o11 (cm o12 (cm o13 (cm o14 (cm o15 (cm o16 (cm o17 (cm o18 (cm o19 (cm o20 (cm o21 (cm o22 (cm o23 (cm o24 (cm o25 (cm o26 (cm o27 (cm o28 (cm o29 (cm o30 (cm o31 (cm o32 (cm o33 (cm o34 (cm o35 (cm o36 (cm o37 (cm o38 (cm o39 (nm))))))))))))))))))))))))))))))))))))))))
theorem e1 : qsAll 1 = [[2], [3], [1]] := by kernel_rfl
theorem s1 : ∀ qs ∈ qsAll 1, runN 1 1 0 qs = true := by
  rw [e1]
  exact cm q1_0 (cm q1_1 (cm q1_2 (nm)))
theorem e2 : qsAll 2 = [[2, 0], [3, 0], [1, 2], [1, 3], [1, 1]] := by kernel_rfl
theorem s2 : ∀ qs ∈ qsAll 2, runN 2 2 0 qs = true := by
  rw [e2]
  exact cm q2_0 (cm q2_1 (cm q2_2 (cm q2_3 (cm q2_4 (nm)))))
theorem e3 : qsAll 3 = [[2, 0, 0], [3, 0, 0], [1, 2, 0], [1, 3, 0], [1, 1, 2], [1, 1, 3], [1, 1, 1]] := by kernel_rfl
theorem s3 : ∀ qs ∈ qsAll 3, runN 3 3 0 qs = true := by
  rw [e3]
  exact cm q3_0 (cm q3_1 (cm q3_2 (cm q3_3 (cm q3_4 (cm q3_5 (cm q3_6 (nm)))))))
theorem e4 : qsAll 4 = [[2, 0, 0, 0], [3, 0, 0, 0], [1, 2, 0, 0], [1, 3, 0, 0], [1, 1, 2, 0], [1, 1, 3, 0], [1, 1, 1, 2], [1, 1, 1, 3], [1, 1, 1, 1]] := by kernel_rfl
theorem s4 : ∀ qs ∈ qsAll 4, runN 4 4 0 qs = true := by
  rw [e4]
  exact cm q4_0 (cm q4_1 (cm q4_2 (cm q4_3 (cm q4_4 (cm q4_5 (cm q4_6 (cm q4_7 (cm q4_8 (nm)))))))))
theorem e5 : qsAll 5 = [[2, 0, 0, 0, 0], [3, 0, 0, 0, 0], [1, 2, 0, 0, 0], [1, 3, 0, 0, 0], [1, 1, 2, 0, 0], [1, 1, 3, 0, 0], [1, 1, 1, 2, 0], [1, 1, 1, 3, 0], [1, 1, 1, 1, 2], [1, 1, 1, 1, 3], [1, 1, 1, 1, 1]] := by kernel_rfl
theorem s5 : ∀ qs ∈ qsAll 5, runN 5 5 0 qs = true := by
  rw [e5]
  exact cm q5_0 (cm q5_1 (cm q5_2 (cm q5_3 (cm q5_4 (cm q5_5 (cm q5_6 (cm q5_7 (cm q5_8 (cm q5_9 (cm q5_10 (nm)))))))))))
theorem rows2 : ∀ n, 1 ≤ n → n ≤ 5 → ∀ qs ∈ qsAll n, runN n n 0 qs = true := fun n h1 h2 => by
  have h : n = 1 ∨ n = 2 ∨ n = 3 ∨ n = 4 ∨ n = 5 := by omega
  rcases h with rfl | rfl | rfl | rfl | rfl
  · exact s1
  · exact s2
  · exact s3
  · exact s4
  · exact s5
theorem rows3 : ∀ n k r, 2 ≤ k → k ≤ n → n ≤ 5 → 1 ≤ r → r < k → ∀ q ∈ [4, 5], runN n k r (List.replicate (k - 1) 0 ++ [q]) = true := fun n k r h1 h2 h3 h4 h5 => by
  have h : n = 2 ∨ n = 3 ∨ n = 4 ∨ n = 5 := by omega
  rcases h with rfl | rfl | rfl | rfl
  · have h : k = 2 := by omega
    rcases h with rfl
    · have h : r = 1 := by omega
      rcases h with rfl
      · exact cm t2_2_1_4 (cm t2_2_1_5 (nm))
  · have h : k = 2 ∨ k = 3 := by omega
    rcases h with rfl | rfl
    · have h : r = 1 := by omega
      rcases h with rfl
      · exact cm t3_2_1_4 (cm t3_2_1_5 (nm))
    · have h : r = 1 ∨ r = 2 := by omega
      rcases h with rfl | rfl
      · exact cm t3_3_1_4 (cm t3_3_1_5 (nm))
      · exact cm t3_3_2_4 (cm t3_3_2_5 (nm))
  · have h : k = 2 ∨ k = 3 ∨ k = 4 := by omega
    rcases h with rfl | rfl | rfl
    · have h : r = 1 := by omega
      rcases h with rfl
      · exact cm t4_2_1_4 (cm t4_2_1_5 (nm))
    · have h : r = 1 ∨ r = 2 := by omega
      rcases h with rfl | rfl
      · exact cm t4_3_1_4 (cm t4_3_1_5 (nm))
      · exact cm t4_3_2_4 (cm t4_3_2_5 (nm))
    · have h : r = 1 ∨ r = 2 ∨ r = 3 := by omega
      rcases h with rfl | rfl | rfl
      · exact cm t4_4_1_4 (cm t4_4_1_5 (nm))
      · exact cm t4_4_2_4 (cm t4_4_2_5 (nm))
      · exact cm t4_4_3_4 (cm t4_4_3_5 (nm))
  · have h : k = 2 ∨ k = 3 ∨ k = 4 ∨ k = 5 := by omega
    rcases h with rfl | rfl | rfl | rfl
    · have h : r = 1 := by omega
      rcases h with rfl
      · exact cm t5_2_1_4 (cm t5_2_1_5 (nm))
    · have h : r = 1 ∨ r = 2 := by omega
      rcases h with rfl | rfl
      · exact cm t5_3_1_4 (cm t5_3_1_5 (nm))
      · exact cm t5_3_2_4 (cm t5_3_2_5 (nm))
    · have h : r = 1 ∨ r = 2 ∨ r = 3 := by omega
      rcases h with rfl | rfl | rfl
      · exact cm t5_4_1_4 (cm t5_4_1_5 (nm))
      · exact cm t5_4_2_4 (cm t5_4_2_5 (nm))
      · exact cm t5_4_3_4 (cm t5_4_3_5 (nm))
    · have h : r = 1 ∨ r = 2 ∨ r = 3 ∨ r = 4 := by omega
      rcases h with rfl | rfl | rfl | rfl
      · exact cm t5_5_1_4 (cm t5_5_1_5 (nm))
      · exact cm t5_5_2_4 (cm t5_5_2_5 (nm))
      · exact cm t5_5_3_4 (cm t5_5_3_5 (nm))
      · exact cm t5_5_4_4 (cm t5_5_4_5 (nm))
end Go.Proofs.Ytennigkljnfjmaa.fnExactRootFromRuns
