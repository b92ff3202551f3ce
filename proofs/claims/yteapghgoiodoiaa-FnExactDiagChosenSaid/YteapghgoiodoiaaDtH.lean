/- What is known of calls of the program at a seat. -/
import Derived.Test.YteapghgoiodoiaaEngXl
import Derived.Test.YteapghgoiodoiaaVaH
import Derived.Test.YteapghgoiodoiaaProg
namespace Go.Proofs.Yteapghgoiodoiaa.dt
open Go Go.Eng Go.Proofs.Yteapghgoiodoiaa.va
set_option linter.unusedVariables false
set_option linter.unusedSectionVars false
set_option linter.unusedSimpArgs false
set_option maxRecDepth 100000
@[reducible] noncomputable def hM : Nat := 18446744073709551615
noncomputable def allM (P : Program) (S : Sums) (l : List MemoM) : Bool := List.rec (motive := fun _ => Bool) true (fun e _ ih => sel (isM1 e.2.2.2 (runM P S 1000 60 e.1 e.2.1 e.2.2.1)) ih false) l
theorem allM_all {P : Program} {S : Sums} (hS : Always P S) : ∀ l, allM P S l = true → ∀ e ∈ l, ∀ E, MemoMK E P e
  | [], _ => fun e he => by cases he
  | x :: l, h => by
    have e0 : allM P S (x :: l) = sel (isM1 x.2.2.2 (runM P S 1000 60 x.1 x.2.1 x.2.2.1)) (allM P S l) false := rfl
    rw [e0] at h
    obtain ⟨h1, h2⟩ := sel_and h
    intro e he E
    rcases List.mem_cons.1 he with rfl | he
    · exact memoM_of hS h1 E
    · exact allM_all hS l h2 e he E
/-- what is known of calls on so many rows of such a length -/
noncomputable def rowsQ (m k : Nat) (H : Trie) (x : Nat) : Bool := sel (Nat.beq (sLen (payOf x)) m) (match rdRange H (Nat.pred (sBlk (payOf x))) (sOff (payOf x)) 1 with | .some c => Nat.beq (sLen (payOf (getW c 0))) k | .none => false) false
noncomputable def preQ (m k : Nat) (S : Sums) : Sums := fun g args H n => match args with | x :: l => sel (rowsQ m k H x) (S g (x :: l) H n) .no | [] => .no
theorem preQ_always {P : Program} {S : Sums} {m k : Nat} (hS : Always P S) : Always P (preQ m k S) := by
  intro E base H n ρ L w g args vs v H' n' cs c ha h
  cases args with
  | nil => cases h
  | cons x l =>
    have e : preQ m k S g (x :: l) H n = sel (rowsQ m k H x) (S g (x :: l) H n) .no := rfl
    rw [e, sel_eq] at h
    split at h
    · exact hS E base H n ρ L w g (x :: l) vs v H' n' cs c ha h
    · cases h
noncomputable def h1_1 : Nat := polyN [1]
noncomputable def e1_1 : Nat := polyN [1]
noncomputable def h1_2 : Nat := polyN [2]
noncomputable def h1_3 : Nat := polyN [3]
noncomputable def h1_4 : Nat := polyN [4]
noncomputable def h1_5 : Nat := polyN [5]
noncomputable def h1_6 : Nat := polyN [6]
noncomputable def h2_1 : Nat := polyN [1, 8]
noncomputable def e2_1 : Nat := polyN [1, 8]
noncomputable def h2_2 : Nat := polyN [2, 9, 16]
noncomputable def e2_2 : Nat := polyN [9]
noncomputable def h2_3 : Nat := polyN [3, 10, 17, 24]
noncomputable def h2_4 : Nat := polyN [4, 11, 18, 25, 32]
noncomputable def h2_5 : Nat := polyN [5, 12, 19, 26, 33, 40]
noncomputable def h2_6 : Nat := polyN [6, 13, 20, 27, 34, 41, 48]
noncomputable def h3_1 : Nat := polyN [1, 8, 64]
noncomputable def e3_1 : Nat := polyN [1, 8, 64]
noncomputable def h3_2 : Nat := polyN [2, 9, 16, 65, 72, 128]
noncomputable def e3_2 : Nat := polyN [9, 65, 72]
noncomputable def h3_3 : Nat := polyN [3, 10, 17, 24, 66, 73, 80, 129, 136, 192]
noncomputable def e3_3 : Nat := polyN [73]
noncomputable def h3_4 : Nat := polyN [4, 11, 18, 25, 32, 67, 74, 81, 88, 130, 137, 144, 193, 200, 256]
noncomputable def h3_5 : Nat := polyN [5, 12, 19, 26, 33, 40, 68, 75, 82, 89, 96, 131, 138, 145, 152, 194, 201, 208, 257, 264, 320]
noncomputable def h3_6 : Nat := polyN [6, 13, 20, 27, 34, 41, 48, 69, 76, 83, 90, 97, 104, 132, 139, 146, 153, 160, 195, 202, 209, 216, 258, 265, 272, 321, 328, 384]
noncomputable def h4_1 : Nat := polyN [1, 8, 64, 512]
noncomputable def e4_1 : Nat := polyN [1, 8, 64, 512]
noncomputable def h4_2 : Nat := polyN [2, 9, 16, 65, 72, 128, 513, 520, 576, 1024]
noncomputable def e4_2 : Nat := polyN [9, 65, 72, 513, 520, 576]
noncomputable def h4_3 : Nat := polyN [3, 10, 17, 24, 66, 73, 80, 129, 136, 192, 514, 521, 528, 577, 584, 640, 1025, 1032, 1088, 1536]
noncomputable def e4_3 : Nat := polyN [73, 521, 577, 584]
noncomputable def h4_4 : Nat := polyN [4, 11, 18, 25, 32, 67, 74, 81, 88, 130, 137, 144, 193, 200, 256, 515, 522, 529, 536, 578, 585, 592, 641, 648, 704, 1026, 1033, 1040, 1089, 1096, 1152, 1537, 1544, 1600, 2048]
noncomputable def e4_4 : Nat := polyN [585]
noncomputable def h4_5 : Nat := polyN [5, 12, 19, 26, 33, 40, 68, 75, 82, 89, 96, 131, 138, 145, 152, 194, 201, 208, 257, 264, 320, 516, 523, 530, 537, 544, 579, 586, 593, 600, 642, 649, 656, 705, 712, 768, 1027, 1034, 1041, 1048, 1090, 1097, 1104, 1153, 1160, 1216, 1538, 1545, 1552, 1601, 1608, 1664, 2049, 2056, 2112, 2560]
noncomputable def h4_6 : Nat := polyN [6, 13, 20, 27, 34, 41, 48, 69, 76, 83, 90, 97, 104, 132, 139, 146, 153, 160, 195, 202, 209, 216, 258, 265, 272, 321, 328, 384, 517, 524, 531, 538, 545, 552, 580, 587, 594, 601, 608, 643, 650, 657, 664, 706, 713, 720, 769, 776, 832, 1028, 1035, 1042, 1049, 1056, 1091, 1098, 1105, 1112, 1154, 1161, 1168, 1217, 1224, 1280, 1539, 1546, 1553, 1560, 1602, 1609, 1616, 1665, 1672, 1728, 2050, 2057, 2064, 2113, 2120, 2176, 2561, 2568, 2624, 3072]
noncomputable def h5_1 : Nat := polyN [1, 8, 64, 512, 4096]
noncomputable def e5_1 : Nat := polyN [1, 8, 64, 512, 4096]
noncomputable def h5_2 : Nat := polyN [2, 9, 16, 65, 72, 128, 513, 520, 576, 1024, 4097, 4104, 4160, 4608, 8192]
noncomputable def e5_2 : Nat := polyN [9, 65, 72, 513, 520, 576, 4097, 4104, 4160, 4608]
noncomputable def h5_3 : Nat := polyN [3, 10, 17, 24, 66, 73, 80, 129, 136, 192, 514, 521, 528, 577, 584, 640, 1025, 1032, 1088, 1536, 4098, 4105, 4112, 4161, 4168, 4224, 4609, 4616, 4672, 5120, 8193, 8200, 8256, 8704, 12288]
noncomputable def e5_3 : Nat := polyN [73, 521, 577, 584, 4105, 4161, 4168, 4609, 4616, 4672]
noncomputable def h5_4 : Nat := polyN [4, 11, 18, 25, 32, 67, 74, 81, 88, 130, 137, 144, 193, 200, 256, 515, 522, 529, 536, 578, 585, 592, 641, 648, 704, 1026, 1033, 1040, 1089, 1096, 1152, 1537, 1544, 1600, 2048, 4099, 4106, 4113, 4120, 4162, 4169, 4176, 4225, 4232, 4288, 4610, 4617, 4624, 4673, 4680, 4736, 5121, 5128, 5184, 5632, 8194, 8201, 8208, 8257, 8264, 8320, 8705, 8712, 8768, 9216, 12289, 12296, 12352, 12800, 16384]
noncomputable def e5_4 : Nat := polyN [585, 4169, 4617, 4673, 4680]
noncomputable def h5_5 : Nat := polyN [5, 12, 19, 26, 33, 40, 68, 75, 82, 89, 96, 131, 138, 145, 152, 194, 201, 208, 257, 264, 320, 516, 523, 530, 537, 544, 579, 586, 593, 600, 642, 649, 656, 705, 712, 768, 1027, 1034, 1041, 1048, 1090, 1097, 1104, 1153, 1160, 1216, 1538, 1545, 1552, 1601, 1608, 1664, 2049, 2056, 2112, 2560, 4100, 4107, 4114, 4121, 4128, 4163, 4170, 4177, 4184, 4226, 4233, 4240, 4289, 4296, 4352, 4611, 4618, 4625, 4632, 4674, 4681, 4688, 4737, 4744, 4800, 5122, 5129, 5136, 5185, 5192, 5248, 5633, 5640, 5696, 6144, 8195, 8202, 8209, 8216, 8258, 8265, 8272, 8321, 8328, 8384, 8706, 8713, 8720, 8769, 8776, 8832, 9217, 9224, 9280, 9728, 12290, 12297, 12304, 12353, 12360, 12416, 12801, 12808, 12864, 13312, 16385, 16392, 16448, 16896, 20480]
noncomputable def e5_5 : Nat := polyN [4681]
noncomputable def h5_6 : Nat := polyN [6, 13, 20, 27, 34, 41, 48, 69, 76, 83, 90, 97, 104, 132, 139, 146, 153, 160, 195, 202, 209, 216, 258, 265, 272, 321, 328, 384, 517, 524, 531, 538, 545, 552, 580, 587, 594, 601, 608, 643, 650, 657, 664, 706, 713, 720, 769, 776, 832, 1028, 1035, 1042, 1049, 1056, 1091, 1098, 1105, 1112, 1154, 1161, 1168, 1217, 1224, 1280, 1539, 1546, 1553, 1560, 1602, 1609, 1616, 1665, 1672, 1728, 2050, 2057, 2064, 2113, 2120, 2176, 2561, 2568, 2624, 3072, 4101, 4108, 4115, 4122, 4129, 4136, 4164, 4171, 4178, 4185, 4192, 4227, 4234, 4241, 4248, 4290, 4297, 4304, 4353, 4360, 4416, 4612, 4619, 4626, 4633, 4640, 4675, 4682, 4689, 4696, 4738, 4745, 4752, 4801, 4808, 4864, 5123, 5130, 5137, 5144, 5186, 5193, 5200, 5249, 5256, 5312, 5634, 5641, 5648, 5697, 5704, 5760, 6145, 6152, 6208, 6656, 8196, 8203, 8210, 8217, 8224, 8259, 8266, 8273, 8280, 8322, 8329, 8336, 8385, 8392, 8448, 8707, 8714, 8721, 8728, 8770, 8777, 8784, 8833, 8840, 8896, 9218, 9225, 9232, 9281, 9288, 9344, 9729, 9736, 9792, 10240, 12291, 12298, 12305, 12312, 12354, 12361, 12368, 12417, 12424, 12480, 12802, 12809, 12816, 12865, 12872, 12928, 13313, 13320, 13376, 13824, 16386, 16393, 16400, 16449, 16456, 16512, 16897, 16904, 16960, 17408, 20481, 20488, 20544, 20992, 24576]
end Go.Proofs.Yteapghgoiodoiaa.dt
