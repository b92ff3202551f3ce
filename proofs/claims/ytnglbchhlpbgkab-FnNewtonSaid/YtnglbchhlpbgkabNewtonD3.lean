/- Runs of the program at a seat. -/
import Derived.Test.YtnglbchhlpbgkabNewtonH
namespace Go.Proofs.Ytnglbchhlpbgkab.newtonDrawn
open Go Go.Eng
set_option linter.unusedVariables false
set_option linter.unusedSectionVars false
set_option linter.unusedSimpArgs false
set_option maxRecDepth 100000 in
theorem cn5_2_p9 : chkR (anyDrew false ls5) (fun tab => askIn false (dR tab)) (.of 4000) [(40984, 1, 23), (36888, 0, 0), (28732, 2, 59), (8199, 1008, 6), (12295, 1009, 6), (16391, 1010, 6), (20487, 1011, 6), (24583, 1012, 6), (4099, 2, 2), (6, 5, 5)] = true := by kernel_rfl
set_option maxRecDepth 100000 in
theorem cn5_2_p3 : chkR (anyDrew false ls5) (fun tab => askIn false (dR tab)) (.of 4000) [(40984, 1, 23), (36888, 1, 23), (28732, 0, 0), (8199, 1008, 6), (12295, 1009, 6), (16391, 1010, 6), (20487, 1011, 6), (24583, 1012, 6), (4099, 2, 2), (6, 5, 5)] = true := by kernel_rfl
set_option maxRecDepth 100000 in
theorem cn5_0_p10 : chkR (anyDrew false ls5) (fun tab => askIn false (dR tab)) (.of 4000) [(40984, 0, 0), (36888, 1, 23), (28732, 2, 59), (8195, 1008, 2), (12291, 1009, 2), (16387, 1010, 2), (20483, 1011, 2), (24579, 1012, 2), (4099, 0, 0), (6, 5, 5)] = true := by kernel_rfl
set_option maxRecDepth 100000 in
theorem cn5_2_p2 : chkR (anyDrew false ls5) (fun tab => askIn false (dR tab)) (.of 4000) [(40984, 0, 0), (36888, 1, 23), (28732, 0, 0), (8199, 1008, 6), (12295, 1009, 6), (16391, 1010, 6), (20487, 1011, 6), (24583, 1012, 6), (4099, 2, 2), (6, 5, 5)] = true := by kernel_rfl
set_option maxRecDepth 100000 in
theorem cn5_1_p1 : chkR (anyDrew false ls5) (fun tab => askIn false (dR tab)) (.of 4000) [(40984, 1, 23), (36888, 0, 0), (28732, 0, 0), (8197, 1008, 4), (12293, 1009, 4), (16389, 1010, 4), (20485, 1011, 4), (24581, 1012, 4), (4099, 1, 1), (6, 5, 5)] = true := by kernel_rfl
set_option maxRecDepth 100000 in
theorem cn5_0_p4 : chkR (anyDrew false ls5) (fun tab => askIn false (dR tab)) (.of 4000) [(40984, 0, 0), (36888, 0, 0), (28732, 1, 1), (8195, 1008, 2), (12291, 1009, 2), (16387, 1010, 2), (20483, 1011, 2), (24579, 1012, 2), (4099, 0, 0), (6, 5, 5)] = true := by kernel_rfl
set_option maxRecDepth 100000 in
theorem cn4_2_p9 : chkR (anyDrew false ls4) (fun tab => askIn false (dR tab)) (.of 4000) [(36888, 1, 23), (32792, 0, 0), (24636, 2, 59), (8199, 1008, 6), (12295, 1009, 6), (16391, 1010, 6), (20487, 1011, 6), (4099, 2, 2), (6, 4, 4)] = true := by kernel_rfl
set_option maxRecDepth 100000 in
theorem cn4_2_p3 : chkR (anyDrew false ls4) (fun tab => askIn false (dR tab)) (.of 4000) [(36888, 1, 23), (32792, 1, 23), (24636, 0, 0), (8199, 1008, 6), (12295, 1009, 6), (16391, 1010, 6), (20487, 1011, 6), (4099, 2, 2), (6, 4, 4)] = true := by kernel_rfl
set_option maxRecDepth 100000 in
theorem cn4_0_p10 : chkR (anyDrew false ls4) (fun tab => askIn false (dR tab)) (.of 4000) [(36888, 0, 0), (32792, 1, 23), (24636, 2, 59), (8195, 1008, 2), (12291, 1009, 2), (16387, 1010, 2), (20483, 1011, 2), (4099, 0, 0), (6, 4, 4)] = true := by kernel_rfl
set_option maxRecDepth 100000 in
theorem cn4_2_p2 : chkR (anyDrew false ls4) (fun tab => askIn false (dR tab)) (.of 4000) [(36888, 0, 0), (32792, 1, 23), (24636, 0, 0), (8199, 1008, 6), (12295, 1009, 6), (16391, 1010, 6), (20487, 1011, 6), (4099, 2, 2), (6, 4, 4)] = true := by kernel_rfl
set_option maxRecDepth 100000 in
theorem cn4_1_p1 : chkR (anyDrew false ls4) (fun tab => askIn false (dR tab)) (.of 4000) [(36888, 1, 23), (32792, 0, 0), (24636, 0, 0), (8197, 1008, 4), (12293, 1009, 4), (16389, 1010, 4), (20485, 1011, 4), (4099, 1, 1), (6, 4, 4)] = true := by kernel_rfl
set_option maxRecDepth 100000 in
theorem cn4_0_p4 : chkR (anyDrew false ls4) (fun tab => askIn false (dR tab)) (.of 4000) [(36888, 0, 0), (32792, 0, 0), (24636, 1, 1), (8195, 1008, 2), (12291, 1009, 2), (16387, 1010, 2), (20483, 1011, 2), (4099, 0, 0), (6, 4, 4)] = true := by kernel_rfl
set_option maxRecDepth 100000 in
theorem cn3_2_p9 : chkR (anyDrew false ls3) (fun tab => askIn false (dR tab)) (.of 4000) [(32792, 1, 23), (28696, 0, 0), (20540, 2, 59), (8199, 1008, 6), (12295, 1009, 6), (16391, 1010, 6), (4099, 2, 2), (6, 3, 3)] = true := by kernel_rfl
set_option maxRecDepth 100000 in
theorem cn3_2_p3 : chkR (anyDrew false ls3) (fun tab => askIn false (dR tab)) (.of 4000) [(32792, 1, 23), (28696, 1, 23), (20540, 0, 0), (8199, 1008, 6), (12295, 1009, 6), (16391, 1010, 6), (4099, 2, 2), (6, 3, 3)] = true := by kernel_rfl
set_option maxRecDepth 100000 in
theorem cn3_0_p10 : chkR (anyDrew false ls3) (fun tab => askIn false (dR tab)) (.of 4000) [(32792, 0, 0), (28696, 1, 23), (20540, 2, 59), (8195, 1008, 2), (12291, 1009, 2), (16387, 1010, 2), (4099, 0, 0), (6, 3, 3)] = true := by kernel_rfl
set_option maxRecDepth 100000 in
theorem cn3_2_p2 : chkR (anyDrew false ls3) (fun tab => askIn false (dR tab)) (.of 4000) [(32792, 0, 0), (28696, 1, 23), (20540, 0, 0), (8199, 1008, 6), (12295, 1009, 6), (16391, 1010, 6), (4099, 2, 2), (6, 3, 3)] = true := by kernel_rfl
set_option maxRecDepth 100000 in
theorem cn3_1_p1 : chkR (anyDrew false ls3) (fun tab => askIn false (dR tab)) (.of 4000) [(32792, 1, 23), (28696, 0, 0), (20540, 0, 0), (8197, 1008, 4), (12293, 1009, 4), (16389, 1010, 4), (4099, 1, 1), (6, 3, 3)] = true := by kernel_rfl
set_option maxRecDepth 100000 in
theorem cn3_0_p4 : chkR (anyDrew false ls3) (fun tab => askIn false (dR tab)) (.of 4000) [(32792, 0, 0), (28696, 0, 0), (20540, 1, 1), (8195, 1008, 2), (12291, 1009, 2), (16387, 1010, 2), (4099, 0, 0), (6, 3, 3)] = true := by kernel_rfl
set_option maxRecDepth 100000 in
theorem cn2_2_p9 : chkR (anyDrew false ls2) (fun tab => askIn false (dR tab)) (.of 4000) [(28696, 1, 23), (24600, 0, 0), (16444, 2, 59), (8199, 1008, 6), (12295, 1009, 6), (4099, 2, 2), (6, 2, 2)] = true := by kernel_rfl
set_option maxRecDepth 100000 in
theorem cn2_2_p3 : chkR (anyDrew false ls2) (fun tab => askIn false (dR tab)) (.of 4000) [(28696, 1, 23), (24600, 1, 23), (16444, 0, 0), (8199, 1008, 6), (12295, 1009, 6), (4099, 2, 2), (6, 2, 2)] = true := by kernel_rfl
set_option maxRecDepth 100000 in
theorem cn2_0_p10 : chkR (anyDrew false ls2) (fun tab => askIn false (dR tab)) (.of 4000) [(28696, 0, 0), (24600, 1, 23), (16444, 2, 59), (8195, 1008, 2), (12291, 1009, 2), (4099, 0, 0), (6, 2, 2)] = true := by kernel_rfl
set_option maxRecDepth 100000 in
theorem cn2_2_p2 : chkR (anyDrew false ls2) (fun tab => askIn false (dR tab)) (.of 4000) [(28696, 0, 0), (24600, 1, 23), (16444, 0, 0), (8199, 1008, 6), (12295, 1009, 6), (4099, 2, 2), (6, 2, 2)] = true := by kernel_rfl
set_option maxRecDepth 100000 in
theorem cn2_1_p1 : chkR (anyDrew false ls2) (fun tab => askIn false (dR tab)) (.of 4000) [(28696, 1, 23), (24600, 0, 0), (16444, 0, 0), (8197, 1008, 4), (12293, 1009, 4), (4099, 1, 1), (6, 2, 2)] = true := by kernel_rfl
set_option maxRecDepth 100000 in
theorem cn2_0_p4 : chkR (anyDrew false ls2) (fun tab => askIn false (dR tab)) (.of 4000) [(28696, 0, 0), (24600, 0, 0), (16444, 1, 1), (8195, 1008, 2), (12291, 1009, 2), (4099, 0, 0), (6, 2, 2)] = true := by kernel_rfl
set_option maxRecDepth 100000 in
theorem cn1_2_p9 : chkR (anyDrew false ls1) (fun tab => askIn false (dR tab)) (.of 4000) [(24600, 1, 23), (20504, 0, 0), (12348, 2, 59), (8199, 1008, 6), (4099, 2, 2), (6, 1, 1)] = true := by kernel_rfl
set_option maxRecDepth 100000 in
theorem cn1_2_p3 : chkR (anyDrew false ls1) (fun tab => askIn false (dR tab)) (.of 4000) [(24600, 1, 23), (20504, 1, 23), (12348, 0, 0), (8199, 1008, 6), (4099, 2, 2), (6, 1, 1)] = true := by kernel_rfl
set_option maxRecDepth 100000 in
theorem cn1_0_p10 : chkR (anyDrew false ls1) (fun tab => askIn false (dR tab)) (.of 4000) [(24600, 0, 0), (20504, 1, 23), (12348, 2, 59), (8195, 1008, 2), (4099, 0, 0), (6, 1, 1)] = true := by kernel_rfl
set_option maxRecDepth 100000 in
theorem cn1_2_p2 : chkR (anyDrew false ls1) (fun tab => askIn false (dR tab)) (.of 4000) [(24600, 0, 0), (20504, 1, 23), (12348, 0, 0), (8199, 1008, 6), (4099, 2, 2), (6, 1, 1)] = true := by kernel_rfl
set_option maxRecDepth 100000 in
theorem cn1_1_p1 : chkR (anyDrew false ls1) (fun tab => askIn false (dR tab)) (.of 4000) [(24600, 1, 23), (20504, 0, 0), (12348, 0, 0), (8197, 1008, 4), (4099, 1, 1), (6, 1, 1)] = true := by kernel_rfl
set_option maxRecDepth 100000 in
theorem cn1_0_p4 : chkR (anyDrew false ls1) (fun tab => askIn false (dR tab)) (.of 4000) [(24600, 0, 0), (20504, 0, 0), (12348, 1, 1), (8195, 1008, 2), (4099, 0, 0), (6, 1, 1)] = true := by kernel_rfl
set_option maxRecDepth 100000 in
theorem cn0_2_p9 : chkR (anyDrew false ls0) (fun tab => askIn false (dR tab)) (.of 4000) [(20504, 1, 23), (16408, 0, 0), (8252, 2, 59), (4099, 2, 2), (6, 0, 0)] = true := by kernel_rfl
set_option maxRecDepth 100000 in
theorem cn0_2_p3 : chkR (anyDrew false ls0) (fun tab => askIn false (dR tab)) (.of 4000) [(20504, 1, 23), (16408, 1, 23), (8252, 0, 0), (4099, 2, 2), (6, 0, 0)] = true := by kernel_rfl
set_option maxRecDepth 100000 in
theorem cn0_0_p10 : chkR (anyDrew false ls0) (fun tab => askIn false (dR tab)) (.of 4000) [(20504, 0, 0), (16408, 1, 23), (8252, 2, 59), (4099, 0, 0), (6, 0, 0)] = true := by kernel_rfl
set_option maxRecDepth 100000 in
theorem cn0_2_p2 : chkR (anyDrew false ls0) (fun tab => askIn false (dR tab)) (.of 4000) [(20504, 0, 0), (16408, 1, 23), (8252, 0, 0), (4099, 2, 2), (6, 0, 0)] = true := by kernel_rfl
set_option maxRecDepth 100000 in
theorem cn0_1_p1 : chkR (anyDrew false ls0) (fun tab => askIn false (dR tab)) (.of 4000) [(20504, 1, 23), (16408, 0, 0), (8252, 0, 0), (4099, 1, 1), (6, 0, 0)] = true := by kernel_rfl
set_option maxRecDepth 100000 in
theorem cn0_0_p4 : chkR (anyDrew false ls0) (fun tab => askIn false (dR tab)) (.of 4000) [(20504, 0, 0), (16408, 0, 0), (8252, 1, 1), (4099, 0, 0), (6, 0, 0)] = true := by kernel_rfl
end Go.Proofs.Ytnglbchhlpbgkab.newtonDrawn
